import PyProof.Rows.All
import Wide.All
import OpenK.AllK
import Wide.FinOn
import HandS.Base
import HandS.Call
import HandS.List
import HandS.Comp
import HandS.Ends
import HandS.Dict
import HandS.Iter
import HandS.Text
import HandS.Words
import HandS.WordsList
import HandS.WordsDict
import HandS.Exc
import HandS.TryOnly
import HandS.ExcOwn
import HandS.ExcInit
import HandS.WordsExc
import HandS.HotCalls
import KE.KExcIs
import PyProof.ReprRoads
import PyProof.ReprLen
import HandS.More
import HandS.IsInst
import HandS.Walk
import HandS.ListItems
import HandS.Wide
import HandS.Strs
import KE.KSetAt
import HandS.DictComp
import PyProof.ListStr
import HandS.Evl
import HandS.Style
import PySem.Challenge.RW_stillmain_k41_cost_of
set_option Elab.async false
set_option linter.all false
set_option maxRecDepth 100000
set_option maxHeartbeats 4000000
/-! Part 1: a def that runs where no guard stands (G), so that repr of data may be told. -/
namespace SM
open PySem PySem.Spec PyProof.Rows L2
/-- nothing is being shown around -/
abbrev Quiet (A : Around) : Prop := A.guards = some []
theorem quiet_deeper {A : Around} (q : Quiet A) (env : Env) : Quiet (A.deeper env) := q
/-- a def's promise, where nothing is being shown around -/
structure FnG (P : Program) (w : World) (K : PySem.W.Frag) (mg : Str → Option Value) (base : Heap) (CX : CXT) (k : Nat) (f : Addr) (fd : FuncData) (ps : List Str) (sp : Sp) : Prop where
  len : ∀ vs H Q E, sp vs H Q E → vs.length = ps.length
  go : ∀ (A : Around) (outer : List Env) (s : Shared) (H : Hp) (args : Args) (us : List Value) (vs : List V) (Q : VK) (E : XK), Quiet A → Room k A → Env0 P w K mg base A outer s H → BindsTo s fd args (ps.zip us) → Vals vs us → sp vs H Q E →
    codeAny (model P w) A (.call (.ref f) args) (CR CX outer P w H s Q E) s
section
variable {P : Program} {w : World} {K : PySem.W.Frag} {mg : Str → Option Value} {base : Heap} {CX : CXT} {k : Nat} {f : Addr} {fd : FuncData} {ps : List Str} {sp : Sp}
theorem FnG.of (F : FnOk P w K mg base CX k f fd ps sp) : FnG P w K mg base CX k f fd ps sp :=
  ⟨F.len, fun A outer s H args us vs Q E _ hr e0 hb r h => F.run A outer s H args us vs Q E hr e0 hb r h⟩
theorem FnG.up {j : Nat} (F : FnG P w K mg base CX j f fd ps sp) (h : j ≤ k) : FnG P w K mg base CX k f fd ps sp :=
  ⟨F.len, fun A outer s H args us vs Q E q hr => F.go A outer s H args us vs Q E q (hr.mono h)⟩
end
section
variable {CX : CXT} {P : Program} {w : World} {K : PySem.W.Frag} {mg : Str → Option Value} {base : Heap}
/-- a quiet def by its body -/
theorem fnG_body {k : Nat} {f : Addr} {name qual : Str} {params : Arguments} {body : List Stmt} {scope : Scope} {dV kV doc pm cdv ct oc : Value} {an od : Option Addr} {osl : Array (Option Value)} {N ps : List Str} {sp : Sp}
    (lk : K.lookup f = some ⟨oc, od, .func (PySem.W.fnOf name qual params body scope dV kV doc pm an cdv ct), osl⟩) (hcd : PySem.W.codeIn K cdv qual = true) (S : FnScope N ps scope) (len : ∀ vs H Q E, sp vs H Q E → vs.length = ps.length)
    (bd : ∀ (A : Around) (outer : List Env) (s : Shared) (H : Hp) (vs : List V) (Q : VK) (E : XK), Quiet A → Room k (A.deeper (envOfC qual scope s.heap.objs.size f cdv)) → sp vs H Q E →
      ∃ t, PSs (cxOf CX P w K mg base N qual scope f cdv A outer s H E) body t ∧ t { nx := fun _ H' => Q .non H', rt := Q } (L2.start N vs) H) :
    FnG P w K mg base CX (k + 1) f (PySem.W.fnOf name qual params body scope dV kV doc pm an cdv ct) ps sp where
  len := len
  go A outer s H args us vs Q E qa hr e0 hb r hsp := by
    have hvl := len vs H Q E hsp
    have kIn : K.In s.heap := e0.mod.kin.keeps fun b o z => (e0.bs b o z).1
    have noLim : s.heap.NoLimit := e0.mod.nolimit.keeps fun b o z => (e0.bs b o z).1
    have kinds : ∀ y ∈ ps.zip us, scope.names.lookup y.1 = some .local ∨ (scope.names.lookup y.1 = some .cell ∧ ((cellsFrom (s.heap.objs.size + 1) scope.names []).lookup y.1).isSome = true) := by
      rintro ⟨n, v⟩ hy
      exact (S.par n (List.of_mem_zip hy).1).imp id fun q => ⟨q, PySem.W.cellsFrom_some _ _ _ (.inl q)⟩
    refine codeAny_call_function hr.depth (kIn f _ lk) rfl S.co S.gen rfl (PySem.W.codeRec_of kIn hcd) (hb _ _ _ _ ?_)
    refine wpAny_newFunctionEnv_cells S.kind kinds fun env he s1 x => ?_
    subst he
    obtain ⟨t, ht, hq⟩ := bd A outer s H vs Q E qa (hr.deeper _) hsp
    have J : Inv (cxOf CX P w K mg base N qual scope f cdv A outer s H E) [] (L2.start N vs) H s1 := inv_start S hr.hd e0 hvl r x
    refine ⟨noLim.keeps x.toInCall.keep, codeAny_func (wpAny_mono (ht.run [] s1 _ H _ J hq) ?_ fun _ _ hs => hs)⟩
    intro fl s2 hs
    cases fl with
    | ret u =>
      obtain ⟨v, σ2, H2, J2, rv, q⟩ := hs
      exact ⟨v, H2, J2.os, J2.bare, J2.base, J2.hok, rv, q⟩
    | next =>
      obtain ⟨σ2, H2, J2, q⟩ := hs
      exact ⟨V.non, H2, J2.os, J2.bare, J2.base, J2.hok, rfl, q⟩
    | brk =>
      obtain ⟨_, _, _, z⟩ := hs
      exact z.elim
    | cont =>
      obtain ⟨_, _, _, z⟩ := hs
      exact z.elim
/-- the same of a def of the text, nothing is let out -/
theorem Fun.okG {x qual : Str} {st : Stmt} {f : Addr} {fd : FuncData} {N ps : List Str} {k : Nat} {sp : Sp} (F : L2.Fun K x qual st f fd) (S : FnScope N ps (defScope st)) (len : ∀ vs H Q E, sp vs H Q E → vs.length = ps.length)
    (bd : ∀ (cdv : Value) (A : Around) (outer : List Env) (s : Shared) (H : Hp) (vs : List V) (Q : VK) (E : XK), Quiet A → Room k (A.deeper (envOfC qual (defScope st) s.heap.objs.size f cdv)) → sp vs H Q E →
      ∃ t, PSs (cxOf CX0 P w K mg base N qual (defScope st) f cdv A outer s H E).nox (defBody st) t ∧ t { nx := fun _ H' => Q .non H', rt := Q } (L2.start N vs) H) : FnG P w K mg base CX0 (k + 1) f fd ps sp := by
  obtain ⟨oc, od, kV, doc, pm, an, cdv, ct, osl, rfl, lk, hcd⟩ := F.ex
  refine fnG_body lk hcd S len fun A outer s H vs Q E qa hr hsp => ?_
  obtain ⟨t, ht, hq⟩ := bd cdv A outer s H vs Q E qa hr hsp
  exact ⟨t, ht.nox, hq⟩
end
section
variable {X : Cx} {CX : CXT} {k : Nat} {f : Addr} {fd : FuncData} {ps : List Str} {sp : Sp} {E : XK} {x : Str} {p pos : Pos} {e : Expr} {es : List Expr} {t : TA}
theorem runG {pins : List (Addr × Obj)} {σ : L2.St} {H : Hp} {s : Shared} {Q : VK} {us : List Value} {vs : List V} (F : FnG X.prog X.w X.K X.mg X.base CX k f fd ps sp) (qa : Quiet X.A) (hr : Room k X.A) (hb : Binds X.K fd ps []) (hx : Passes CX X E)
    (I : Inv X pins σ H s) (r : Vals vs us) (h : sp vs H Q E) : wpAny (model X.prog X.w) X.A (call (.ref f) us) (EP X pins σ Q) X.xe s := by
  have el : us.length = ps.length := r.length.symm.trans (F.len vs H Q E h)
  have bb := hb s us I.kIn (by rw [List.append_nil]; exact el)
  rw [List.append_nil] at bb
  refine wpAny_call (codeAny_mono (F.go X.A X.stack s H ⟨us, []⟩ us vs Q E qa hr I.env0 bb r h) ?_)
  intro res s2 hq
  match res, hq with
  | .error er, hq => exact hx pins σ H s er s2 I hq
  | .ok (.ret u), hq => exact I.after hq
  | .ok .next, hq => exact False.elim hq
  | .ok .brk, hq => exact False.elim hq
  | .ok .cont, hq => exact False.elim hq
/-- f(e, ..), f a quiet def, called where it is quiet -/
theorem pe_callG (F : FnG X.prog X.w X.K X.mg X.base CX k f fd ps sp) (qa : Quiet X.A) (hr : Room k X.A) (hg : Gl X x) (hm : X.mg x = some (.ref f)) (hk : PySem.W.keepIn X.K (.ref f) = true) (hb : Binds X.K fd ps []) (hx : Passes CX X E)
    (ha : PA X (e :: es) t) (hdb : (x == ("__debug__" : Str)) = false := by decide) (he : starEach (e :: es) X.env = (false, eval e X.env) :: starEach es X.env := by rfl) (hpl : (backTo pos (starEach es X.env)).any (·.1) = false := by rfl) :
    PE X (.Call (.Name x p) (e :: es) [] pos) (tCall sp [] E t) := by
  refine ⟨fun pins s σ H Q I h => wpAny_Call_Name_kw (ld_glob I hg hm ?_ hdb)⟩
  refine PySem.W.callWith_K (h₀ := X.base) I.ok.mod.kin hk (thn (ha.run pos pins s σ H _ I h) ?_) he hpl
  rintro us s1 ⟨vs, H1, I1, r, q⟩
  rw [List.append_nil] at q
  exact ⟨I1.kIn, runG F qa hr hb hx I1 r q⟩
end
end SM
/-! Part F: defs by name, no address told. -/
namespace SM
open PySem PySem.Spec PyProof.Rows L2
/-- the def st stands at the module's name x -/
def DefAt (K : PySem.W.Frag) (mg : Str → Option Value) (x : Str) (st : Stmt) : Prop := ∃ f fd, L2.Fun K x x st f fd ∧ mg x = some (.ref f)
/-- whoever calls x by its name has the promise sp -/
def OkF (P : Program) (w : World) (K : PySem.W.Frag) (mg : Str → Option Value) (base : Heap) (CX : CXT) (k : Nat) (x : Str) (ps : List Str) (sp : Sp) : Prop :=
  ∃ f fd, mg x = some (.ref f) ∧ PySem.W.keepIn K (.ref f) = true ∧ Binds K fd ps [] ∧ FnOk P w K mg base CX k f fd ps sp
/-- .. where it is quiet -/
def OkQ (P : Program) (w : World) (K : PySem.W.Frag) (mg : Str → Option Value) (base : Heap) (CX : CXT) (k : Nat) (x : Str) (ps : List Str) (sp : Sp) : Prop :=
  ∃ f fd, mg x = some (.ref f) ∧ PySem.W.keepIn K (.ref f) = true ∧ Binds K fd ps [] ∧ FnG P w K mg base CX k f fd ps sp
section
variable {P : Program} {w : World} {K : PySem.W.Frag} {mg : Str → Option Value} {base : Heap} {CX : CXT} {k : Nat} {x : Str} {ps : List Str} {sp : Sp}
theorem OkF.up {j : Nat} (F : OkF P w K mg base CX j x ps sp) (h : j ≤ k) : OkF P w K mg base CX k x ps sp :=
  let ⟨f, fd, a, b, c, d⟩ := F; ⟨f, fd, a, b, c, d.mono h⟩
theorem OkQ.up {j : Nat} (F : OkQ P w K mg base CX j x ps sp) (h : j ≤ k) : OkQ P w K mg base CX k x ps sp :=
  let ⟨f, fd, a, b, c, d⟩ := F; ⟨f, fd, a, b, c, d.up h⟩
theorem OkF.q (F : OkF P w K mg base CX k x ps sp) : OkQ P w K mg base CX k x ps sp :=
  let ⟨f, fd, a, b, c, d⟩ := F; ⟨f, fd, a, b, c, .of d⟩
/-- binding of written parameters -/
abbrev BindsBy (x : Str) (st : Stmt) (ps : List Str) : Prop := ∀ (kV doc pm : Value) (an : Option Addr) (cdv ct : Value) (us : List Value), us.length = ps.length →
  bindArgs (PySem.W.fnOf x x (defArgs st) (defBody st) (defScope st) .none kV doc pm an cdv ct) ⟨us, []⟩ = pure (ps.zip us)
/-- a def that lets nothing out -/
theorem DefAt.ok {st : Stmt} {N : List Str} (D : DefAt K mg x st) (S : FnScope N ps (defScope st)) (b : BindsBy x st ps) (len : ∀ vs H Q E, sp vs H Q E → vs.length = ps.length)
    (bd : ∀ (f : Addr) (cdv : Value) (A : Around) (outer : List Env) (s : Shared) (H : Hp) (vs : List V) (Q : VK) (E : XK), Room k (A.deeper (envOfC x (defScope st) s.heap.objs.size f cdv)) → sp vs H Q E →
      ∃ t, PSs (cxOf CX0 P w K mg base N x (defScope st) f cdv A outer s H E).nox (defBody st) t ∧ t { nx := fun _ H' => Q .non H', rt := Q } (L2.start N vs) H) : OkF P w K mg base CX0 (k + 1) x ps sp := by
  obtain ⟨f, fd, F, g⟩ := D
  exact ⟨f, fd, g, F.kp, F.binds b, F.ok S len fun cdv A outer s H vs Q E hr h => bd f cdv A outer s H vs Q E hr h⟩
/-- .. that may raise -/
theorem DefAt.okX {st : Stmt} {N : List Str} (D : DefAt K mg x st) (S : FnScope N ps (defScope st)) (b : BindsBy x st ps) (len : ∀ vs H Q E, sp vs H Q E → vs.length = ps.length)
    (bd : ∀ (f : Addr) (cdv : Value) (A : Around) (outer : List Env) (s : Shared) (H : Hp) (vs : List V) (Q : VK) (E : XK), Room k (A.deeper (envOfC x (defScope st) s.heap.objs.size f cdv)) → sp vs H Q E →
      ∃ t, PSs (cxOf (L2.CX P w) P w K mg base N x (defScope st) f cdv A outer s H E) (defBody st) t ∧ t { nx := fun _ H' => Q .non H', rt := Q } (L2.start N vs) H) : OkF P w K mg base (L2.CX P w) (k + 1) x ps sp := by
  obtain ⟨f, fd, F, g⟩ := D
  exact ⟨f, fd, g, F.kp, F.binds b, F.okX S len fun cdv A outer s H vs Q E hr h => bd f cdv A outer s H vs Q E hr h⟩
/-- .. that wants it quiet -/
theorem DefAt.okQ {st : Stmt} {N : List Str} (D : DefAt K mg x st) (S : FnScope N ps (defScope st)) (b : BindsBy x st ps) (len : ∀ vs H Q E, sp vs H Q E → vs.length = ps.length)
    (bd : ∀ (f : Addr) (cdv : Value) (A : Around) (outer : List Env) (s : Shared) (H : Hp) (vs : List V) (Q : VK) (E : XK), Quiet A → Room k (A.deeper (envOfC x (defScope st) s.heap.objs.size f cdv)) → sp vs H Q E →
      ∃ t, PSs (cxOf CX0 P w K mg base N x (defScope st) f cdv A outer s H E).nox (defBody st) t ∧ t { nx := fun _ H' => Q .non H', rt := Q } (L2.start N vs) H) : OkQ P w K mg base CX0 (k + 1) x ps sp := by
  obtain ⟨f, fd, F, g⟩ := D
  exact ⟨f, fd, g, F.kp, F.binds b, Fun.okG F S len fun cdv A outer s H vs Q E qa hr h => bd f cdv A outer s H vs Q E qa hr h⟩
end
section
variable {X : Cx} {CX : CXT} {k : Nat} {ps : List Str} {sp : Sp} {E : XK} {x : Str} {p pos : Pos} {e : Expr} {es : List Expr} {t : TA}
theorem pe_f (F : OkF X.prog X.w X.K X.mg X.base CX k x ps sp) (hr : Room k X.A) (hx : Passes CX X E) (ha : PA X (e :: es) t) (hg : Gl X x := by rfl) (hdb : (x == ("__debug__" : Str)) = false := by decide)
    (he : starEach (e :: es) X.env = (false, eval e X.env) :: starEach es X.env := by rfl) (hpl : (backTo pos (starEach es X.env)).any (·.1) = false := by rfl) : PE X (.Call (.Name x p) (e :: es) [] pos) (tCall sp [] E t) := by
  obtain ⟨f, fd, a, b, c, d⟩ := F
  exact pe_call d hr hg a b c .nil hx ha hdb he hpl
theorem pe_q (F : OkQ X.prog X.w X.K X.mg X.base CX k x ps sp) (qa : Quiet X.A) (hr : Room k X.A) (hx : Passes CX X E) (ha : PA X (e :: es) t) (hg : Gl X x := by rfl) (hdb : (x == ("__debug__" : Str)) = false := by decide)
    (he : starEach (e :: es) X.env = (false, eval e X.env) :: starEach es X.env := by rfl) (hpl : (backTo pos (starEach es X.env)).any (·.1) = false := by rfl) : PE X (.Call (.Name x p) (e :: es) [] pos) (tCall sp [] E t) := by
  obtain ⟨f, fd, a, b, c, d⟩ := F
  exact pe_callG d qa hr hg a b c hx ha hdb he hpl
/-- in a try's body: what is raised is wished for at the slots as they stand -/
theorem pe_fS {E : L2.St → XK} (F : OkF X.prog X.w X.K X.mg X.base CX k x ps sp) (hr : Room k X.A) (hx : ∀ σ, PassesAt CX X σ (E σ)) (ha : PA X (e :: es) t) (hg : Gl X x := by rfl) (hdb : (x == ("__debug__" : Str)) = false := by decide)
    (he : starEach (e :: es) X.env = (false, eval e X.env) :: starEach es X.env := by rfl) (hpl : (backTo pos (starEach es X.env)).any (·.1) = false := by rfl) : PE X (.Call (.Name x p) (e :: es) [] pos) (tCallS sp E t) := by
  obtain ⟨f, fd, a, b, c, d⟩ := F
  exact pe_callS d hr hg a b c hx ha hdb he hpl
end
/-! ### small facts -/
theorem if_t {c : Bool} {A B : Prop} (hc : c = true) (h : A) : if c = true then A else B := by
  rw [if_pos hc]
  exact h
theorem if_f {c : Bool} {A B : Prop} (hc : c = false) (h : B) : if c = true then A else B := by
  rw [hc, if_neg Bool.false_ne_true]
  exact h
theorem hu64 {A : Around} {k : Nat} (hr : Room k A) : A.units + 64 < cLine := hr.units
theorem hu0 {A : Around} {k : Nat} (hr : Room k A) : A.units < cLine := hr.units0
/-- what was tracked stays, a new thing beside -/
theorem Same.newp {H : Hp} {p : Addr} {o : HO} (h : H p = none) : Same H (upd H p o) := fun b u e => by
  rw [upd_ne (ne_of_none e h)]
  exact e
theorem Same.seqT {K : PySem.W.Frag} {H H' : Hp} {a : Addr} {xs : List V} (e : Same H H') (h : SqT K H a xs) : SqT K H' a xs := by
  rcases h with (h | ⟨o, h⟩) | h
  · exact .inl (.inl (e _ _ h))
  · exact .inl (.inr ⟨o, e _ _ h⟩)
  · exact .inr h
mutual
theorem dp_same {K : PySem.W.Frag} {H H' : Hp} (e : Same H H') : ∀ (d : PyData) (v : V), Dp K H v d → Dp K H' v d
  | .none, _, h => by cases h; exact .non
  | .bool _, _, h => by cases h; exact .bl _
  | .int _, _, h => by cases h; exact .int _
  | .str _, _, h => by cases h; exact .str _
  | .list ds, _, h => by cases h with | lst s t => exact .lst (L2.Same.seq e s) (dps_same e ds _ t)
  | .tuple ds, _, h => by cases h with | tup s t => exact .tup (Same.seqT e s) (dps_same e ds _ t)
  | .dict _, _, h => by cases h
theorem dps_same {K : PySem.W.Frag} {H H' : Hp} (e : Same H H') : ∀ (ds : List PyData) (vs : List V), DpAll K H vs ds → DpAll K H' vs ds
  | [], _, h => by cases h; exact .nil
  | d :: ds, _, h => by cases h with | cons a b => exact .cons (dp_same e d _ a) (dps_same e ds _ b)
end
end SM
/-! Part G: the bag of draws. -/
namespace SM
open PySem PySem.Spec PyProof.Rows L2
/-- l[i], i not below nought, for l[i] op= e -/
def gL (K : PySem.W.Frag) : V → V → Hp → VK → Prop := fun x y H Q => ∃ (p : Addr) (xs : List V) (i : Int) (v : V), x = .ref p ∧ y = .int i ∧ SqL K H p xs ∧ 0 ≤ i ∧ xs[i.toNat]? = some v ∧ Q v H
theorem get_list {X : Cx} : PGet X (gL X.K) := by
  intro pins s σ H o i ov iv Q I ro ri h
  obtain ⟨p, xs, n, v, rfl, rfl, sq, h0, hx, q⟩ := h
  obtain rfl : ov = Value.ref p := ro
  obtain ⟨t, rfl⟩ := ri
  obtain ⟨its, rv, pl, hz⟩ := I.list sq
  obtain ⟨u, eu, ru⟩ := rv.get hx
  have hi : n.toNat < xs.length := (List.getElem?_eq_some_iff.mp hx).1
  have l63 := line63
  exact wpAny_getItem_list pl.isList h0 (by omega) (by simpa using eu) ⟨v, H, I, ru, q⟩
/-- the bag at p: three numbers and the cells at q -/
structure BagIs (H : Hp) (p q : Addr) (a b c : Int) (ns : List Int) : Prop where
  top : H p = some (.lst [.int a, .int b, .int c, .ref q])
  low : H q = some (.lst (ns.map V.int))
  a0 : 0 ≤ a
  b0 : 0 ≤ b
  b1 : b < 2147483647
  c0 : 0 ≤ c
  nn : ∀ n ∈ ns, 0 ≤ n
def Bag (H : Hp) (p q : Addr) : Prop := ∃ a b c ns, BagIs H p q a b c ns
theorem Bag.ne {H : Hp} {p q : Addr} (B : Bag H p q) : p ≠ q := by
  obtain ⟨a, b, c, ns, B⟩ := B
  intro e
  subst e
  have z := B.top.symm.trans B.low
  have z2 := congrArg (fun o => match o with | some (HO.lst xs) => xs | _ => []) z
  have z3 : ([.int a, .int b, .int c, .ref p] : List V) = ns.map V.int := z2
  have z4 : V.ref p ∈ ns.map V.int := by rw [← z3]; simp
  obtain ⟨n, _, hn⟩ := List.mem_map.mp z4
  cases hn
/-- but for what stands at p all is as it was -/
def But (p : Addr) (H H' : Hp) : Prop := ∀ b, b ≠ p → H' b = H b
theorem But.refl (p : Addr) (H : Hp) : But p H H := fun _ _ => rfl
theorem But.trans {p : Addr} {H H1 H2 : Hp} (x : But p H H1) (y : But p H1 H2) : But p H H2 := fun b hb => (y b hb).trans (x b hb)
theorem But.upd {p : Addr} {H : Hp} {o : HO} : But p H (L2.upd H p o) := fun _ hb => upd_ne hb
theorem Bag.keep {H H' : Hp} {p q : Addr} (B : Bag H p q) (ep : H' p = H p) (eq : H' q = H q) : Bag H' p q := by
  obtain ⟨a, b, c, ns, B⟩ := B
  exact ⟨a, b, c, ns, ep.trans B.top, eq.trans B.low, B.a0, B.b0, B.b1, B.c0, B.nn⟩
theorem Bag.same {H H' : Hp} {p q : Addr} (B : Bag H p q) (e : Same H H') : Bag H' p q := by
  obtain ⟨a, b, c, ns, B⟩ := B
  exact ⟨a, b, c, ns, e _ _ B.top, e _ _ B.low, B.a0, B.b0, B.b1, B.c0, B.nn⟩
theorem Bag.there {H : Hp} {p q : Addr} (B : Bag H p q) : H p ≠ none ∧ H q ≠ none := by
  obtain ⟨a, b, c, ns, B⟩ := B
  refine ⟨fun z => ?_, fun z => ?_⟩
  · rw [B.top] at z
    cases z
  · rw [B.low] at z
    cases z
/-- _law_bag(script): a new bag -/
def spBag (K : PySem.W.Frag) : Sp := fun vs H Q _ => ∃ (a : Addr) (ns : List Int), vs = [.ref a] ∧ SqL K H a (ns.map V.int) ∧ ns.length ≤ 63 ∧
  ∀ (H' : Hp) (p q : Addr), Same H H' → H p = none → H q = none → Bag H' p q → Q (.ref p) H'
/-- _law_take(bag, m): a number from 0 to m - 1; the bag's own list alone is changed -/
def spTake : Sp := fun vs H Q _ => ∃ (p q : Addr) (m : Int), vs = [.ref p, .int m] ∧ Bag H p q ∧ 0 < m ∧ m < 1073741824 ∧
  ∀ (v : Int) (H' : Hp), 0 ≤ v → v < m → Bag H' p q → But p H H' → Q (.int v) H'
/-! the mathematics of a draw -/
theorem fst_ok {b : Int} (h0 : 0 ≤ b) (h1 : b < 2147483647) : 0 ≤ (b + 1) * 39373 % 1000000007 ∧ (b + 1) * 39373 % 1000000007 < 1000000007 := by
  constructor <;> omega
theorem snd_ok (z : Int) : 0 ≤ z % 998244353 ∧ z % 998244353 < 998244353 := by
  constructor <;> omega
theorem atI_some {α : Type} {xs : List α} {v : Int} (h0 : 0 ≤ v) (h1 : v < xs.length) : ∃ y, y ∈ xs ∧ atI xs v = some y := by
  have lt : v.toNat < xs.length := by omega
  refine ⟨xs[v.toNat], List.getElem_mem _, ?_⟩
  have e := atI_nat (xs := xs) (j := v.toNat) (v := xs[v.toNat]) (List.getElem?_eq_getElem lt)
  rw [Int.toNat_of_nonneg h0] at e
  exact e
theorem pos31 : (0 : Int) < 2147483647 := by decide
theorem posA : (0 : Int) < 1000000007 := by decide
theorem posB : (0 : Int) < 998244353 := by decide
end SM
/-! Part X: the program's errors: made with a field, raised, caught, asked. -/
namespace SM
open PySem PySem.Spec PyProof.Rows L2
/-- a class of errors, by what the top has written: C, its bases' chain bm -/
structure ErrC (K : PySem.W.Frag) (C : Addr) (bm : List Value) : Prop where
  look : ∃ nm q N bs sn sub ab col dd k0 k1 k2 k3 k5, K.lookup C = some (excClassObj nm q C N bs bm true sn sub ab col dd k0 k1 k2 k3 k5 "ValueError.__new__")
  ve : PySem.HandSPX.refsVE bm = true
  sa : PySem.W.findIn K (.ref C) "__setattr__" = some (some (.builtin "object.__setattr__"))
  ga : PySem.W.findIn K (.ref C) "__getattribute__" = some (some (.builtin "BaseException.__getattribute__"))
  gg : PySem.W.findIn K (.ref C) "__getattr__" = some none
  ac : PySem.W.findIn K (.ref C) "__class__" = some (some (.builtin "object.__class__"))
  kC : PySem.W.keepIn K (.ref C) = true
  hd : PySem.W.hasDictIn K C = true
/-- what holds of object.__class__ -/
structure ClsGet (K : PySem.W.Frag) : Prop where
  sp : PySem.W.specialIn K (.builtin "object.__class__") "__get__" = some (some (.builtin "getset_descriptor.__get__"))
  tk : PySem.W.takesIn K (.builtin "object.__class__") = some true
section
variable {K : PySem.W.Frag} {C D : Addr} {bm bmD : List Value}
theorem ErrC.cls (T : ErrC K C bm) : ∃ cd, PySem.W.clsIn K C = some cd ∧ cd.mro = .ref C :: bm := by
  obtain ⟨nm, q, N, bs, sn, sub, ab, col, dd, k0, k1, k2, k3, k5, e⟩ := T.look
  refine ⟨{ name := nm, bases := bs, mro := .ref C :: bm, ns := N, qualname := q, hasDict := true, slotNames := sn, subclasses := sub, abstract := ab, collection := col, hasDel := false }, ?_, rfl⟩
  unfold PySem.W.clsIn
  rw [e] <;> rfl
theorem ErrC.some (T : ErrC K C bm) : (PySem.W.clsIn K C).isSome = true := by
  obtain ⟨cd, e, _⟩ := T.cls
  rw [e]
  rfl
theorem ErrC.mro (T : ErrC K C bm) (b : Value) : PySem.W.mroIn K C b = Option.some ((Value.ref C :: bm).contains b) := by
  obtain ⟨cd, e, em⟩ := T.cls
  unfold PySem.W.mroIn
  rw [e, Option.bind_some, em]
  rfl
theorem ErrC.ty (T : ErrC K C bm) : PySem.W.typeIn K (.ref C) = Option.some (.type "type") := by
  obtain ⟨nm, q, N, bs, sn, sub, ab, col, dd, k0, k1, k2, k3, k5, e⟩ := T.look
  show (K.lookup C).map (·.cls) = _
  rw [e]
  rfl
theorem ErrC.base (T : ErrC K C bm) (x : String) (h : PySem.HandSPX.veTail.contains (.type x) = true) : PySem.W.subIn K (.ref C) (.type x) = Option.some true := by
  show PySem.W.mroIn K C (.type x) = _
  rw [T.mro]
  have e := PySem.HandSPX.refsVE_contains x bm T.ve
  rw [h] at e
  show Option.some ((Value.type x == Value.ref C) || bm.contains (.type x)) = _
  rw [e, Bool.or_true]
theorem ErrC.bexc (T : ErrC K C bm) : PySem.W.subIn K (.ref C) (.type "BaseException") = Option.some true := T.base "BaseException" (by decide +kernel)
theorem ErrC.oex (T : ErrC K C bm) : OexC K C := by
  obtain ⟨nm, q, N, bs, sn, sub, ab, col, dd, k0, k1, k2, k3, k5, e⟩ := T.look
  exact ⟨⟨nm, q, N, bs, bm, sn, sub, ab, col, dd, k0, k1, k2, k3, k5, e, T.ve⟩, T.sa, T.bexc, T.ty, T.kC⟩
/-- is the error of C one of D's? -/
theorem ErrC.kit (T : ErrC K C bm) (U : ErrC K D bmD) : PySem.W.kitOne K (.ref C) (.ref D) = Option.some ((Value.ref C :: bm).contains (.ref D)) := by
  unfold PySem.W.kitOne
  by_cases h : (Value.ref C == Value.ref D) = true
  · rw [if_pos h]
    have e : C = D := Value.ref.inj (beq_iff_eq.mp h)
    subst e
    simp
  · rw [if_neg h]
    show (if ((PySem.W.clsIn K D).isSome && PySem.W.typeIn K (.ref D) == Option.some (.type "type")) = true then PySem.W.mroIn K C (.ref D) else none) = _
    rw [U.some, U.ty, T.mro, if_pos (by decide)]
theorem ErrC.kitV (T : ErrC K C bm) (x : String) (h : PySem.HandSPX.veTail.contains (.type x) = true) (m : PySem.W.kitMeta x = true) : PySem.W.kitOne K (.ref C) (.type x) = Option.some true := by
  unfold PySem.W.kitOne
  rw [if_neg (show ¬ ((Value.ref C == Value.type x) = true) from fun z => Bool.noConfusion z)]
  show (if PySem.W.kitMeta x = true then PySem.W.subIn K (.ref C) (.type x) else none) = _
  rw [if_pos m, T.base x h]
theorem ErrC.exm (T : ErrC K C bm) (U : ErrC K D bmD) : PySem.W.exmOne K (.ref C) (.ref D) = Option.some ((Value.ref C :: bm).contains (.ref D)) := by
  unfold PySem.W.exmOne
  rw [U.bexc, if_pos (by decide)]
  show (if ((PySem.W.clsIn K D).isSome && PySem.W.typeIn K (.ref D) == Option.some (.type "type")) = true then PySem.W.mroIn K C (.ref D) else none) = _
  rw [U.some, U.ty, T.mro, if_pos (by decide)]
end
theorem nodup_ix' {α : Type} {l : List α} (hN : l.Nodup) {i j : Nat} {x : α} (a : l[i]? = Option.some x) (b : l[j]? = Option.some x) : i = j := by
  obtain ⟨h1, e1⟩ := List.getElem?_eq_some_iff.mp a
  obtain ⟨h2, e2⟩ := List.getElem?_eq_some_iff.mp b
  exact (List.getElem_inj hN).mp (e1.trans e2.symm)
/-! ### an error with one field, made and raised -/
/-- __init__(self, f): self.f = f, of an error that is being made -/
def spExc (C : Addr) (f : Str) : Sp := fun vs H Q _ => ∃ (a : Addr) (y : V), vs = [.ref a, y] ∧ H a = Option.some (exo a C Option.none) ∧
  ∀ dx, H dx = Option.none → dx ≠ a → Q .non (upd (upd H dx (exd dx [(f, y)])) a (exo a C (Option.some dx)))
/-- the class's __init__ as the top has written it -/
def InitAt (K : PySem.W.Frag) (C : Addr) (q : Str) (st : Stmt) : Prop := ∃ (fI : Addr) (fd : FuncData), L2.Fun K "__init__" q st fI fd ∧ PySem.W.findIn K (.ref C) "__init__" = Option.some (Option.some (.ref fI)) ∧ PySem.W.typeIn K (.ref fI) = Option.some (.type "function")
def InitOk (P : Program) (w : World) (K : PySem.W.Frag) (mg : Str → Option Value) (base : Heap) (C : Addr) (f : Str) : Prop :=
  ∃ (fI : Addr) (fd : FuncData), PySem.W.findIn K (.ref C) "__init__" = Option.some (Option.some (.ref fI)) ∧ PySem.W.typeIn K (.ref fI) = Option.some (.type "function") ∧ Binds K fd [("self" : Str), f] [] ∧ FnOk P w K mg base CX0 1 fI fd [("self" : Str), f] (spExc C f)
theorem init_ok {P : Program} {w : World} {K : PySem.W.Frag} {mg : Str → Option Value} {base : Heap} {C fI : Addr} {bm : List Value} {f q : Str} {st : Stmt} {fd : FuncData} (F : L2.Fun K "__init__" q st fI fd) (T : ErrC K C bm) (no : PySem.W.findIn K (.ref C) f = Option.some Option.none)
    (S : FnScope [("self" : Str), f] [("self" : Str), f] (defScope st))
    (hb : ∀ (cdv : Value) (A : Around) (outer : List Env) (s : Shared) (H : Hp) (E : XK), PSs (cxOf CX0 P w K mg base [("self" : Str), f] q (defScope st) fI cdv A outer s H E).nox (defBody st) (tOst K f (tVar 0) (tVar 1))) : FnOk P w K mg base CX0 1 fI fd [("self" : Str), f] (spExc C f) := by
  refine F.ok S (fun vs H Q E h => ?_) (fun cdv A outer s H vs Q E hr h => ⟨tOst K f (tVar 0) (tVar 1), hb cdv A outer s H E, ?_⟩)
  · obtain ⟨a, y, rfl, _⟩ := h
    rfl
  · obtain ⟨a, y, rfl, ha, k⟩ := h
    exact ⟨y, rfl, .ref a, rfl, a, C, rfl, T.oex, no, .inl ⟨ha, k⟩⟩
theorem PS.imp {X : Cx} {st : Stmt} {t t' : TS} (h : PS X st t) (i : ∀ D σ H, t' D σ H → t D σ H) : PS X st t' := ⟨fun pins s σ H D I q => h.run pins s σ H D I (i D σ H q)⟩
/-- what raise C(e) asks: see raise1 -/
def tRaise1 (C : Addr) (f : Str) (W : WX) (te : TE) : TS := fun _ σ H => tMkO C (spExc C f) [] (tCons te tNil) σ H fun cls d H' => W cls d σ H'
theorem made_eq {H : Hp} {a dx : Addr} {o1 o2 o3 : HO} {u : HO} (ha : H a = Option.none) (n : dx ≠ a) : upd (L2.del (upd (upd (upd H a o1) dx o2) a o3) a) dx u = upd H dx u := by
  funext b
  by_cases h1 : b = dx
  · subst h1
    rw [upd_same, upd_same]
  · rw [upd_ne h1, upd_ne h1]
    by_cases h2 : b = a
    · subst h2
      rw [L2.del_same, ha]
    · rw [L2.del_ne h2, upd_ne h2, upd_ne h1, upd_ne h2]
theorem ps_raise1 {X : Cx} {C : Addr} {bm : List Value} {f x : Str} {W : WX} {e : Expr} {te : TE} {p pos pos2 : Pos} (hc : X.calm = true) (T : ErrC X.K C bm) (IO : InitOk X.prog X.w X.K X.mg X.base C f) (gC : X.mg x = Option.some (.ref C)) (hr : Room 2 X.A) (tk : Takes X W) (he : PE X e te)
    (hg : Gl X x := by rfl) (hdb : (x == ("__debug__" : Str)) = false := by decide) (hs : starEach (e :: []) X.env = (false, eval e X.env) :: starEach [] X.env := by rfl) (hpl : (backTo pos (starEach [] X.env)).any (·.1) = false := by rfl) :
    PS X (.Raise (Option.some (.Call (.Name x p) [e] [] pos)) Option.none pos2) (tRaise1 C f W te) := by
  obtain ⟨fI, fd, iC, tI, hb, F1⟩ := IO
  exact ps_raise hc tk (pmk_oex (k := 1) T.oex iC tI F1 hr hb .nil pass0 hg gC (pa_cons he pa_nil hs) hdb hs hpl)
/-- .. for each new dict of the error, with the field's value -/
theorem raise1 {C : Addr} {f : Str} {y : V} {H1 : Hp} {Q : XK} (k : ∀ d, H1 d = Option.none → Q (.ref C) (Option.some d) (upd H1 d (.xd [(f, y)]))) :
    [y].length ≤ 1000 ∧ ∀ a, H1 a = Option.none → spExc C f (.ref a :: ([y] ++ [])) (upd H1 a (exo a C Option.none))
      (fun v H2 => v = .non ∧ ∃ (d : Addr) (fs : List (Str × V)), H2 a = Option.some (exo a C (Option.some d)) ∧ H2 d = Option.some (exd d fs) ∧ H1 d = Option.none ∧ Q (.ref C) (Option.some d) (upd (L2.del H2 a) d (.xd fs))) (fun _ _ _ => False) := by
  refine ⟨by show 1 ≤ 1000; decide, fun a ha => ⟨a, y, rfl, upd_same, fun dx hd nd => ⟨rfl, dx, [(f, y)], upd_same, ?_, ?_, ?_⟩⟩⟩
  · rw [upd_ne nd, upd_same]
  · rw [upd_ne nd] at hd
    exact hd
  · rw [upd_ne nd] at hd
    rw [made_eq ha nd]
    exact k dx hd
/-- raise C(), C without a field -/
theorem pmk_own0 {X : Cx} {C : Addr} {bmB : List Value} {B newId initId : String} {x : Str} {p pos : Pos} (F : ExcBaseFacts B newId initId bmB) (q : PySem.W.excIn X.K C bmB newId = true) (gC : X.mg x = Option.some (.ref C)) (kC : PySem.W.keepIn X.K (.ref C) = true) (r : Raises X (.ref C)) (hg : Gl X x := by rfl)
    (hdb : (x == ("__debug__" : Str)) = false := by decide) : PMk X (.Call (.Name x p) [] [] pos) (fun _ H Q => Q (.ref C) Option.none H) := by
  intro pins s σ H Q I h
  refine wpAny_Call_Name_kw (ld_glob I hg gC ?_ hdb)
  obtain ⟨bm, N, nm, qn, bs, hdct, sn, sub, ab, col, dd, k0, k1, k2, k3, k5, mN, hC, hN, hni, T⟩ := exc_obj I.kIn q
  refine PySem.W.callWith_K0 I.kIn kC (wpAny_call_exc_subT F T hC hN hni (fun h' e hm => ?_) (by show 0 ≤ sizeLine; exact Nat.zero_le _))
  exact mk_of I hm r h (I.hok.gone hm.new)
/-! ### an error that is handled: asked in a def that is called from the clause -/
/-- the context bears the error's object oe, at a; its class cls, its own dict d -/
structure Bears (X : Cx) (a : Addr) (oe : Obj) (cls : Value) (d : Option Addr) : Prop where
  mem : (a, oe) ∈ X.pn
  z : Zc cls d oe
  fl : ∃ vs, oe.data = .fields vs
/-- the error's own dict, where it has one, stands -/
def DictOk (d : Option Addr) (H : Hp) : Prop := ∀ dd, d = Option.some dd → ∃ fs, H dd = Option.some (.xd fs)
theorem dictOk_none (H : Hp) : DictOk Option.none H := fun _ z => nomatch z
theorem dictOk_new {H : Hp} {d : Addr} {fs : List (Str × V)} : DictOk (Option.some d) (upd H d (.xd fs)) := fun dd z => by
  cases z
  exact ⟨fs, upd_same⟩
theorem DictOk.same {d : Option Addr} {H H' : Hp} (h : DictOk d H) (e : Same H H') : DictOk d H' := fun dd z => let ⟨fs, q⟩ := h dd z; ⟨fs, e _ _ q⟩
section
variable {X : Cx} {pins : List (Addr × Obj)} {σ : L2.St} {H : Hp} {s : Shared} {a C : Addr} {oe : Obj} {d : Option Addr} {bm : List Value}
theorem inst_of (I : Inv X pins σ H s) (b : Bears X a oe (.ref C) d) (hd : DictOk d H) : ∃ od, PySem.W.InstAt s.heap a oe C od ∧ ∀ dd, d = Option.some dd → ∃ o, od = Option.some o ∧ s.heap.get? dd = Option.some o := by
  have ha : s.heap.get? a = Option.some oe := (I.pin (a, oe) (List.mem_append_left _ b.mem)).1
  obtain ⟨vs, hv⟩ := b.fl
  have no : PySem.W.notCls oe = true := by
    unfold PySem.W.notCls
    rw [hv] <;> rfl
  cases hdd : d with
  | none =>
    refine ⟨Option.none, ⟨ha, b.z.1, no, ?_⟩, fun dd z => nomatch z⟩
    rw [b.z.2, hdd]
    trivial
  | some dd =>
    obtain ⟨fs, hx⟩ := hd dd hdd
    obtain ⟨mA, hns, _⟩ := (show ObjOk X.prog X.w H s.heap dd (.xd fs) from I.hok dd _ hx)
    obtain ⟨od, ho, _⟩ := lookIn_ns hns
    refine ⟨Option.some od, ⟨ha, b.z.1, no, ?_⟩, fun d2 z => ?_⟩
    · rw [b.z.2, hdd]
      exact ho
    · cases z
      exact ⟨od, rfl, ho⟩
/-- isinstance(e, c), e the error -/
def rIsX (K : PySem.W.Frag) (C a : Addr) (d : Option Addr) : List V → Hp → VK → Prop := fun xs H Q => ∃ (c : V) (cv : Value) (b : Bool), xs = [.ref a, c] ∧ (∀ u, RelV c u → u = cv) ∧ PySem.W.kitOne K (.ref C) cv = Option.some b ∧ DictOk d H ∧ Q (.bl b) H
theorem call_isX (g : ClsGet X.K) (T : ErrC X.K C bm) (b : Bears X a oe (.ref C) d) : CallR X (.builtin "isinstance") (rIsX X.K C a d) := by
  intro pins s σ H xs us Q I r h
  obtain ⟨c, cv, k, rfl, hcv, e, hd, q⟩ := h
  obtain ⟨u1, u2, rfl, r1, r2⟩ := vals2 r
  obtain rfl : u1 = Value.ref a := r1
  have e2 := hcv _ r2
  subst e2
  obtain ⟨od, J, _⟩ := inst_of I b hd
  have mo : PySem.W.mroIn X.K C (.type "object") = Option.some true := T.base "object" (by decide +kernel)
  refine PySem.W.kia_one (PySem.W.kitx_exc T.some T.ga T.gg T.bexc T.ac g.sp g.tk mo) I.kIn J e (fun z => nomatch z) fun tk => ?_
  exact ⟨.bl k, H, I.tok tk, rfl, q⟩
/-- e.f, e the error -/
def tXfB (a : Addr) (d : Option Addr) (f : Str) (te : TE) : TE := fun σ H Q => te σ H fun x H1 => x = .ref a ∧ ∃ (dd : Addr) (fs : List (Str × V)) (v : V), d = Option.some dd ∧ H1 dd = Option.some (.xd fs) ∧ fs.lookup f = Option.some v ∧ Q v H1
theorem pe_xfB {e : Expr} {te : TE} {pos : Pos} {f : Str} (T : ErrC X.K C bm) (b : Bears X a oe (.ref C) d) (no : PySem.W.findIn X.K (.ref C) f = Option.some Option.none) (he : PE X e te) (hb : attributeBase e f X.env (eval e X.env) = eval e X.env := by rfl) :
    PE X (.Attribute e f pos) (tXfB a d f te) := by
  refine ⟨fun pins s σ H Q I h => attr_of hb (thn (he.run pins s σ H _ I h) ?_)⟩
  rintro u s1 ⟨x, H1, I1, rx, rfl, dd, fs, v, ed, ex, l, q⟩
  obtain rfl : u = Value.ref a := rx
  obtain ⟨od, J, hod⟩ := inst_of I1 b (fun d2 z => by rw [ed] at z; cases z; exact ⟨fs, ex⟩)
  obtain ⟨o, rfl, ho⟩ := hod dd ed
  obtain ⟨mA, hns, hr⟩ := (show ObjOk X.prog X.w H1 s1.heap dd (.xd fs) from I1.hok dd _ ex)
  obtain ⟨o2, ho2, hl⟩ := lookIn_ns hns
  rw [ho] at ho2
  cases ho2
  obtain ⟨w, hw, rw_⟩ := RelO.some_of (v := v) (o := mA f) (by rw [← l]; exact hr f)
  exact PySem.HandSPX.exc_get I1.kIn J T.ga T.gg T.bexc (PySem.W.findObj_own T.hd no rfl (by rw [hl, hw])) (handed_of rw_) ⟨v, H1, I1.tok _, rw_, q⟩
end
/-- a def that is called from a clause, the error handed in: its promise speaks of the error too -/
structure FnX (P : Program) (w : World) (K : PySem.W.Frag) (mg : Str → Option Value) (base : Heap) (k : Nat) (f : Addr) (fd : FuncData) (ps : List Str) (sp : Addr → Value → Option Addr → Sp) : Prop where
  len : ∀ a c d vs H Q E, sp a c d vs H Q E → vs.length = ps.length
  go : ∀ (A : Around) (outer : List Env) (s : Shared) (H : Hp) (args : Args) (us : List Value) (vs : List V) (Q : VK) (E : XK) (a : Addr) (oe : Obj) (c : Value) (d : Option Addr), L2H.RoomH k A → A.handled = Option.some (.ref a) → L2H.PinOk outer H s (a, oe) →
    Zc c d oe → (∃ vs, oe.data = .fields vs) → Env0 P w K mg base A outer s H → BindsTo s fd args (ps.zip us) → Vals vs us → sp a c d vs H Q E → codeAny (model P w) A (.call (.ref f) args) (CR CX0 outer P w H s Q E) s
section
variable {P : Program} {w : World} {K : PySem.W.Frag} {mg : Str → Option Value} {base : Heap}
theorem fnX_body {x qual : Str} {st : Stmt} {f : Addr} {fd : FuncData} {N ps : List Str} {k : Nat} {sp : Addr → Value → Option Addr → Sp} (F : L2.Fun K x qual st f fd) (S : FnScope N ps (defScope st)) (len : ∀ a c d vs H Q E, sp a c d vs H Q E → vs.length = ps.length)
    (bd : ∀ (cdv : Value) (A : Around) (outer : List Env) (s : Shared) (H : Hp) (vs : List V) (Q : VK) (E : XK) (a : Addr) (oe : Obj) (c : Value) (d : Option Addr), Zc c d oe → (∃ vs, oe.data = .fields vs) → L2H.RoomH k (A.deeper (envOfC qual (defScope st) s.heap.objs.size f cdv)) → sp a c d vs H Q E →
      ∃ t, PSs (L2H.cxH CX0 P w K mg base N qual (defScope st) f cdv A outer s H E (a, oe)).nox (defBody st) t ∧ t { nx := fun _ H' => Q .non H', rt := Q } (L2.start N vs) H) : FnX P w K mg base (k + 1) f fd ps sp where
  len := len
  go A outer s H args us vs Q E a oe c d hr hh hpin hz hf e0 hb r hsp := by
    obtain ⟨oc, od, kV, doc, pm, an, cdv, ct, osl, rfl, lk, hcd⟩ := F.ex
    have hvl := len a c d vs H Q E hsp
    have kIn : K.In s.heap := e0.mod.kin.keeps fun b o z => (e0.bs b o z).1
    have noLim : s.heap.NoLimit := e0.mod.nolimit.keeps fun b o z => (e0.bs b o z).1
    have kinds : ∀ y ∈ ps.zip us, (defScope st).names.lookup y.1 = Option.some .local ∨ ((defScope st).names.lookup y.1 = Option.some .cell ∧ ((cellsFrom (s.heap.objs.size + 1) (defScope st).names []).lookup y.1).isSome = true) := by
      rintro ⟨n, v⟩ hy
      exact (S.par n (List.of_mem_zip hy).1).imp id fun q => ⟨q, PySem.W.cellsFrom_some _ _ _ (.inl q)⟩
    refine codeAny_call_function hr.depth (kIn f _ lk) rfl S.co S.gen rfl (PySem.W.codeRec_of kIn hcd) (hb _ _ _ _ ?_)
    refine wpAny_newFunctionEnv_cells S.kind kinds fun env he s1 x1 => ?_
    subst he
    obtain ⟨t, ht, hq⟩ := bd cdv A outer s H vs Q E a oe c d hz hf (hr.deeper _) hsp
    have J : Inv (L2H.cxH CX0 P w K mg base N qual (defScope st) f cdv A outer s H E (a, oe)) [] (L2.start N vs) H s1 := L2H.inv_startH S hpin e0 hvl r x1
    refine ⟨noLim.keeps x1.toInCall.keep, codeAny_func (wpAny_mono (ht.nox.run [] s1 _ H _ J hq) ?_ fun _ _ hs => hs)⟩
    intro fl s2 hs
    cases fl with
    | ret u =>
      obtain ⟨v, σ2, H2, J2, rv, q⟩ := hs
      exact ⟨v, H2, J2.os, J2.bare, J2.base, J2.hok, rv, q⟩
    | next =>
      obtain ⟨σ2, H2, J2, q⟩ := hs
      exact ⟨V.non, H2, J2.os, J2.bare, J2.base, J2.hok, rfl, q⟩
    | brk =>
      obtain ⟨_, _, _, z⟩ := hs
      exact z.elim
    | cont =>
      obtain ⟨_, _, _, z⟩ := hs
      exact z.elim
def OkX (P : Program) (w : World) (K : PySem.W.Frag) (mg : Str → Option Value) (base : Heap) (k : Nat) (x : Str) (ps : List Str) (sp : Addr → Value → Option Addr → Sp) : Prop :=
  ∃ f fd, mg x = Option.some (.ref f) ∧ PySem.W.keepIn K (.ref f) = true ∧ Binds K fd ps [] ∧ FnX P w K mg base k f fd ps sp
theorem DefAt.okH {x : Str} {ps : List Str} {k : Nat} {st : Stmt} {N : List Str} {sp : Addr → Value → Option Addr → Sp} (D : DefAt K mg x st) (S : FnScope N ps (defScope st)) (b : BindsBy x st ps) (len : ∀ a c d vs H Q E, sp a c d vs H Q E → vs.length = ps.length)
    (bd : ∀ (f : Addr) (cdv : Value) (A : Around) (outer : List Env) (s : Shared) (H : Hp) (vs : List V) (Q : VK) (E : XK) (a : Addr) (oe : Obj) (c : Value) (d : Option Addr), Zc c d oe → (∃ vs, oe.data = .fields vs) → L2H.RoomH k (A.deeper (envOfC x (defScope st) s.heap.objs.size f cdv)) → sp a c d vs H Q E →
      ∃ t, PSs (L2H.cxH CX0 P w K mg base N x (defScope st) f cdv A outer s H E (a, oe)).nox (defBody st) t ∧ t { nx := fun _ H' => Q .non H', rt := Q } (L2.start N vs) H) : OkX P w K mg base (k + 1) x ps sp := by
  obtain ⟨f, fd, F, g⟩ := D
  exact ⟨f, fd, g, F.kp, F.binds b, fnX_body F S len fun cdv A outer s H vs Q E a oe c d hz hf hr h => bd f cdv A outer s H vs Q E a oe c d hz hf hr h⟩
end
section
variable {Y : Cx} {k : Nat} {ps : List Str} {sp : Addr → Value → Option Addr → Sp} {x : Str} {p pos : Pos} {e : Expr} {es : List Expr} {t : TA} {a : Addr} {oe : Obj} {c : Value} {d : Option Addr} {pn : List (Addr × Obj)}
/-- f(e, ..) in a clause -/
theorem pe_x (F : OkX Y.prog Y.w Y.K Y.mg Y.base k x ps sp) (hr : Room k Y.A) (hz : Zc c d oe) (hf : ∃ vs, oe.data = .fields vs) (ha : PA (Y.suite a ((a, oe) :: pn)) (e :: es) t) (hg : Gl Y x := by rfl) (hdb : (x == ("__debug__" : Str)) = false := by decide)
    (he : starEach (e :: es) Y.env = (false, eval e Y.env) :: starEach es Y.env := by rfl) (hpl : (backTo pos (starEach es Y.env)).any (·.1) = false := by rfl) : PE (Y.suite a ((a, oe) :: pn)) (.Call (.Name x p) (e :: es) [] pos) (tCall (sp a c d) [] E0 t) := by
  obtain ⟨f, fd, g, kp, hb, F⟩ := F
  refine ⟨fun pins s σ H Q I h => wpAny_Call_Name_kw (ld_glob I hg g ?_ hdb)⟩
  refine PySem.W.callWith_K (h₀ := Y.base) I.ok.mod.kin kp (thn (ha.run pos pins s σ H _ I h) ?_) he hpl
  rintro us s1 ⟨vs, H1, I1, r, q⟩
  rw [List.append_nil] at q
  refine ⟨I1.kIn, ?_⟩
  have el : us.length = ps.length := r.length.symm.trans (F.len _ _ _ vs H1 Q _ q)
  have bb := hb s1 us I1.kIn (by rw [List.append_nil]; exact el)
  rw [List.append_nil] at bb
  have pin := I1.pin (a, oe) (List.mem_append_left _ List.mem_cons_self)
  have pk : L2H.PinOk (Y.suite a ((a, oe) :: pn)).stack H1 s1 (a, oe) := ⟨pin.1, pin.2.1, fun hm => (List.mem_cons.mp (I1.stkSub a hm)).elim pin.2.2.1 pin.2.2.2.1, pin.2.2.2.2⟩
  have rh : L2H.RoomH k (Y.A.mark (Option.some (.ref a))) := ⟨hr.dp, hr.un⟩
  have hh : (Y.A.mark (Option.some (.ref a))).handled = Option.some (.ref a) := rfl
  refine wpAny_call (codeAny_mono (F.go _ _ s1 H1 ⟨us, []⟩ us vs Q E0 a oe c d rh hh pk hz hf I1.env0 bb r q) ?_)
  intro res s2 hq
  match res, hq with
  | .error er, hq => exact False.elim hq
  | .ok (.ret u), hq => exact I1.after hq
  | .ok .next, hq => exact False.elim hq
  | .ok .brk, hq => exact False.elim hq
  | .ok .cont, hq => exact False.elim hq
end
end SM
/-! Part D: data: equal to itself, shown. -/
namespace SM
open PySem PySem.Spec PyProof.Rows L2
mutual
theorem eqv_self : ∀ d : PyData, d.canLay0 = true → PyData.eqv d d = true
  | .none, _ => by simp only [PyData.eqv]
  | .bool b, _ => by simp [PyData.eqv]
  | .int i, _ => by simp [PyData.eqv]
  | .str x, _ => by simp [PyData.eqv]
  | .list xs, h => by
    simp only [PyData.eqv]
    exact eqvAll_self xs (by simpa only [PyData.canLay0] using h)
  | .tuple xs, h => by
    simp only [PyData.eqv]
    exact eqvAll_self xs (by simpa only [PyData.canLay0] using h)
  | .dict _, h => by simp only [PyData.canLay0] at h; exact Bool.noConfusion h
theorem eqvAll_self : ∀ ds : List PyData, PyData.canLayAll0 ds = true → PyData.eqvAll ds ds = true
  | [], _ => by simp only [PyData.eqvAll]
  | d :: ds, h => by
    have h' : d.canLay0 = true ∧ PyData.canLayAll0 ds = true := by simpa only [PyData.canLayAll0, Bool.and_eq_true] using h
    simp only [PyData.eqvAll, eqv_self d h'.1, eqvAll_self ds h'.2, Bool.and_self]
end
/-- data that may be compared and shown -/
structure Fine (d : PyData) : Prop where
  lay : d.canLay0 = true
  dep : d.depth ≤ 50
  ish : d.intsShort 64 = true
  show_ : d.showable = true
  wt : d.weight ≤ 100000
theorem Fine.shaped {d : PyData} (h : Fine d) : SeqAt.shaped d = true := by
  show (d.canLay0 && decide (d.depth ≤ 64)) = true
  rw [h.lay, Bool.true_and]
  exact decide_eq_true (Nat.le_trans h.dep (by decide))
theorem Fine.len {d : PyData} (h : Fine d) : d.shown.length ≤ sizeLine := by
  have e := PyData.shown_le 64 (by decide) d (PyData.leavesShort_of_canLay0 64 d h.lay h.ish)
  have w := h.wt
  have m : (64 + 2) * d.weight ≤ 66 * 100000 := Nat.mul_le_mul (by decide) w
  rw [sizeLine_eq]
  omega
section
variable {X : Cx}
/-- repr(x) of data, where it is quiet -/
def rReprD (K : PySem.W.Frag) : List V → Hp → VK → Prop := fun xs H Q => ∃ (x : V) (d : PyData), xs = [x] ∧ Dp K H x d ∧ Fine d ∧ Q (.str d.shown) H
theorem call_reprD {k : Nat} (qa : Quiet X.A) (hr : Room k X.A) : CallR X (.builtin "repr") (rReprD X.K) := by
  intro pins s σ H xs us Q I r h
  obtain ⟨x, d, rfl, hd, hf, q⟩ := h
  obtain ⟨u, rfl, ru⟩ := vals1 r
  have hu := hr.units
  obtain ⟨as, rd⟩ := Dp.reads I d x u hd ru
  have noD : d.hasDict = true → sysModules ∉ as := PyData.noDict_hsm (PyData.hasDict_of_canLay d hf.lay)
  have room : X.A.units + (d.depth + 1) < cLine := by have := hf.dep; omega
  cases hd with
  | non =>
    obtain rfl : u = Value.none := ru
    exact PySem.P.repr_of_none ⟨V.str _, H, I.tok _, ⟨_, rfl⟩, q⟩
  | bl b =>
    obtain rfl : u = Value.bool b := ru
    exact PySem.P.repr_of_bool ⟨V.str _, H, I.tok _, ⟨_, rfl⟩, q⟩
  | int i =>
    obtain ⟨t, rfl⟩ := ru
    have hs := hf.show_
    simp only [PyData.showable, decide_eq_true_eq] at hs
    exact PySem.P.repr_of_int hs ⟨V.str _, H, I.tok _, ⟨_, rfl⟩, q⟩
  | str z =>
    obtain ⟨t, rfl⟩ := ru
    exact PySem.P.repr_of_str ⟨V.str _, H, I.tok _, ⟨_, rfl⟩, q⟩ hf.len
  | lst s1 s2 =>
    rename_i a xs ds
    obtain rfl : u = Value.ref a := ru
    exact repr_of_reads' rd hf.show_ noD qa room (fun _ _ e => e) (fun h' u tk k => ⟨V.str _, H, I.kept (t' := tk) k, ⟨_, rfl⟩, q⟩) hf.len
  | tup s1 s2 =>
    rename_i a xs ds
    obtain rfl : u = Value.ref a := ru
    exact repr_of_reads' rd hf.show_ noD qa room (fun _ _ e => e) (fun h' u tk k => ⟨V.str _, H, I.kept (t' := tk) k, ⟨_, rfl⟩, q⟩) hf.len
end
theorem dps_bools {K : PySem.W.Frag} {H : Hp} : ∀ bs : List Bool, DpAll K H (bs.map V.bl) (bs.map PyData.bool)
  | [] => .nil
  | b :: bs => .cons (.bl b) (dps_bools bs)
theorem dps_ints {K : PySem.W.Frag} {H : Hp} : ∀ bs : List Int, DpAll K H (bs.map V.int) (bs.map PyData.int)
  | [] => .nil
  | b :: bs => .cons (.int b) (dps_ints bs)
theorem dps_strs {K : PySem.W.Frag} {H : Hp} : ∀ bs : List Str, DpAll K H (bs.map V.str) (bs.map PyData.str)
  | [] => .nil
  | b :: bs => .cons (.str b) (dps_strs bs)
theorem lay_bools : ∀ bs : List Bool, PyData.canLayAll0 (bs.map PyData.bool) = true
  | [] => by simp only [List.map_nil, PyData.canLayAll0]
  | b :: bs => by simp only [List.map_cons, PyData.canLayAll0, PyData.canLay0, lay_bools bs, Bool.and_self]
theorem dep_bools : ∀ bs : List Bool, PyData.depthAll (bs.map PyData.bool) = 0
  | [] => by simp only [List.map_nil, PyData.depthAll]
  | b :: bs => by simp only [List.map_cons, PyData.depthAll, PyData.depth, dep_bools bs, Nat.max_self]
theorem shaped_bools (bs : List Bool) : SeqAt.shaped (.list (bs.map PyData.bool)) = true := by
  show ((PyData.list (bs.map PyData.bool)).canLay0 && decide ((PyData.list (bs.map PyData.bool)).depth ≤ 64)) = true
  simp only [PyData.canLay0, PyData.depth, lay_bools, dep_bools]
  decide
end SM
/-! Part E: the end of a law whose def is quiet. -/
namespace SM
open PySem PySem.Spec PyProof.Rows L2
section
variable {P : Program} {w : World} {K : PySem.W.Frag} {mg mb : Str → Option Value} {k : Nat} {fa a : Addr} {x nm : Str} {sp : Sp} {s1 : Shared} {vs : List Value} {ns : List Int}
/-- what the caller wants of the law's call -/
abbrev LawEnd (s1 : Shared) (r : Result) (s2 : Shared) : Prop := r = .ok (.ret (.bool true)) ∧ OldK s1.heap s2.heap ∧ s2.os = s1.os ∧ AllBare s2.gens
/-- from a heap in which the script alone may stand -/
theorem law_from (H : Hp) (only : Only H) (one : ∀ b, H b ≠ none → b = a) (apart : H a ≠ none → K.lookup a = none) (hok : HOk P w H s1.heap) (sq : SqL K H a (ns.map V.int))
    (kIn : K.In s1.heap) (gl : s1.heap.Ns mainGlobals mg) (bl : s1.heap.Ns builtinsNs mb) (bb : ∀ x : Str, x ≠ "__name__" → mb x = bootBuiltins x) (lim : s1.heap.NoLimit) (gens : s1.gens = #[])
    (obj : s1.heap.get? a = some { cls := .type "list", data := .seq vs.toArray }) (hr : Room k callerA)
    (F : ∀ base : Heap, K.In base → base.Ns mainGlobals mg → OkQ P w K mg base CX0 k nm [x] sp) (hm : mg nm = some (.ref fa))
    (hsp : sp [.ref a] H (fun v _ => v = .bl true) fun _ _ _ => False) : codeAny (model P w) callerA (.call (.ref fa) ⟨[.ref a], []⟩) (LawEnd s1) s1 := by
  have stays : ∀ {b : Addr} {o : Obj}, s1.heap.get? b = some o → (H b ≠ none → False) → (hidT s1.heap H).get? b = some o := fun {b o} e n => by
    refine hidT_get e ?_
    cases q : H b with
    | none => rfl
    | some u => exact (n (by rw [q]; exact fun z => nomatch z)).elim
  have isA : ∀ {b : Addr} {o : Obj}, s1.heap.get? b = some o → H b ≠ none → b = a ∧ o.data = .seq vs.toArray := fun {b o} e n => by
    have eb := one b n
    subst eb
    rw [obj] at e
    exact ⟨rfl, by cases e; rfl⟩
  have nsOf : ∀ {b : Addr} {m : Str → Option Value}, s1.heap.Ns b m → (hidT s1.heap H).Ns b m := by
    rintro b m ⟨o, es, ep, e, d, r⟩
    refine ⟨o, es, ep, stays e fun n => ?_, d, r⟩
    have z := (isA e n).2
    rw [d] at z
    cases z
  have kBase : K.In (hidT s1.heap H) := fun b o e => stays (kIn b o e) fun n => by
    have eb := one b n
    subst eb
    rw [apart n] at e
    cases e
  obtain ⟨mc, l1, l2⟩ := lim
  have M : Mod K mg (hidT s1.heap H) := ⟨kBase, nsOf gl, ⟨mb, nsOf bl, bb⟩, ⟨mc, nsOf l1, l2⟩⟩
  have none_ : ∀ b ∈ frs ([] : List Env), H b = none := fun b hb => absurd (show b ∈ ([] : List Addr) from hb) List.not_mem_nil
  have e0 : Env0 P w K mg (hidT s1.heap H) callerA [] s1 H := ⟨rfl, M, fun b o e => of_hidT e, Nat.le_of_eq (hidT_size _ _), trivial, none_, hok, .of_eq gens⟩
  obtain ⟨f2, fd, g2, _, bind, G2⟩ := F _ kBase (nsOf gl)
  rw [hm] at g2
  cases g2
  refine codeAny_mono (G2.go callerA [] s1 H ⟨[.ref a], []⟩ [.ref a] [.ref a] _ _ rfl hr e0 (bind s1 [.ref a] kIn rfl) (.cons rfl .nil) hsp) ?_
  intro r s2 q
  match r, q with
  | .error _, q => exact False.elim q
  | .ok .next, q => exact False.elim q
  | .ok .brk, q => exact False.elim q
  | .ok .cont, q => exact False.elim q
  | .ok (.ret u), ⟨v, H2, os, bare, un, hok2, rv, qv⟩ =>
    have qv' : v = .bl true := qv
    subst qv'
    have eu : u = Value.bool true := rv
    subst eu
    refine ⟨rfl, OldK.of_keep fun b o e => ?_, os, bare⟩
    have nofr : b ∉ frs ([] : List Env) := fun z => absurd (show b ∈ ([] : List Addr) from z) List.not_mem_nil
    cases q : H b with
    | none => exact un.keep b o e q nofr List.not_mem_nil
    | some u2 =>
      obtain z | ⟨ob, xs, z⟩ := only b
      · rw [q] at z
        cases z
      · have z1 := (hok b _ z).1
        rw [e] at z1
        cases z1
        exact (hok2 b _ (un.frzs b _ _ z)).1
theorem law_callG (kIn : K.In s1.heap) (gl : s1.heap.Ns mainGlobals mg) (bl : s1.heap.Ns builtinsNs mb) (bb : ∀ x : Str, x ≠ "__name__" → mb x = bootBuiltins x) (lim : s1.heap.NoLimit) (gens : s1.gens = #[])
    (obj : s1.heap.get? a = some { cls := .type "list", data := .seq vs.toArray }) (hi : IntsAre vs ns) (hl : ns.length ≤ sizeLine) (hr : Room k callerA)
    (F : ∀ base : Heap, K.In base → base.Ns mainGlobals mg → OkQ P w K mg base CX0 k nm [x] sp) (hm : mg nm = some (.ref fa))
    (hsp : ∀ H : Hp, SqL K H a (ns.map V.int) → sp [.ref a] H (fun v _ => v = .bl true) fun _ _ _ => False) : codeAny (model P w) callerA (.call (.ref fa) ⟨[.ref a], []⟩) (LawEnd s1) s1 := by
  have rv : Vals (ns.map V.int) vs := vals_of_ints hi
  have ln : (ns.map V.int).length = vs.length := rv.length
  rw [List.length_map] at ln
  by_cases hk : K.lookup a = none
  · have at_ : (fun b => if b = a then some (HO.frz { cls := .type "list", data := .seq vs.toArray } (.lst (ns.map V.int))) else none : Hp) a = some (HO.frz { cls := .type "list", data := .seq vs.toArray } (.lst (ns.map V.int))) := if_pos rfl
    refine law_from (fun b => if b = a then some (HO.frz { cls := .type "list", data := .seq vs.toArray } (.lst (ns.map V.int))) else none) (fun b => ?_) (fun b n => ?_) (fun _ => hk) (fun b u e => ?_) (.inl (.inr ⟨_, at_⟩)) kIn gl bl bb lim gens obj hr F hm (hsp _ (.inl (.inr ⟨_, at_⟩)))
    · by_cases hb : b = a
      · exact .inr ⟨_, _, if_pos hb⟩
      · exact .inl (if_neg hb)
    · by_cases hb : b = a
      · exact hb
      · exact absurd (if_neg hb) n
    · by_cases hb : b = a
      · subst hb
        have e' := at_.symm.trans e
        cases e'
        exact ⟨obj, by rw [List.length_map]; exact hl, vs, _, rv, obj⟩
      · have e' := (if_neg hb).symm.trans e
        cases e'
  · obtain ⟨o, ho⟩ := Option.ne_none_iff_exists'.mp hk
    have eo := kIn a o ho
    rw [obj] at eo
    cases eo
    have sq : SqL K (fun _ => none) a (ns.map V.int) := .inr ⟨_, vs.toArray, _, ho, rfl, rfl, rfl, by rw [List.size_toArray, ← ln]; exact hl, by simpa using rv⟩
    exact law_from (fun _ => none) (fun _ => .inl rfl) (fun b n => absurd rfl n) (fun n => absurd rfl n) (fun b u z => by cases z) sq kIn gl bl bb lim gens obj hr F hm (hsp _ sq)
end
/-- what the head leaves to be shown, from a quiet def -/
theorem walkG {l : PySem.W.OpenLaw} {n k : Nat} {q : Program} {loose : List Str} {XP : (Str → Option Value) → Heap → Prop} {YP : World → Heap → Prop} {d : DefRec} {K : Params → PySem.W.Frag} {sp : PySem.W.Frag → Sp} {x : Str}
    (hn : l.most = some n) (hn2 : n ≤ sizeLine) (hdf : d.params.defaults = []) (hr : Room k callerA) (hY : ∀ (w : World) (h : Heap), YP w h → (K w.params).In h)
    (F : ∀ (w : World) (mg : Str → Option Value) (fa : Addr) (h : Heap), (K w.params).In h → h.Ns mainGlobals mg → mg d.name = some (.ref fa) →
      ∀ base : Heap, (K w.params).In base → base.Ns mainGlobals mg → OkQ l.prog w (K w.params) mg base CX0 k d.name [x] (sp (K w.params)))
    (hsp : ∀ (K : PySem.W.Frag) (H : Hp) (a : Addr) (ns : List Int), ns.length ≤ n → SqL K H a (ns.map V.int) → sp K [.ref a] H (fun v _ => v = .bl true) fun _ _ _ => False) :
    PySem.W.WalkO q loose XP YP l.row.toRowW d [] (fun f vs => PySem.call f vs) := by
  refine Att.attach_call hn hdf ?_
  intro w s0 s1 mg mb fa o pm cd doc a vs ns G Y ho hd hcd hmg hobj hints hlen hg
  exact law_callG (hY w _ Y) G.T.g G.T.b G.T.builtins G.T.nolimit hg hobj hints (Nat.le_trans hlen hn2) hr (F w mg fa _ (hY w _ Y) G.T.g hmg) hmg (fun H hS => hsp _ H a ns hlen hS)
end SM
/-! Part L: refusals, kinds, tables, the layout as it stands in the heap. -/
namespace SM
open PySem PySem.Spec PyProof.Rows L2
/-! ### refusals -/
/-- the field of the n-th error's class -/
def fldN : Nat → Str
  | 0 => "at"
  | 1 => "name"
  | 2 => "name"
  | 3 => "most"
  | 4 => "name"
  | 5 => "hands"
  | 6 => "name"
  | 7 => "way"
  | 8 => "job"
  | 9 => "damp"
  | _ => "number"
/-- the n-th error, made of y, goes out; nothing that stood is changed -/
def Ref (C : Nat → Addr) (n : Nat) (y : V) (H : Hp) (E : XK) : Prop := ∀ d H', Same H H' → H d = none → H' d = some (.xd [(fldN n, y)]) → E (.ref (C n)) (some d) H'
section
variable {C : Nat → Addr} {n : Nat} {y : V} {H H1 : Hp} {E : XK}
theorem Ref.along (R : Ref C n y H E) (s : Same H H1) : Ref C n y H1 E := fun d H' s1 e x => R d H' (s.trans s1) (s.free e) x
theorem Ref.out (R : Ref C n y H E) {d : Addr} (hd : H d = none) : E (.ref (C n)) (some d) (upd H d (.xd [(fldN n, y)])) := R d _ (Same.newp hd) hd upd_same
end
/-! ### kinds of values -/
theorem tyOf_same {K : PySem.W.Frag} {H H' : Hp} {x : V} {t : Value} (h : TyOf K H x t) (e : Same H H') : TyOf K H' x t := by
  cases h with
  | non => exact .non
  | bl b => exact .bl b
  | int i => exact .int i
  | str z => exact .str z
  | flt z => exact .flt z
  | lst q => exact .lst (e _ _ q)
  | frz q => exact .frz (e _ _ q)
  | tup q => exact .tup (e _ _ q)
  | dK q => exact .dK (e _ _ q)
  | dT q => exact .dT (e _ _ q)
  | ins q a b c d f => exact .ins (e _ _ q) a b c d f
theorem tyX_same {K : PySem.W.Frag} {H H' : Hp} {x : V} {t : Value} (h : TyX K H x t) (e : Same H H') : TyX K H' x t := by
  cases h with
  | base b => exact .base (tyOf_same b e)
  | byt b => exact .byt b
  | set q => exact .set (e _ _ q)
  | kList a b => exact .kList a b
  | kTuple a b => exact .kTuple a b
  | kDict a b => exact .kDict a b
  | fTuple q => exact .fTuple (e _ _ q)
  | fDict q => exact .fDict (e _ _ q)
def sgA : Str := "a"
def sgZ : Str := "z"
def okSign (c : Nat) : Bool := !decide ([c] < sgA.cps.toList) && !decide (sgZ.cps.toList < [c])
def okName (z : Str) : Bool := decide (1 ≤ z.cps.size) && decide (z.cps.size ≤ 8) && z.cps.toList.all okSign
/-- is it a name: b -/
def NameQ (K : PySem.W.Frag) (H : Hp) (x : V) (b : Bool) : Prop := (∃ z : Str, x = .str z ∧ z.cps.size ≤ sizeLine ∧ b = okName z) ∨ (b = false ∧ ∃ t, TyX K H x t ∧ PySem.W.kitOne K t (.type "str") = some false)
theorem NameQ.same {K : PySem.W.Frag} {H H' : Hp} {x : V} {b : Bool} (h : NameQ K H x b) (e : Same H H') : NameQ K H' x b := by
  rcases h with h | ⟨h, t, ty, q⟩
  · exact .inl h
  · exact .inr ⟨h, t, tyX_same ty e, q⟩
theorem NameQ.yes {K : PySem.W.Frag} {H : Hp} {x : V} (h : NameQ K H x true) : ∃ z : Str, x = .str z ∧ okName z = true := by
  rcases h with ⟨z, e, _, q⟩ | ⟨h, _⟩
  · exact ⟨z, e, q.symm⟩
  · cases h
theorem NameQ.of {K : PySem.W.Frag} {H : Hp} {z : Str} (h : okName z = true) : NameQ K H (.str z) true := by
  refine .inl ⟨z, rfl, ?_, h.symm⟩
  simp only [okName, Bool.and_eq_true, decide_eq_true_eq] at h
  exact Nat.le_trans h.1.2 (by decide)
/-- is it a whole number: b -/
def WholeQ (K : PySem.W.Frag) (H : Hp) (x : V) (b : Bool) : Prop := ∃ t i j, TyX K H x t ∧ PySem.W.kitOne K t (.type "int") = some i ∧ PySem.W.kitOne K t (.type "bool") = some j ∧ b = (i && !j)
theorem WholeQ.int {K : PySem.W.Frag} {H : Hp} (i : Int) : WholeQ K H (.int i) true := ⟨_, true, false, .base (.int i), kit_ty (by decide +kernel), kit_ty (by decide +kernel), rfl⟩
theorem WholeQ.same {K : PySem.W.Frag} {H H' : Hp} {x : V} {b : Bool} (h : WholeQ K H x b) (e : Same H H') : WholeQ K H' x b := by
  obtain ⟨t, i, j, a, c, d, f⟩ := h
  exact ⟨t, i, j, tyX_same a e, c, d, f⟩
def okCost (i : Int) : Bool := decide (0 ≤ i) && decide (i ≤ 99)
/-- is it a cost: b -/
def CostQ (K : PySem.W.Frag) (H : Hp) (x : V) (b : Bool) : Prop := (∃ i : Int, x = .int i ∧ b = okCost i) ∨ (b = false ∧ WholeQ K H x false)
theorem CostQ.same {K : PySem.W.Frag} {H H' : Hp} {x : V} {b : Bool} (h : CostQ K H x b) (e : Same H H') : CostQ K H' x b := by
  rcases h with h | ⟨h, q⟩
  · exact .inl h
  · exact .inr ⟨h, q.same e⟩
theorem CostQ.yes {K : PySem.W.Frag} {H : Hp} {x : V} (h : CostQ K H x true) : ∃ i : Int, x = .int i ∧ okCost i = true := by
  rcases h with ⟨z, e, q⟩ | ⟨h, _⟩
  · exact ⟨z, e, q.symm⟩
  · cases h
/-! ### tables: a dict with text keys beside a list of pairs -/
section
variable {α : Type}
def look (tab : List (Str × α)) (k : Str) : Option α := (tab.find? fun e => decide (e.1 = k)).map (·.2)
def del (tab : List (Str × α)) (k : Str) : List (Str × α) := tab.filter fun e => decide (e.1 ≠ k)
def keys (tab : List (Str × α)) : List Str := tab.map (·.1)
/-- the dict's pairs kvs beside the list tab -/
abbrev Kr (G : V → α → Prop) : List (Key × V) → List (Str × α) → Prop := Paired fun p q => p.1 = Sum.inr q.1 ∧ G p.2 q.2
def RelA (G : V → α → Prop) : Option V → Option α → Prop
  | some v, some a => G v a
  | none, none => True
  | _, _ => False
theorem look_pos {p : Str × α} {r : List (Str × α)} {k : Str} (e : p.1 = k) : look (p :: r) k = some p.2 := by simp [look, List.find?_cons, e]
theorem look_neg {p : Str × α} {r : List (Str × α)} {k : Str} (e : ¬ p.1 = k) : look (p :: r) k = look r k := by simp [look, List.find?_cons, e]
theorem Kr.val {G : V → α → Prop} {k : Str} : ∀ {kvs : List (Key × V)} {tab : List (Str × α)}, Kr G kvs tab → RelA G (valV kvs (Sum.inr k)) (look tab k)
  | _, _, .nil => True.intro
  | p :: ps, q :: qs, .cons h t => by
    by_cases e : q.1 = k
    · rw [look_pos e, valV_pos (h.1.trans (congrArg Sum.inr e))]
      exact h.2
    · have e' : ¬ p.1 = Sum.inr k := fun z => e (Sum.inr.inj (h.1.symm.trans z))
      rw [look_neg e, valV_neg e']
      exact Kr.val t
theorem Kr.has {G : V → α → Prop} {k : Str} {kvs : List (Key × V)} {tab : List (Str × α)} (h : Kr G kvs tab) : (valV kvs (Sum.inr k)).isSome = (look tab k).isSome := by
  have z := h.val (k := k)
  cases e1 : valV kvs (Sum.inr k) <;> cases e2 : look tab k <;> rw [e1, e2] at z <;> first | rfl | exact z.elim
theorem Kr.get {G : V → α → Prop} {k : Str} {kvs : List (Key × V)} {tab : List (Str × α)} {a : α} (h : Kr G kvs tab) (e : look tab k = some a) : ∃ v, valV kvs (Sum.inr k) = some v ∧ G v a := by
  have z := h.val (k := k)
  rw [e] at z
  cases e1 : valV kvs (Sum.inr k) with
  | none => rw [e1] at z; exact z.elim
  | some v => rw [e1] at z; exact ⟨v, rfl, z⟩
theorem Kr.no {G : V → α → Prop} {k : Str} {kvs : List (Key × V)} {tab : List (Str × α)} (h : Kr G kvs tab) (e : look tab k = none) : valV kvs (Sum.inr k) = none := by
  have z := h.val (k := k)
  rw [e] at z
  cases e1 : valV kvs (Sum.inr k) with
  | none => rfl
  | some v => rw [e1] at z; exact z.elim
theorem Kr.mono {G G' : V → α → Prop} (i : ∀ v a, G v a → G' v a) : ∀ {kvs : List (Key × V)} {tab : List (Str × α)}, Kr G kvs tab → Kr G' kvs tab
  | _, _, .nil => .nil
  | _, _, .cons h t => .cons ⟨h.1, i _ _ h.2⟩ (Kr.mono i t)
theorem Kr.snoc {G : V → α → Prop} {k : Str} {v : V} {a : α} (g : G v a) : ∀ {kvs : List (Key × V)} {tab : List (Str × α)}, Kr G kvs tab → Kr G (kvs ++ [(Sum.inr k, v)]) (tab ++ [(k, a)])
  | _, _, .nil => .cons ⟨rfl, g⟩ .nil
  | _, _, .cons h t => .cons h (Kr.snoc g t)
theorem Kr.put {G : V → α → Prop} {k : Str} {v : V} {a : α} {kvs : List (Key × V)} {tab : List (Str × α)} (h : Kr G kvs tab) (e : look tab k = none) (g : G v a) : Kr G (putK kvs (Sum.inr k) v) (tab ++ [(k, a)]) := by
  rw [putK_new v (h.no e)]
  exact h.snoc g
theorem Kr.drop {G : V → α → Prop} {k : Str} : ∀ {kvs : List (Key × V)} {tab : List (Str × α)}, Kr G kvs tab → Kr G (dropK kvs (Sum.inr k)) (del tab k)
  | _, _, .nil => .nil
  | p :: ps, q :: qs, .cons h t => by
    by_cases e : q.1 = k
    · have e' : p.1 = Sum.inr k := h.1.trans (congrArg Sum.inr e)
      rw [dropK_pos e', show del (q :: qs) k = del qs k by simp [del, e]]
      exact Kr.drop t
    · have e' : ¬ p.1 = Sum.inr k := fun z => e (Sum.inr.inj (h.1.symm.trans z))
      rw [dropK_neg e', show del (q :: qs) k = q :: del qs k by simp [del, e]]
      exact .cons h (Kr.drop t)
theorem Kr.len {G : V → α → Prop} {kvs : List (Key × V)} {tab : List (Str × α)} (h : Kr G kvs tab) : kvs.length = tab.length := Paired.length h
theorem Kr.names {G : V → α → Prop} : ∀ {kvs : List (Key × V)} {tab : List (Str × α)}, Kr G kvs tab → kvs.map (·.1) = (keys tab).map Sum.inr
  | _, _, .nil => rfl
  | _, _, .cons h t => by
    have e := Kr.names t
    simp only [SM.keys, List.map_cons, List.map_map] at e ⊢
    rw [h.1, e]
theorem look_isSome {tab : List (Str × α)} {k : Str} : (look tab k).isSome = decide (k ∈ keys tab) := by
  induction tab with
  | nil => rfl
  | cons p r ih =>
    by_cases e : p.1 = k
    · rw [look_pos e]
      simp [keys, e]
    · rw [look_neg e, ih]
      have e' : ¬ k = p.1 := fun z => e z.symm
      simp only [keys, List.map_cons, List.mem_cons, e', false_or]
      exact decide_eq_decide.mpr Iff.rfl
theorem look_none {tab : List (Str × α)} {k : Str} : look tab k = none ↔ k ∉ keys tab := by
  have z := look_isSome (tab := tab) (k := k)
  cases e : look tab k with
  | none =>
    rw [e] at z
    have z' : false = decide (k ∈ keys tab) := z
    simpa using z'.symm
  | some v =>
    rw [e] at z
    have z' : true = decide (k ∈ keys tab) := z
    simpa using z'.symm
theorem keys_snoc {tab : List (Str × α)} {k : Str} {a : α} : keys (tab ++ [(k, a)]) = keys tab ++ [k] := by simp [keys]
theorem keys_del {tab : List (Str × α)} {k : Str} : keys (del tab k) = (keys tab).filter fun x => decide (x ≠ k) := by
  unfold keys del
  rw [List.filter_map]
  rfl
end
/-- names alone as a table -/
def uT (xs : List Str) : List (Str × Unit) := xs.map fun x => (x, ())
theorem keys_uT (xs : List Str) : keys (uT xs) = xs := by simp [keys, uT, Function.comp_def]
theorem uT_snoc (xs : List Str) (x : Str) : uT xs ++ [(x, ())] = uT (xs ++ [x]) := by simp [uT]
theorem uT_del (xs : List Str) (x : Str) : del (uT xs) x = uT (xs.filter fun y => decide (y ≠ x)) := by
  unfold uT del
  rw [List.filter_map]
  rfl
theorem uT_len (xs : List Str) : (uT xs).length = xs.length := by simp [uT]
theorem uT_look {xs : List Str} {k : Str} : (look (uT xs) k).isSome = decide (k ∈ xs) := by rw [look_isSome, keys_uT]
theorem uT_none {xs : List Str} {k : Str} : look (uT xs) k = none ↔ k ∉ xs := by rw [look_none, keys_uT]
/-! ### the layout's state, its deeds and what is due -/
abbrev LineV := Str × Str × Int
structure LS where
  rooms : List Str
  lines : List (Str × LineV)
  drains : List (Str × Str)
  sources : List Str
def LS.new : LS := ⟨[], [], [], []⟩
/-- the lines that end in a room -/
def LS.at (S : LS) (x : Str) : List Str := keys (S.lines.filter fun e => decide (x = e.2.1) || decide (x = e.2.2.1))
structure LS.Ok (S : LS) : Prop where
  rN : S.rooms.Nodup
  rL : S.rooms.length ≤ 24
  lN : (keys S.lines).Nodup
  lL : S.lines.length ≤ 40
  dN : (keys S.drains).Nodup
  dL : S.drains.length ≤ 12
  sN : S.sources.Nodup
  sI : ∀ x ∈ S.sources, x ∈ S.rooms
  lI : ∀ e ∈ S.lines, e.2.1 ∈ S.rooms ∧ e.2.2.1 ∈ S.rooms ∧ e.2.1 ≠ e.2.2.1 ∧ okCost e.2.2.2 = true
  dI : ∀ e ∈ S.drains, e.2 ∈ S.rooms
  rG : ∀ x ∈ S.rooms, okName x = true
  lG : ∀ x ∈ keys S.lines, okName x = true
  dG : ∀ x ∈ keys S.drains, okName x = true
inductive Deed where
  | addRoom (x : Str)
  | addLine (x a b : Str) (c : Int)
  | addDrain (x r : Str)
  | addSource (x : Str)
  | takeRoom (x : Str)
  | takeLine (x : Str)
  | takeDrain (x : Str)
  | takeSource (x : Str)
/-- what is refused, and with what -/
inductive Rf where
  | there (x : Str)
  | lacks (x : Str)
  | tooMany (n : Int)
  | inUse (x : Str)
def Rf.cls : Rf → Nat
  | .there _ => 1
  | .lacks _ => 2
  | .tooMany _ => 3
  | .inUse _ => 4
def Rf.val : Rf → V
  | .there x => .str x
  | .lacks x => .str x
  | .tooMany n => .int n
  | .inUse x => .str x
def LS.taken (S : LS) (x : Str) : Bool := decide (x ∈ keys S.lines) || decide (x ∈ keys S.drains)
def LS.used (S : LS) (x : Str) : Bool := decide (x ∈ S.sources) || decide (x ∈ S.drains.map (·.2)) || decide (0 < (S.at x).length)
def LS.due (S : LS) : Deed → Option Rf
  | .addRoom x => if x ∈ S.rooms then some (.there x) else if 24 ≤ S.rooms.length then some (.tooMany 24) else none
  | .addLine x a b _ => if S.taken x = true then some (.there x) else if a ∉ S.rooms then some (.lacks a) else if b ∉ S.rooms then some (.lacks b) else if 40 ≤ S.lines.length then some (.tooMany 40) else none
  | .addDrain x r => if S.taken x = true then some (.there x) else if r ∉ S.rooms then some (.lacks r) else if 12 ≤ S.drains.length then some (.tooMany 12) else none
  | .addSource x => if x ∉ S.rooms then some (.lacks x) else if x ∈ S.sources then some (.there x) else none
  | .takeRoom x => if x ∉ S.rooms then some (.lacks x) else if S.used x = true then some (.inUse x) else none
  | .takeLine x => if x ∉ keys S.lines then some (.lacks x) else none
  | .takeDrain x => if x ∉ keys S.drains then some (.lacks x) else none
  | .takeSource x => if x ∉ S.sources then some (.lacks x) else none
def LS.put (S : LS) : Deed → LS
  | .addRoom x => { S with rooms := S.rooms ++ [x] }
  | .addLine x a b c => { S with lines := S.lines ++ [(x, a, b, c)] }
  | .addDrain x r => { S with drains := S.drains ++ [(x, r)] }
  | .addSource x => { S with sources := S.sources ++ [x] }
  | .takeRoom x => { S with rooms := S.rooms.filter fun y => decide (y ≠ x) }
  | .takeLine x => { S with lines := del S.lines x }
  | .takeDrain x => { S with drains := del S.drains x }
  | .takeSource x => { S with sources := S.sources.filter fun y => decide (y ≠ x) }
/-- what is handed in is as told -/
def Deed.Good : Deed → Prop
  | .addRoom x => okName x = true
  | .addLine x a b c => okName x = true ∧ okName a = true ∧ okName b = true ∧ a ≠ b ∧ okCost c = true
  | .addDrain x r => okName x = true ∧ okName r = true
  | .addSource x => okName x = true
  | .takeRoom x => okName x = true
  | .takeLine x => okName x = true
  | .takeDrain x => okName x = true
  | .takeSource x => okName x = true
theorem nd_snocS {l : List Str} {k : Str} (h : l.Nodup) (n : k ∉ l) : (l ++ [k]).Nodup := nd_snoc h n
theorem nodup_filter {l : List Str} {p : Str → Bool} (h : l.Nodup) : (l.filter p).Nodup := List.Pairwise.filter p h
theorem len_sub : ∀ {xs ys : List Str}, xs.Nodup → (∀ x ∈ xs, x ∈ ys) → xs.length ≤ ys.length
  | [], _, _, _ => Nat.zero_le _
  | x :: xs, ys, h, s => by
    have hx := s x List.mem_cons_self
    have h' := List.nodup_cons.mp h
    have ih := len_sub (xs := xs) (ys := ys.erase x) h'.2 fun y hy => by
      have ne : y ≠ x := fun z => h'.1 (z ▸ hy)
      exact (List.mem_erase_of_ne ne).mpr (s y (List.mem_cons_of_mem _ hy))
    rw [List.length_erase_of_mem hx] at ih
    have := List.length_pos_of_mem hx
    rw [List.length_cons]
    omega
theorem LS.Ok.sL {S : LS} (o : S.Ok) : S.sources.length ≤ 24 := Nat.le_trans (len_sub o.sN o.sI) o.rL
theorem LS.new_ok : LS.new.Ok := by
  refine ⟨List.nodup_nil, by decide, List.nodup_nil, by decide, List.nodup_nil, by decide, List.nodup_nil, ?_, ?_, ?_, ?_, ?_, ?_⟩ <;> (intro x h; cases h)
theorem mem_at {S : LS} {x : Str} {e : Str × LineV} (he : e ∈ S.lines) (h : x = e.2.1 ∨ x = e.2.2.1) : 0 < (S.at x).length := by
  unfold LS.at keys
  rw [List.length_map]
  refine List.length_pos_of_mem (a := e) (List.mem_filter.mpr ⟨he, ?_⟩)
  rcases h with h | h
  · simp [h]
  · simp [h]
/-- a deed that is let by keeps the state sound -/
theorem LS.Ok.put {S : LS} (o : S.Ok) {D : Deed} (g : D.Good) (h : S.due D = none) : (S.put D).Ok := by
  obtain ⟨rN, rL, lN, lL, dN, dL, sN, sI, lI, dI, rG, lG, dG⟩ := o
  cases D with
  | addRoom x =>
    simp only [LS.due] at h
    split at h
    · cases h
    split at h
    · cases h
    rename_i h1 h2
    refine ⟨nd_snocS rN h1, by show (S.rooms ++ [x]).length ≤ 24; rw [List.length_append, List.length_singleton]; omega, lN, lL, dN, dL, sN, fun y hy => List.mem_append_left _ (sI y hy), fun e he => ?_, fun e he => List.mem_append_left _ (dI e he), fun y hy => ?_, lG, dG⟩
    · obtain ⟨a, b, c⟩ := lI e he
      exact ⟨List.mem_append_left _ a, List.mem_append_left _ b, c⟩
    · rcases List.mem_append.mp hy with z | z
      · exact rG y z
      · rw [List.mem_singleton.mp z]
        exact g
  | addLine x a b c =>
    simp only [LS.due] at h
    split at h
    · cases h
    split at h
    · cases h
    split at h
    · cases h
    split at h
    · cases h
    rename_i h1 h2 h3 h4
    have nx : x ∉ keys S.lines := fun z => h1 (by simp [LS.taken, z])
    refine ⟨rN, rL, ?_, by show (S.lines ++ [(x, a, b, c)]).length ≤ 40; rw [List.length_append, List.length_singleton]; omega, dN, dL, sN, sI, fun e he => ?_, dI, rG, fun y hy => ?_, dG⟩
    · show (keys (S.lines ++ [(x, a, b, c)])).Nodup
      rw [keys_snoc]
      exact nd_snocS lN nx
    · rcases List.mem_append.mp he with z | z
      · exact lI e z
      · rw [List.mem_singleton.mp z]
        exact ⟨Classical.not_not.mp h2, Classical.not_not.mp h3, g.2.2.2.1, g.2.2.2.2⟩
    · have hy' : y ∈ keys (S.lines ++ [(x, a, b, c)]) := hy
      rw [keys_snoc] at hy'
      rcases List.mem_append.mp hy' with z | z
      · exact lG y z
      · rw [List.mem_singleton.mp z]
        exact g.1
  | addDrain x r =>
    simp only [LS.due] at h
    split at h
    · cases h
    split at h
    · cases h
    split at h
    · cases h
    rename_i h1 h2 h3
    have nx : x ∉ keys S.drains := fun z => h1 (by simp [LS.taken, z])
    refine ⟨rN, rL, lN, lL, ?_, by show (S.drains ++ [(x, r)]).length ≤ 12; rw [List.length_append, List.length_singleton]; omega, sN, sI, lI, fun e he => ?_, rG, lG, fun y hy => ?_⟩
    · show (keys (S.drains ++ [(x, r)])).Nodup
      rw [keys_snoc]
      exact nd_snocS dN nx
    · rcases List.mem_append.mp he with z | z
      · exact dI e z
      · rw [List.mem_singleton.mp z]
        exact Classical.not_not.mp h2
    · have hy' : y ∈ keys (S.drains ++ [(x, r)]) := hy
      rw [keys_snoc] at hy'
      rcases List.mem_append.mp hy' with z | z
      · exact dG y z
      · rw [List.mem_singleton.mp z]
        exact g.1
  | addSource x =>
    simp only [LS.due] at h
    split at h
    · cases h
    split at h
    · cases h
    rename_i h1 h2
    refine ⟨rN, rL, lN, lL, dN, dL, nd_snocS sN h2, fun y hy => ?_, lI, dI, rG, lG, dG⟩
    rcases List.mem_append.mp hy with z | z
    · exact sI y z
    · rw [List.mem_singleton.mp z]
      exact Classical.not_not.mp h1
  | takeRoom x =>
    simp only [LS.due] at h
    split at h
    · cases h
    split at h
    · cases h
    rename_i h1 h2
    have nu : x ∉ S.sources ∧ x ∉ S.drains.map (·.2) ∧ ¬ 0 < (S.at x).length := by
      refine ⟨fun z => h2 ?_, fun z => h2 ?_, fun z => h2 ?_⟩
      · simp only [LS.used, decide_eq_true z, Bool.true_or]
      · simp only [LS.used, decide_eq_true z, Bool.true_or, Bool.or_true]
      · simp only [LS.used, decide_eq_true z, Bool.or_true]
    have keep : ∀ y, y ∈ S.rooms → y ≠ x → y ∈ S.rooms.filter fun y => decide (y ≠ x) := fun y hy n => List.mem_filter.mpr ⟨hy, decide_eq_true n⟩
    refine ⟨nodup_filter rN, Nat.le_trans (List.length_filter_le _ _) rL, lN, lL, dN, dL, sN, fun y hy => keep y (sI y hy) fun z => nu.1 (z ▸ hy), fun e he => ?_, fun e he => keep _ (dI e he) fun z => nu.2.1 (z ▸ List.mem_map_of_mem he), fun y hy => rG y (List.mem_filter.mp hy).1, lG, dG⟩
    obtain ⟨a, b, c⟩ := lI e he
    exact ⟨keep _ a fun z => nu.2.2 (mem_at he (.inl z.symm)), keep _ b fun z => nu.2.2 (mem_at he (.inr z.symm)), c⟩
  | takeLine x =>
    refine ⟨rN, rL, ?_, Nat.le_trans (List.length_filter_le _ _) lL, dN, dL, sN, sI, fun e he => lI e (List.mem_filter.mp he).1, dI, rG, fun y hy => ?_, dG⟩
    · show (keys (del S.lines x)).Nodup
      rw [keys_del]
      exact nodup_filter lN
    · have hy' : y ∈ keys (del S.lines x) := hy
      rw [keys_del] at hy'
      exact lG y (List.mem_filter.mp hy').1
  | takeDrain x =>
    refine ⟨rN, rL, lN, lL, ?_, Nat.le_trans (List.length_filter_le _ _) dL, sN, sI, lI, fun e he => dI e (List.mem_filter.mp he).1, rG, lG, fun y hy => ?_⟩
    · show (keys (del S.drains x)).Nodup
      rw [keys_del]
      exact nodup_filter dN
    · have hy' : y ∈ keys (del S.drains x) := hy
      rw [keys_del] at hy'
      exact dG y (List.mem_filter.mp hy').1
  | takeSource x => exact ⟨rN, rL, lN, lL, dN, dL, nodup_filter sN, fun y hy => sI y (List.mem_filter.mp hy).1, lI, dI, rG, lG, dG⟩
end SM
/-! Part M: methods by name; the layout in the heap. -/
namespace SM
open PySem PySem.Spec PyProof.Rows L2
/-- the method m of the class at L is the text st -/
def MethAt (K : PySem.W.Frag) (L : Addr) (m q : Str) (st : Stmt) : Prop := ∃ f fd, L2.Fun K m q st f fd ∧ Meth K L m f
def OkM (P : Program) (w : World) (K : PySem.W.Frag) (mg : Str → Option Value) (base : Heap) (CX : CXT) (k : Nat) (L : Addr) (m : Str) (ps : List Str) (sp : Sp) : Prop :=
  ∃ f fd, Meth K L m f ∧ Binds K fd ps [] ∧ FnOk P w K mg base CX k f fd ps sp
section
variable {P : Program} {w : World} {K : PySem.W.Frag} {mg : Str → Option Value} {base : Heap} {CX : CXT} {k : Nat} {L : Addr} {m q : Str} {ps : List Str} {sp : Sp}
theorem OkM.up {j : Nat} (F : OkM P w K mg base CX j L m ps sp) (h : j ≤ k) : OkM P w K mg base CX k L m ps sp :=
  let ⟨f, fd, a, b, c⟩ := F; ⟨f, fd, a, b, c.mono h⟩
abbrev BindsBy2 (x q : Str) (st : Stmt) (ps : List Str) : Prop := ∀ (kV doc pm : Value) (an : Option Addr) (cdv ct : Value) (us : List Value), us.length = ps.length →
  bindArgs (PySem.W.fnOf x q (defArgs st) (defBody st) (defScope st) .none kV doc pm an cdv ct) ⟨us, []⟩ = pure (ps.zip us)
theorem MethAt.ok {st : Stmt} {N : List Str} (D : MethAt K L m q st) (S : FnScope N ps (defScope st)) (b : BindsBy2 m q st ps) (len : ∀ vs H Q E, sp vs H Q E → vs.length = ps.length)
    (bd : ∀ (f : Addr) (cdv : Value) (A : Around) (outer : List Env) (s : Shared) (H : Hp) (vs : List V) (Q : VK) (E : XK), Room k (A.deeper (envOfC q (defScope st) s.heap.objs.size f cdv)) → sp vs H Q E →
      ∃ t, PSs (cxOf CX0 P w K mg base N q (defScope st) f cdv A outer s H E).nox (defBody st) t ∧ t { nx := fun _ H' => Q .non H', rt := Q } (L2.start N vs) H) : OkM P w K mg base CX0 (k + 1) L m ps sp := by
  obtain ⟨f, fd, F, g⟩ := D
  exact ⟨f, fd, g, F.binds b, F.ok S len fun cdv A outer s H vs Q E hr h => bd f cdv A outer s H vs Q E hr h⟩
theorem MethAt.okX {st : Stmt} {N : List Str} (D : MethAt K L m q st) (S : FnScope N ps (defScope st)) (b : BindsBy2 m q st ps) (len : ∀ vs H Q E, sp vs H Q E → vs.length = ps.length)
    (bd : ∀ (f : Addr) (cdv : Value) (A : Around) (outer : List Env) (s : Shared) (H : Hp) (vs : List V) (Q : VK) (E : XK), Room k (A.deeper (envOfC q (defScope st) s.heap.objs.size f cdv)) → sp vs H Q E →
      ∃ t, PSs (cxOf (L2.CX P w) P w K mg base N q (defScope st) f cdv A outer s H E) (defBody st) t ∧ t { nx := fun _ H' => Q .non H', rt := Q } (L2.start N vs) H) : OkM P w K mg base (L2.CX P w) (k + 1) L m ps sp := by
  obtain ⟨f, fd, F, g⟩ := D
  exact ⟨f, fd, g, F.binds b, F.okX S len fun cdv A outer s H vs Q E hr h => bd f cdv A outer s H vs Q E hr h⟩
end
section
variable {X : Cx} {CX : CXT} {k : Nat} {L : Addr} {ps : List Str} {sp : Sp} {E : XK} {m : Str} {o e : Expr} {es : List Expr} {ta : TE} {t : TA} {pos apos : Pos} {pl : Sem Bool}
theorem pe_m (F : OkM X.prog X.w X.K X.mg X.base CX k L m ps sp) (c : Cls X.K L) (hr : Room k X.A) (hx : Passes CX X E) (he : PE X o ta) (ha : PA X (e :: es) t)
    (hst : starEach (e :: es) X.env = (false, eval e X.env) :: starEach es X.env := by rfl) (hpl : (backTo pos (starEach es X.env)).any (·.1) = false := by rfl)
    (ht : eval (.Call (.Attribute o m apos) (e :: es) [] pos) X.env = (do
      let ov ← eval o X.env
      standAt apos.atName
      let (f, first) ← holding [ov] (getMethod ov m pl)
      callWith pos f first (backTo pos (starEach (e :: es) X.env)) (backToKw pos (keywordEach [] X.env))) := by rfl) :
    PE X (.Call (.Attribute o m apos) (e :: es) [] pos) (tMeth L m sp [] E ta t) := by
  obtain ⟨f, fd, a, b, d⟩ := F
  exact pe_meth (pl := pl) he c a d hr b .nil hx ha hst hpl ht
theorem pe_m0 (F : OkM X.prog X.w X.K X.mg X.base CX k L m ps sp) (c : Cls X.K L) (hr : Room k X.A) (hx : Passes CX X E) (he : PE X o ta)
    (ht : eval (.Call (.Attribute o m apos) [] [] pos) X.env = (do
      let ov ← eval o X.env
      standAt apos.atName
      let (f, first) ← holding [ov] (getMethod ov m pl)
      callWith pos f first (backTo pos (starEach [] X.env)) (backToKw pos (keywordEach [] X.env))) := by rfl) :
    PE X (.Call (.Attribute o m apos) [] [] pos) (tMeth L m sp [] E ta tNil) := by
  obtain ⟨f, fd, a, b, d⟩ := F
  exact pe_meth0 (pl := pl) he c a d hr b .nil hx ht
end
/-! ### what stays -/
/-- but for what stands at ms all is as it was; tuples, instances and lists of flat things stay anyhow -/
structure Keep (ms : List Addr) (H H' : Hp) : Prop where
  out : ∀ b u, H b = some u → b ∉ ms → H' b = some u
  tup : ∀ b xs, H b = some (.tup xs) → H' b = some (.tup xs)
  ins : ∀ b C dx fs, H b = some (.ins C dx fs) → H' b = some (.ins C dx fs)
  flat : ∀ b xs, H b = some (.lst xs) → xs.all flatV = true → H' b = some (.lst xs)
  has : ∀ b, H' b = none → H b = none
section
variable {ms ms' : List Addr} {H H1 H2 : Hp}
theorem Keep.refl : Keep ms H H := ⟨fun _ _ e _ => e, fun _ _ e => e, fun _ _ _ _ e => e, fun _ _ e _ => e, fun _ e => e⟩
theorem Keep.of (s : Same H H1) : Keep ms H H1 := ⟨fun b u e _ => s b u e, fun b xs e => s b _ e, fun b _ _ _ e => s b _ e, fun b _ e _ => s b _ e, fun b e => s.free e⟩
theorem Keep.trans (a : Keep ms H H1) (b : Keep ms H1 H2) : Keep ms H H2 :=
  ⟨fun x u e n => b.out x u (a.out x u e n) n, fun x xs e => b.tup x xs (a.tup x xs e), fun x c d f e => b.ins x c d f (a.ins x c d f e), fun x xs e f => b.flat x xs (a.flat x xs e f) f, fun x e => a.has x (b.has x e)⟩
theorem Keep.mono (a : Keep ms H H1) (h : ∀ x ∈ ms, x ∈ ms') : Keep ms' H H1 := ⟨fun x u e n => a.out x u e fun z => n (h x z), a.tup, a.ins, a.flat, a.has⟩
theorem Keep.at {d : Addr} {u u' : HO} (h : H d = some u) (m : d ∈ ms) (h1 : ∀ xs, u ≠ .tup xs) (h2 : ∀ C dx fs, u ≠ .ins C dx fs) (h3 : ∀ xs, u = .lst xs → xs.all flatV = false) : Keep ms H (upd H d u') := by
  refine ⟨fun b v e n => ?_, fun b xs e => ?_, fun b c x f e => ?_, fun b xs e f => ?_, fun b e => ?_⟩
  · rw [upd_ne (show b ≠ d from fun z => n (by rw [z]; exact m))]
    exact e
  · by_cases z : b = d
    · rw [z, h] at e
      exact absurd (Option.some.inj e) (h1 xs)
    · rw [upd_ne z]
      exact e
  · by_cases z : b = d
    · rw [z, h] at e
      exact absurd (Option.some.inj e) (h2 c x f)
    · rw [upd_ne z]
      exact e
  · by_cases z : b = d
    · rw [z, h] at e
      rw [h3 xs (Option.some.inj e)] at f
      cases f
    · rw [upd_ne z]
      exact e
  · by_cases z : b = d
    · rw [z, upd_same] at e
      cases e
    · rw [upd_ne z] at e
      exact e
theorem Keep.dput {d : Addr} {kvs kvs' : List (Key × V)} (h : H d = some (.dK kvs)) (m : d ∈ ms) : Keep ms H (upd H d (.dK kvs')) :=
  Keep.at h m (fun _ z => by cases z) (fun _ _ _ z => by cases z) fun _ z => by cases z
/-- a draw -/
theorem Keep.bag {p q : Addr} (B : Bag H p q) (B1 : Bag H1 p q) (b : But p H H1) (m : p ∈ ms) : Keep ms H H1 := by
  obtain ⟨x, y, c, ns, B⟩ := B
  have top := B.top
  refine ⟨fun b' v e n => ?_, fun b' xs e => ?_, fun b' c x f e => ?_, fun b' xs e f => ?_, fun b' e => ?_⟩
  · exact (b b' fun z => n (by rw [z]; exact m)).trans e
  · exact (b b' (ne_of e top (by intro z; cases z))).trans e
  · exact (b b' (ne_of e top (by intro z; cases z))).trans e
  · refine (b b' fun z => ?_).trans e
    rw [z, top] at e
    cases e
    exact Bool.noConfusion f
  · by_cases z : b' = p
    · rw [z] at e
      exact absurd e B1.there.1
    · exact (b b' z).symm.trans e
theorem Bag.kept {p q : Addr} (B : Bag H p q) (k : Keep ms H H1) (n : p ∉ ms) : Bag H1 p q := by
  obtain ⟨x, y, c, ns, B⟩ := B
  exact ⟨x, y, c, ns, k.out _ _ B.top n, k.flat _ _ B.low (by rw [List.all_map]; exact List.all_eq_true.mpr fun _ _ => rfl), B.a0, B.b0, B.b1, B.c0, B.nn⟩
end
/-! ### the layout -/
/-- where a layout's parts stand -/
structure LA where
  p : Addr
  r : Addr
  l : Addr
  d : Addr
  s : Addr
def LA.ms (A : LA) : List Addr := [A.r, A.l, A.d, A.s]
def lfl (A : LA) : List (Str × V) := [("_rooms", .ref A.r), ("_lines", .ref A.l), ("_drains", .ref A.d), ("_sources", .ref A.s)]
theorem nRL : (("_lines" : Str) == "_rooms") = false := by decide +kernel
theorem nRD : (("_drains" : Str) == "_rooms") = false := by decide +kernel
theorem nRS : (("_sources" : Str) == "_rooms") = false := by decide +kernel
theorem nLD : (("_drains" : Str) == "_lines") = false := by decide +kernel
theorem nLS : (("_sources" : Str) == "_lines") = false := by decide +kernel
theorem nDS : (("_sources" : Str) == "_drains") = false := by decide +kernel
theorem lfl_r (A : LA) : (lfl A).lookup ("_rooms" : Str) = some (.ref A.r) := by simp only [lfl, List.lookup_cons, beq_self_eq_true]
theorem lfl_l (A : LA) : (lfl A).lookup ("_lines" : Str) = some (.ref A.l) := by simp only [lfl, List.lookup_cons, beq_self_eq_true, nRL]
theorem lfl_d (A : LA) : (lfl A).lookup ("_drains" : Str) = some (.ref A.d) := by simp only [lfl, List.lookup_cons, beq_self_eq_true, nRD, nLD]
theorem lfl_s (A : LA) : (lfl A).lookup ("_sources" : Str) = some (.ref A.s) := by simp only [lfl, List.lookup_cons, beq_self_eq_true, nRS, nLS, nDS]
theorem lfl_no (A : LA) {m : Str} (h : ([("_rooms" : Str), "_lines", "_drains", "_sources"]).contains m = false) : (lfl A).lookup m = none := by
  simp only [List.contains_cons, Bool.or_eq_false_iff, List.contains_nil] at h
  simp only [lfl, List.lookup_cons, h.1, h.2.1, h.2.2.1, h.2.2.2.1, List.lookup_nil]
theorem kRL : ¬ (("_rooms" : Str) = "_lines") := by decide +kernel
theorem kRD : ¬ (("_rooms" : Str) = "_drains") := by decide +kernel
theorem kRS : ¬ (("_rooms" : Str) = "_sources") := by decide +kernel
theorem kLD : ¬ (("_lines" : Str) = "_drains") := by decide +kernel
theorem kLS : ¬ (("_lines" : Str) = "_sources") := by decide +kernel
theorem kDS : ¬ (("_drains" : Str) = "_sources") := by decide +kernel
theorem putF_skip {f g : Str} {v x : V} {r : List (Str × V)} (h : ¬ g = f) : putF f v ((g, x) :: r) = (g, x) :: putF f v r := by
  show (if g = f then (g, v) :: r else (g, x) :: putF f v r) = _
  rw [if_neg h]
theorem putF_nil {f : Str} {v : V} : putF f v [] = [(f, v)] := rfl
theorem pf2 (x y : V) : putF "_lines" y (putF "_rooms" x []) = ([("_rooms", x), ("_lines", y)] : List (Str × V)) := by
  rw [putF_nil, putF_skip kRL, putF_nil]
theorem pf3 (x y z : V) : putF "_drains" z ([("_rooms", x), ("_lines", y)] : List (Str × V)) = ([("_rooms", x), ("_lines", y), ("_drains", z)] : List (Str × V)) := by
  rw [putF_skip kRD, putF_skip kLD, putF_nil]
theorem pf4 (x y z u : V) : putF "_sources" u ([("_rooms", x), ("_lines", y), ("_drains", z)] : List (Str × V)) = ([("_rooms", x), ("_lines", y), ("_drains", z), ("_sources", u)] : List (Str × V)) := by
  rw [putF_skip kRS, putF_skip kLS, putF_skip kDS, putF_nil]
def LineG (H : Hp) (v : V) (e : LineV) : Prop := ∃ t, v = .ref t ∧ H t = some (.tup [.str e.1, .str e.2.1, .int e.2.2])
abbrev TrueG (v : V) (_ : Unit) : Prop := v = .bl true
abbrev StrG (v : V) (x : Str) : Prop := v = .str x
/-- a layout stands at A, its state is S -/
structure LayAt (L : Addr) (H : Hp) (A : LA) (S : LS) : Prop where
  ob : ∃ dx, H A.p = some (.ins L dx (lfl A))
  rm : ∃ kvs, H A.r = some (.dK kvs) ∧ Kr TrueG kvs (uT S.rooms)
  ln : ∃ kvs, H A.l = some (.dK kvs) ∧ Kr (LineG H) kvs S.lines
  dr : ∃ kvs, H A.d = some (.dK kvs) ∧ Kr StrG kvs S.drains
  sc : ∃ kvs, H A.s = some (.dK kvs) ∧ Kr TrueG kvs (uT S.sources)
  nd : A.ms.Nodup
section
variable {L : Addr} {H H' : Hp} {A : LA} {S : LS} {ms : List Addr}
theorem LayAt.keep (h : LayAt L H A S) (k : Keep ms H H') (n : ∀ b ∈ ms, b ∉ A.ms) : LayAt L H' A S := by
  obtain ⟨⟨dx, ob⟩, ⟨k1, r1, r2⟩, ⟨k2, l1, l2⟩, ⟨k3, d1, d2⟩, ⟨k4, s1, s2⟩, nd⟩ := h
  have off : ∀ {b u}, b ∈ A.ms → H b = some u → H' b = some u := fun {b u} hb e => k.out b u e fun z => n b z hb
  exact ⟨⟨dx, k.ins _ _ _ _ ob⟩, ⟨k1, off (by simp [LA.ms]) r1, r2⟩, ⟨k2, off (by simp [LA.ms]) l1, l2.mono fun v a ⟨t, e, ht⟩ => ⟨t, e, k.tup t _ ht⟩⟩, ⟨k3, off (by simp [LA.ms]) d1, d2⟩, ⟨k4, off (by simp [LA.ms]) s1, s2⟩, nd⟩
theorem LayAt.same (h : LayAt L H A S) (s : Same H H') : LayAt L H' A S := h.keep (ms := []) (Keep.of s) fun b z => (nomatch z)
theorem LayAt.ne (h : LayAt L H A S) : A.r ≠ A.l ∧ A.r ≠ A.d ∧ A.r ≠ A.s ∧ A.l ≠ A.d ∧ A.l ≠ A.s ∧ A.d ≠ A.s := by
  have n := h.nd
  simp only [LA.ms, List.nodup_cons, List.mem_cons, List.not_mem_nil, or_false, not_or] at n
  exact ⟨n.1.1, n.1.2.1, n.1.2.2, n.2.1.1, n.2.1.2, n.2.2.1⟩
theorem LayAt.dp (h : LayAt L H A S) : A.p ≠ A.r ∧ A.p ≠ A.l ∧ A.p ≠ A.d ∧ A.p ≠ A.s := by
  obtain ⟨⟨dx, ob⟩, ⟨k1, r1, r2⟩, ⟨k2, l1, l2⟩, ⟨k3, d1, d2⟩, ⟨k4, s1, s2⟩, nd⟩ := h
  exact ⟨ne_of ob r1 (by intro z; cases z), ne_of ob l1 (by intro z; cases z), ne_of ob d1 (by intro z; cases z), ne_of ob s1 (by intro z; cases z)⟩
theorem LineG.put {kvs kvs' : List (Key × V)} {d : Addr} (hd : H d = some (.dK kvs)) {v : V} {e : LineV} (h : LineG H v e) : LineG (upd H d (.dK kvs')) v e := by
  obtain ⟨t, e, ht⟩ := h
  exact ⟨t, e, by rw [upd_ne (ne_of ht hd (by intro z; cases z))]; exact ht⟩
theorem LayAt.setR (h : LayAt L H A S) {kvs : List (Key × V)} {xs : List Str} (k : Kr TrueG kvs (uT xs)) : LayAt L (upd H A.r (.dK kvs)) A { S with rooms := xs } := by
  have n := h.ne
  have q := h.dp
  obtain ⟨⟨dx, ob⟩, ⟨k1, r1, r2⟩, ⟨k2, l1, l2⟩, ⟨k3, d1, d2⟩, ⟨k4, s1, s2⟩, nd⟩ := h
  exact ⟨⟨dx, (upd_ne q.1).trans ob⟩, ⟨kvs, upd_same, k⟩, ⟨k2, (upd_ne n.1.symm).trans l1, l2.mono fun v a g => g.put r1⟩, ⟨k3, (upd_ne n.2.1.symm).trans d1, d2⟩, ⟨k4, (upd_ne n.2.2.1.symm).trans s1, s2⟩, nd⟩
theorem LayAt.setL (h : LayAt L H A S) {kvs : List (Key × V)} {xs : List (Str × LineV)} (k : Kr (LineG H) kvs xs) : LayAt L (upd H A.l (.dK kvs)) A { S with lines := xs } := by
  have n := h.ne
  have q := h.dp
  obtain ⟨⟨dx, ob⟩, ⟨k1, r1, r2⟩, ⟨k2, l1, l2⟩, ⟨k3, d1, d2⟩, ⟨k4, s1, s2⟩, nd⟩ := h
  exact ⟨⟨dx, (upd_ne q.2.1).trans ob⟩, ⟨k1, (upd_ne n.1).trans r1, r2⟩, ⟨kvs, upd_same, k.mono fun v a g => g.put l1⟩, ⟨k3, (upd_ne n.2.2.2.1.symm).trans d1, d2⟩, ⟨k4, (upd_ne n.2.2.2.2.1.symm).trans s1, s2⟩, nd⟩
theorem LayAt.setD (h : LayAt L H A S) {kvs : List (Key × V)} {xs : List (Str × Str)} (k : Kr StrG kvs xs) : LayAt L (upd H A.d (.dK kvs)) A { S with drains := xs } := by
  have n := h.ne
  have q := h.dp
  obtain ⟨⟨dx, ob⟩, ⟨k1, r1, r2⟩, ⟨k2, l1, l2⟩, ⟨k3, d1, d2⟩, ⟨k4, s1, s2⟩, nd⟩ := h
  exact ⟨⟨dx, (upd_ne q.2.2.1).trans ob⟩, ⟨k1, (upd_ne n.2.1).trans r1, r2⟩, ⟨k2, (upd_ne n.2.2.2.1).trans l1, l2.mono fun v a g => g.put d1⟩, ⟨kvs, upd_same, k⟩, ⟨k4, (upd_ne n.2.2.2.2.2.symm).trans s1, s2⟩, nd⟩
theorem LayAt.setS (h : LayAt L H A S) {kvs : List (Key × V)} {xs : List Str} (k : Kr TrueG kvs (uT xs)) : LayAt L (upd H A.s (.dK kvs)) A { S with sources := xs } := by
  have n := h.ne
  have q := h.dp
  obtain ⟨⟨dx, ob⟩, ⟨k1, r1, r2⟩, ⟨k2, l1, l2⟩, ⟨k3, d1, d2⟩, ⟨k4, s1, s2⟩, nd⟩ := h
  exact ⟨⟨dx, (upd_ne q.2.2.2).trans ob⟩, ⟨k1, (upd_ne n.2.2.1).trans r1, r2⟩, ⟨k2, (upd_ne n.2.2.2.2.1).trans l1, l2.mono fun v a g => g.put s1⟩, ⟨k3, (upd_ne n.2.2.2.2.2).trans d1, d2⟩, ⟨kvs, upd_same, k⟩, nd⟩
end
/-! ### the promises -/
theorem inV_strs (z : Str) : ∀ xs : List Str, inV (.str z) (xs.map V.str) = decide (z ∈ xs)
  | [] => rfl
  | x :: xs => by
    have ih := inV_strs z xs
    unfold inV at ih ⊢
    rw [List.map_cons, List.any_cons, ih]
    show ((x == z) || decide (z ∈ xs)) = _
    by_cases e : x = z
    · subst e
      simp
    · have e' : ¬ z = x := fun q => e q.symm
      simp [e, e']
theorem flat_strs (xs : List Str) : (xs.map V.str).all flatV = true := by
  rw [List.all_map]
  exact List.all_eq_true.mpr fun x _ => rfl
theorem Kr.strs : ∀ {kvs : List (Key × V)} {tab : List (Str × Str)}, Kr StrG kvs tab → kvs.map (·.2) = (tab.map (·.2)).map V.str
  | _, _, .nil => rfl
  | _, _, .cons h t => by
    have e := Kr.strs t
    have h2 : _ = V.str _ := h.2
    rw [List.map_cons, List.map_cons, List.map_cons, h2, e]
theorem Kr.at {α : Type} {G : V → α → Prop} : ∀ {kvs : List (Key × V)} {tab : List (Str × α)}, Kr G kvs tab → ∀ {i : Nat} {p : Key × V}, kvs[i]? = some p → ∃ q, tab[i]? = some q ∧ p.1 = Sum.inr q.1 ∧ G p.2 q.2
  | _, _, .nil, i, p, e => by simp at e
  | a :: as, b :: bs, .cons h t, 0, p, e => by
    have e' : a = p := by simpa using e
    subst e'
    exact ⟨b, rfl, h⟩
  | a :: as, b :: bs, .cons h t, i + 1, p, e => by
    obtain ⟨q, e1, e2⟩ := Kr.at t (i := i) (p := p) (by simpa using e)
    exact ⟨q, by simpa using e1, e2⟩
section
variable (K : PySem.W.Frag) (C : Nat → Addr) (L : Addr)
def spNeed : Sp := fun vs H Q E => ∃ (y : V) (b : Bool), vs = [y, .bl b] ∧ (b = true → Q .non H) ∧ (b = false → Ref C 0 y H E)
def spIsName : Sp := fun vs H Q _ => ∃ (x : V) (b : Bool), vs = [x] ∧ NameQ K H x b ∧ ∀ H', Same H H' → Q (.bl b) H'
def spIsWhole : Sp := fun vs H Q _ => ∃ (x : V) (b : Bool), vs = [x] ∧ WholeQ K H x b ∧ Q (.bl b) H
def spIsCost : Sp := fun vs H Q _ => ∃ (x : V) (b : Bool), vs = [x] ∧ CostQ K H x b ∧ Q (.bl b) H
/-- what a deed does: it is let by, or refused -/
def Does (D : Deed) (A : LA) (S : LS) (H : Hp) (Q : VK) (E : XK) : Prop :=
  (S.due D = none → ∀ H', LayAt L H' A (S.put D) → Keep A.ms H H' → Q .non H') ∧ ∀ f, S.due D = some f → Ref C f.cls f.val H E
/-- a deed of one name -/
def spOne (D : Str → Deed) : Sp := fun vs H Q E => ∃ (A : LA) (x : V) (b : Bool) (S : LS), vs = [.ref A.p, x] ∧ LayAt L H A S ∧ S.Ok ∧ NameQ K H x b ∧ (b = false → Ref C 0 (.int 0) H E) ∧ ∀ z, x = .str z → okName z = true → Does C L (D z) A S H Q E
def spAddDrain : Sp := fun vs H Q E => ∃ (A : LA) (x y : V) (b c : Bool) (S : LS), vs = [.ref A.p, x, y] ∧ LayAt L H A S ∧ S.Ok ∧ NameQ K H x b ∧ NameQ K H y c ∧ (b = false → Ref C 0 (.int 0) H E) ∧ (b = true → c = false → Ref C 0 (.int 1) H E) ∧
  ∀ z r, x = .str z → y = .str r → okName z = true → okName r = true → Does C L (.addDrain z r) A S H Q E
def spAddLine : Sp := fun vs H Q E => ∃ (A : LA) (x y z u : V) (b1 b2 b3 b4 : Bool) (S : LS), vs = [.ref A.p, x, y, z, u] ∧ LayAt L H A S ∧ S.Ok ∧ NameQ K H x b1 ∧ NameQ K H y b2 ∧ NameQ K H z b3 ∧ CostQ K H u b4 ∧
  (b1 = false → Ref C 0 (.int 0) H E) ∧ (b1 = true → b2 = false → Ref C 0 (.int 1) H E) ∧ (b1 = true → b2 = true → (b3 = false ∨ z = y) → Ref C 0 (.int 2) H E) ∧ (b1 = true → b2 = true → b3 = true → z ≠ y → b4 = false → Ref C 0 (.int 3) H E) ∧
  ∀ n o p c, x = .str n → y = .str o → z = .str p → u = .int c → okName n = true → okName o = true → okName p = true → o ≠ p → okCost c = true → Does C L (.addLine n o p c) A S H Q E
/-- rooms(), lines(), drains(), sources() -/
def spSorted (f : LS → List Str) : Sp := fun vs H Q _ => ∃ (A : LA) (S : LS), vs = [.ref A.p] ∧ LayAt L H A S ∧ S.Ok ∧ ∀ (H' : Hp) (p : Addr) (ys : List Str), ys.Perm (f S) → sortedS ys = true → Same H H' → H p = none → H' p = some (.lst (ys.map V.str)) → Q (.ref p) H'
/-- a question of one name; ans: None where it is lacking -/
def spAsk {α : Type} (ans : LS → Str → Option α) (told : α → V → Hp → Hp → Prop) : Sp := fun vs H Q E => ∃ (A : LA) (x : V) (b : Bool) (S : LS), vs = [.ref A.p, x] ∧ LayAt L H A S ∧ S.Ok ∧ NameQ K H x b ∧ (b = false → Ref C 0 (.int 0) H E) ∧
  ∀ z, x = .str z → okName z = true → (ans S z = none → Ref C 2 (.str z) H E) ∧ ∀ a, ans S z = some a → ∀ H' v, Same H H' → told a v H H' → Q v H'
/-- self._refuse_..(name): refused where the test holds -/
def spRefuse (n : Nat) (f : LS → Str → Bool) : Sp := fun vs H Q E => ∃ (A : LA) (z : Str) (S : LS), vs = [.ref A.p, .str z] ∧ LayAt L H A S ∧ (f S z = true → Ref C n (.str z) H E) ∧ (f S z = false → Q .non H)
/-- self._ending_at(room) -/
def spEnding : Sp := fun vs H Q _ => ∃ (A : LA) (z : Str) (S : LS), vs = [.ref A.p, .str z] ∧ LayAt L H A S ∧ S.Ok ∧ ∀ H' p, Same H H' → H p = none → H' p = some (.lst ((S.at z).map V.str)) → Q (.ref p) H'
def spInUse : Sp := fun vs H Q _ => ∃ (A : LA) (z : Str) (S : LS), vs = [.ref A.p, .str z] ∧ LayAt L H A S ∧ S.Ok ∧ ∀ H', Same H H' → Q (.bl (S.used z)) H'
/-- Layout(): __init__ -/
def spInitL : Sp := fun vs H Q _ => ∃ (p dx : Addr), vs = [.ref p] ∧ H p = some (.ins L dx []) ∧ ∀ (A : LA) (H' : Hp), A.p = p → LayAt L H' A LS.new → (∀ b u, H b = some u → b ≠ p → H' b = some u) → (∀ b ∈ A.ms, H b = none) → (∀ b, H' b = none → H b = none) → Q .non H'
end
end SM
/-! Part V: list(d.values()). -/
namespace SM
open PySem PySem.Spec PyProof.Rows L2
def rValuesL : V → Hp → VK → Prop := fun x H Q => ∃ (d : Addr) (kvs : List (Key × V)), x = .ref d ∧ H d = some (.dK kvs) ∧ ∀ p, H p = none → Q (.ref p) (upd H p (.lst (kvs.map (·.2))))
def tListValues (te : TE) : TE := fun σ H Q => te σ H fun x H1 => rValuesL x H1 Q
theorem vals_kv : ∀ {kvs : List (Key × V)} {vs : List (Key × Value)} {us : List Value}, KV kvs vs → us.length = vs.length → (∀ (j : Nat) (v : Value), us[j]? = some v → ∃ k : Key, vs[j]? = some (k, v)) → Vals (kvs.map (·.2)) us
  | [], [], [], _, _, _ => .nil
  | _, _, u :: us, .cons h t, hl, hu => by
    obtain ⟨k, e⟩ := hu 0 u rfl
    have e' := Option.some.inj e
    refine .cons ?_ (vals_kv t (by simpa using hl) fun j v q => ?_)
    · have r := h.2
      rw [e'] at r
      exact r
    · obtain ⟨k2, e2⟩ := hu (j + 1) v (by simpa using q)
      exact ⟨k2, by simpa using e2⟩
  | _, _, [], .cons _ _, hl, _ => by simp at hl
  | _, _, _ :: _, .nil, hl, _ => by simp at hl
section
variable {X : Cx} {e : Expr} {te : TE} {p apos cpos pos : Pos}
/-- list(e.values()) -/
theorem pe_listValues (hc : X.calm = true) (he : PE X e te) (hg : Gl X "list") (hm : X.mg "list" = none) (hv : bootBuiltins "list" = some (.type "list")) (hbase : attributeBase e "values" X.env (eval e X.env) = eval e X.env := by rfl) (hline : (apos.endLine == cpos.line) = true := by rfl)
    (hs : starEach [.Call (.Attribute e "values" apos) [] [] cpos] X.env = (false, eval (.Call (.Attribute e "values" apos) [] [] cpos) X.env) :: starEach [] X.env := by rfl) :
    PE X (.Call (.Name "list" p) [.Call (.Attribute e "values" apos) [] [] cpos] [] pos) (tListValues te) := by
  refine ⟨fun pins s σ H Q I hq => ?_⟩
  refine wpAny_Call_Name_kw (ld_blt I hg hm hv ?_)
  refine PyProof.Rows.callWith_type1 ?_ hs rfl
  rw [hs]
  show wpAny _ _ (spliced ((false, eval (.Call (.Attribute e "values" apos) [] [] cpos) X.env) :: backTo pos (starEach [] X.env))) _ _ s
  refine Calls.spliced_cons ?_
  refine wpAny_Call_method (T := "dict") (id := "dict.values") hbase rfl hline F.plainAttrs_dict F.slot_dict_values F.type_dict_values (thn (he.run pins s σ H _ I hq) fun u s1 ⟨x, H1, I1, rx, d, kvs, ex, hd, q⟩ => ?_)
  subst ex
  obtain rfl : u = Value.ref d := rx
  obtain ⟨hz, hs0, vs, kv, hdo⟩ := I1.hok d _ hd
  obtain ⟨ep, hat⟩ := hdo.dictAt
  have lk : kvs.length = vs.length := Paired.length kv
  have I2 : Inv X pins σ H1 { s1 with heap := s1.heap.push { cls := .type "dict_values", data := .fields #[.ref d] } } := I1.kept (t' := s1.toks) fun b ob q => Heap.get?_push_of_some _ q
  refine ⟨hdo.typeIs, hdo.mapOf.noDict, ?_⟩
  show wpAny _ _ (callWith cpos (.builtin "dict.values") [.ref d] [] []) _ X.xe s1
  refine method_meetsIn F.slot_dict_values F.entry_dict_values rfl (PySem.evalArgs_none ⟨rfl, hdo.typeIs, F.args_dict_values_1 _, _, meets_dict_values (mixKind X.prog X.w) d hs0, ⟨vs, hdo⟩, ?_⟩)
  refine Calls.spliced_nil ?_
  refine PySem.W.kdl_call (PySem.W.kdl_values (knd := mixKind X.prog X.w) (kvs := vs) (ep := ep)) (I1.ok.hd hc) ⟨⟨_, Heap.get?_push_size _ rfl, rfl, rfl⟩, hat.push _⟩ (by omega) fun h' tk acc c hk hS hacc => ?_
  have hvs : Vals (kvs.map (·.2)) acc.toList := vals_kv kv (by rw [Array.length_toList]; exact hacc.1) fun j v e => hacc.2 j v (by rw [← Array.getElem?_toList]; exact e)
  exact ⟨.ref _, upd H1 _ (.lst (kvs.map (·.2))), I2.laid (t' := tk) hk (Nat.le_refl _)
    (show ObjOk X.prog X.w _ _ _ (.lst (kvs.map (·.2))) from ⟨by rw [List.length_map]; exact hz, acc.toList, c, hvs, by rw [Array.toArray_toList]; exact hS⟩), rfl, q _ (I2.hok.fresh (Nat.le_refl _))⟩
end
section
variable {X : Cx} {K : PySem.W.Frag}
theorem op_in_seqK (h : X.K = K) : OpR X (compareOp .In) (rIn K false) := by
  subst h
  exact op_in_seq
theorem op_notIn_seqK (h : X.K = K) : OpR X (compareOp .NotIn) (rIn K true) := by
  subst h
  exact op_notIn_seq
theorem ix_listK (h : X.K = K) : IxR X (rIxL K) := by
  subst h
  exact ix_list
theorem pg_tupK {es : List Expr} {k : Nat} {t : TGs} {n : Nat} {pos : Pos} (hK : X.K = K) (hc : X.calm = true) (h : PGs X es t)
    (hn : (assignEach es X.env).length = n := by rfl) (hst : (assignEach es X.env).findIdx? (·.1) = none := by rfl) : PG X (.Tuple es k pos) (gTup K n t) := by
  subst hK
  exact pg_tup hc h hn hst
end
end SM
/-! Part K: what a law holds of a layout: sorted lists, data, its own book. -/
namespace SM
open PySem PySem.Spec PyProof.Rows L2
/-! ### sorted lists of texts: one arrangement -/
theorem lt_anti : ∀ {a b : List Nat}, ltCps b a = false → ltCps a b = false → a = b
  | [], [], _, _ => rfl
  | [], _ :: _, _, h => by cases h
  | _ :: _, [], h, _ => by cases h
  | x :: xs, y :: ys, h1, h2 => by
    simp only [ltCps, Bool.or_eq_false_iff, decide_eq_false_iff_not] at h1 h2
    have e : x = y := by omega
    subst e
    have h1' : ltCps ys xs = false := by simpa using h1.2
    have h2' : ltCps xs ys = false := by simpa using h2.2
    rw [lt_anti h1' h2']
theorem le_tr : ∀ {a b c : List Nat}, ltCps b a = false → ltCps c b = false → ltCps c a = false
  | [], _, [], _, _ => rfl
  | [], [], _ :: _, _, _ => rfl
  | [], _ :: _, _ :: _, _, _ => rfl
  | _ :: _, [], _, h, _ => by cases h
  | _ :: _, _ :: _, [], _, h => by cases h
  | x :: xs, y :: ys, z :: zs, h1, h2 => by
    simp only [ltCps, Bool.or_eq_false_iff, decide_eq_false_iff_not] at h1 h2 ⊢
    refine ⟨by omega, ?_⟩
    by_cases e : z = x
    · have e1 : y = x := by omega
      subst e1
      subst e
      have h1' : ltCps ys xs = false := by simpa using h1.2
      have h2' : ltCps zs ys = false := by simpa using h2.2
      rw [le_tr h1' h2', Bool.and_false]
    · rw [beq_false_of_ne e, Bool.false_and]
abbrev leS (a b : Str) : Prop := ltCps b.cps.toList a.cps.toList = false
theorem leS_anti {a b : Str} (h1 : leS a b) (h2 : leS b a) : a = b := by
  have e := lt_anti h1 h2
  obtain ⟨⟨x⟩⟩ := a
  obtain ⟨⟨y⟩⟩ := b
  have e' : x = y := e
  rw [e']
theorem rising_pw : ∀ {l : List Str} {p : Str}, risingS p l = true → (p :: l).Pairwise leS
  | [], p, _ => List.pairwise_singleton _ _
  | x :: r, p, h => by
    have h' : (!ltCps x.cps.toList p.cps.toList) = true ∧ risingS x r = true := by
      have z : (!ltCps x.cps.toList p.cps.toList && risingS x r) = true := h
      simpa using z
    have ih := rising_pw h'.2
    have px : leS p x := by simpa using h'.1
    refine List.pairwise_cons.mpr ⟨fun y hy => ?_, ih⟩
    rcases List.mem_cons.mp hy with e | hy
    · rw [e]
      exact px
    · exact le_tr px ((List.pairwise_cons.mp ih).1 y hy)
theorem sorted_pw : ∀ {l : List Str}, sortedS l = true → l.Pairwise leS
  | [], _ => List.Pairwise.nil
  | _ :: _, h => rising_pw h
theorem sorted_one {xs ys zs : List Str} (p : ys.Perm xs) (q : zs.Perm xs) (s : sortedS ys = true) (t : sortedS zs = true) : ys = zs :=
  List.Perm.eq_of_pairwise (fun a b _ _ h1 h2 => leS_anti h1 h2) (sorted_pw s) (sorted_pw t) (p.trans q.symm)
/-! ### xs.count(y), all flat -/
theorem countP_eqU {x : V} : ∀ {xs : List V} {us : List Value}, Vals xs us → xs.all flatV = true → us.countP (eqU x) = xs.countP fun y => eqV y x
  | _, _, .nil, _ => rfl
  | y :: xs, u :: us, .cons r t, f => by
    rw [List.all_cons, Bool.and_eq_true] at f
    rw [List.countP_cons, List.countP_cons, eqU_of r f.1, countP_eqU t f.2]
def rCntF (K : PySem.W.Frag) : V → List V → Hp → VK → Prop := fun x vs H Q => ∃ (p : Addr) (xs : List V) (y : V), x = .ref p ∧ vs = [y] ∧ SqL K H p xs ∧ flatV y = true ∧ xs.all flatV = true ∧ Q (.int (xs.countP fun z => eqV z y : Nat)) H
theorem mt_countF {X : Cx} : MtR X "list.count" (rCntF X.K) := by
  intro pins s σ H x vs v us Q I rx rxs h
  obtain ⟨p, xs, y, rfl, rfl, hs, fy, fx, q⟩ := h
  cases rx
  obtain ⟨u, rfl, ru⟩ := rxs.one
  obtain ⟨its, rv, ⟨⟨cls, dd, data, sl⟩, n, ho, hc, hdn, hd⟩, hlen⟩ := I.list hs
  simp only at hc hd
  subst hc hd
  refine call_meets PySem.F.slot_list_count ⟨_, ho, rfl⟩ PySem.F.entry_list_count (PySem.F.args_list_count_2 _ _)
    (SeqAt.list_countAt p its.toArray n dd sl u (eqU y)) ⟨ho, fun z hz => mem_eqAt ru fy rv fx z (by simpa using hz), ?_⟩
  have ec : its.toArray.toList.countP (eqU y) = xs.countP fun z => eqV z y := countP_eqU rv fx
  refine ⟨.int (xs.countP fun z => eqV z y : Nat), H, I.tok _, ⟨s.toks, ?_⟩, q⟩
  show Value.int ((its.toArray.toList.countP (eqU y) : Nat) : Int) s.toks = Value.int ((xs.countP fun z => eqV z y : Nat) : Int) s.toks
  rw [ec]
/-! ### small data -/
structure Sm (k w : Nat) (d : PyData) : Prop where
  lay : d.canLay0 = true
  dep : d.depth ≤ k
  ish : d.intsShort 64 = true
  sho : d.showable = true
  wt : d.weight ≤ w
structure SmAll (k w : Nat) (ds : List PyData) : Prop where
  lay : PyData.canLayAll0 ds = true
  dep : PyData.depthAll ds ≤ k
  ish : PyData.intsShortAll 64 ds = true
  sho : PyData.showableAll ds = true
  wt : PyData.weightAll ds ≤ ds.length * (w + 1)
theorem SmAll.nil {k w : Nat} : SmAll k w [] := ⟨by simp only [PyData.canLayAll0], by simp only [PyData.depthAll]; omega, by simp only [PyData.intsShortAll], by simp only [PyData.showableAll], by simp only [PyData.weightAll]; omega⟩
theorem SmAll.cons {k w : Nat} {d : PyData} {ds : List PyData} (h : Sm k w d) (t : SmAll k w ds) : SmAll k w (d :: ds) := by
  refine ⟨?_, ?_, ?_, ?_, ?_⟩
  · simp only [PyData.canLayAll0, h.lay, t.lay, Bool.and_self]
  · simp only [PyData.depthAll]
    have := h.dep
    have := t.dep
    omega
  · simp only [PyData.intsShortAll, h.ish, t.ish, Bool.and_self]
  · simp only [PyData.showableAll, h.sho, t.sho, Bool.and_self]
  · simp only [PyData.weightAll, List.length_cons, Nat.succ_mul]
    have := h.wt
    have := t.wt
    omega
theorem SmAll.map {α : Type} {k w : Nat} (f : α → PyData) : ∀ {xs : List α}, (∀ x ∈ xs, Sm k w (f x)) → SmAll k w (xs.map f)
  | [], _ => .nil
  | _ :: _, h => .cons (h _ List.mem_cons_self) (SmAll.map f fun x hx => h x (List.mem_cons_of_mem _ hx))
theorem Sm.lst {k w : Nat} {ds : List PyData} (h : SmAll k w ds) : Sm (k + 1) (ds.length * (w + 1)) (.list ds) := by
  refine ⟨?_, ?_, ?_, ?_, ?_⟩
  · simp only [PyData.canLay0, h.lay]
  · simp only [PyData.depth]
    have := h.dep
    omega
  · simp only [PyData.intsShort, h.ish]
  · simp only [PyData.showable, h.sho]
  · simp only [PyData.weight]
    exact h.wt
theorem Sm.tup {k w : Nat} {ds : List PyData} (h : SmAll k w ds) : Sm (k + 1) (ds.length * (w + 1)) (.tuple ds) := by
  refine ⟨?_, ?_, ?_, ?_, ?_⟩
  · simp only [PyData.canLay0, h.lay]
  · simp only [PyData.depth]
    have := h.dep
    omega
  · simp only [PyData.intsShort, h.ish]
  · simp only [PyData.showable, h.sho]
  · simp only [PyData.weight]
    exact h.wt
theorem Sm.mono {k k' w w' : Nat} {d : PyData} (h : Sm k w d) (a : k ≤ k') (b : w ≤ w') : Sm k' w' d := ⟨h.lay, Nat.le_trans h.dep a, h.ish, h.sho, Nat.le_trans h.wt b⟩
theorem Sm.fine {k w : Nat} {d : PyData} (h : Sm k w d) (a : k ≤ 50) (b : w ≤ 100000) : Fine d := ⟨h.lay, Nat.le_trans h.dep a, h.ish, h.sho, Nat.le_trans h.wt b⟩
def smallS (z : Str) : Bool := PyData.strOk z && decide (z.cps.size ≤ 16)
theorem sm_str {z : Str} (h : smallS z = true) : Sm 0 16 (.str z) := by
  simp only [smallS, Bool.and_eq_true, decide_eq_true_eq] at h
  exact ⟨by simp only [PyData.canLay0, h.1], by simp only [PyData.depth]; omega, by simp only [PyData.intsShort], by simp only [PyData.showable], by simp only [PyData.weight]; exact h.2⟩
theorem sm_none : Sm 0 16 .none := ⟨by simp only [PyData.canLay0], by simp only [PyData.depth]; omega, by simp only [PyData.intsShort], by simp only [PyData.showable], by simp only [PyData.weight]; omega⟩
theorem sm_int {i : Int} (h0 : 0 ≤ i) (h1 : i ≤ 99) : Sm 0 16 (.int i) := by
  obtain ⟨n, rfl⟩ : ∃ n : Nat, i = n := ⟨i.toNat, by omega⟩
  have hn : n ≤ 99 := by omega
  have key : ∀ m : Nat, m < 100 → (PyData.intsShort 64 (.int (m : Int)) && PyData.showable (.int (m : Int)) && decide (PyData.weight (.int (m : Int)) ≤ 16)) = true := by decide +kernel
  have k := key n (by omega)
  simp only [Bool.and_eq_true, decide_eq_true_eq] at k
  exact ⟨by simp only [PyData.canLay0], by simp only [PyData.depth]; omega, k.1.1, k.1.2, k.2⟩
theorem lexlt_cons {c d : Nat} : ([c] < [d]) ↔ c < d := by
  constructor
  · intro h
    cases h with
    | rel h => exact h
    | cons h => cases h
  · intro h
    exact List.Lex.rel h
theorem sgA_eq : sgA.cps.toList = [97] := by decide +kernel
theorem sgZ_eq : sgZ.cps.toList = [122] := by decide +kernel
theorem okSign_iff {c : Nat} : okSign c = true ↔ 97 ≤ c ∧ c ≤ 122 := by
  unfold okSign
  rw [sgA_eq, sgZ_eq]
  simp only [Bool.and_eq_true, Bool.not_eq_true', decide_eq_false_iff_not, lexlt_cons]
  omega
theorem okName_small {z : Str} (h : okName z = true) : smallS z = true := by
  simp only [okName, Bool.and_eq_true, decide_eq_true_eq] at h
  simp only [smallS, PyData.strOk, Bool.and_eq_true, decide_eq_true_eq]
  refine ⟨?_, by omega⟩
  rw [Array.all_eq_true']
  intro c hc
  have := okSign_iff.mp (List.all_eq_true.mp h.2 c (by simpa using hc))
  exact decide_eq_true (by omega)
theorem okName_iff {z : Str} : okName z = true ↔ 1 ≤ z.cps.size ∧ z.cps.size ≤ 8 ∧ ∀ c ∈ z.cps.toList, okSign c = true := by
  simp only [okName, Bool.and_eq_true, decide_eq_true_eq, List.all_eq_true]
  exact ⟨fun h => ⟨h.1.1, h.1.2, h.2⟩, fun h => ⟨⟨h.1, h.2.1⟩, h.2.2⟩⟩
/-! ### a law's deeds -/
def Deed.vs : Deed → List V
  | .addRoom x => [.str "add_room", .str x]
  | .addLine x a b c => [.str "add_line", .str x, .str a, .str b, .int c]
  | .addDrain x r => [.str "add_drain", .str x, .str r]
  | .addSource x => [.str "add_source", .str x]
  | .takeRoom x => [.str "take_room", .str x]
  | .takeLine x => [.str "take_line", .str x]
  | .takeDrain x => [.str "take_drain", .str x]
  | .takeSource x => [.str "take_source", .str x]
def Rf.word : Rf → Str
  | .there _ => "There"
  | .lacks _ => "Lacks"
  | .tooMany _ => "TooMany"
  | .inUse _ => "InUse"
def Rf.data : Rf → PyData
  | .there x => .str x
  | .lacks x => .str x
  | .tooMany n => .int n
  | .inUse x => .str x
/-- what is due as a value -/
def DueV (H : Hp) (v : V) : Option Rf → Prop
  | none => v = .non
  | some f => ∃ t, v = .ref t ∧ H t = some (.tup [.str f.word, f.val])
theorem DueV.keep {ms : List Addr} {H H' : Hp} {v : V} {o : Option Rf} (h : DueV H v o) (k : Keep ms H H') : DueV H' v o := by
  cases o with
  | none => exact h
  | some f =>
    obtain ⟨t, e, q⟩ := h
    exact ⟨t, e, k.tup _ _ q⟩
/-- what is said: as data -/
def saidD : Option Rf → PyData
  | none => .tuple [.str "told", .none]
  | some f => .tuple [.str "refused", .tuple [.str f.word, f.data]]
theorem Rf.dp {K : PySem.W.Frag} {H : Hp} (f : Rf) : Dp K H f.val f.data := by
  cases f with
  | there x => exact .str x
  | lacks x => exact .str x
  | tooMany n => exact .int n
  | inUse x => exact .str x
/-- a refusal that a layout makes of names -/
def Rf.Good : Rf → Prop
  | .there x => okName x = true
  | .lacks x => okName x = true
  | .tooMany n => 0 ≤ n ∧ n ≤ 99
  | .inUse x => okName x = true
theorem Rf.Good.sm {f : Rf} (g : f.Good) : Sm 0 16 f.data := by
  cases f with
  | there x => exact sm_str (okName_small g)
  | lacks x => exact sm_str (okName_small g)
  | tooMany n => exact sm_int g.1 g.2
  | inUse x => exact sm_str (okName_small g)
theorem Rf.word_small : ∀ f : Rf, smallS f.word = true
  | .there _ => (by decide +kernel : smallS "There" = true)
  | .lacks _ => (by decide +kernel : smallS "Lacks" = true)
  | .tooMany _ => (by decide +kernel : smallS "TooMany" = true)
  | .inUse _ => (by decide +kernel : smallS "InUse" = true)
theorem said_fine {o : Option Rf} (g : ∀ f, o = some f → f.Good) : Fine (saidD o) := by
  cases o with
  | none =>
    exact (Sm.tup (.cons (sm_str (by decide +kernel)) (.cons sm_none .nil))).fine (by decide) (show 2 * (16 + 1) ≤ 100000 by decide)
  | some f =>
    have i := Sm.tup (SmAll.cons (sm_str f.word_small) (.cons (g f rfl).sm .nil))
    exact (Sm.tup (.cons ((sm_str (z := "refused") (by decide +kernel)).mono (k' := 1) (w' := 34) (by decide) (by decide)) (.cons (i.mono (k' := 1) (w' := 34) (by decide) (Nat.le_refl _)) .nil))).fine (by decide) (show 2 * (34 + 1) ≤ 100000 by decide)
theorem due_good {S : LS} {D : Deed} (g : D.Good) {f : Rf} (h : S.due D = some f) : f.Good := by
  cases D with
  | addRoom x => simp only [LS.due] at h; split at h <;> (try split at h) <;> first | (cases h; exact g) | (cases h; exact ⟨by decide, by decide⟩) | cases h
  | addLine x a b c => simp only [LS.due] at h; split at h <;> (try split at h) <;> (try split at h) <;> (try split at h) <;> first | (cases h; exact g.1) | (cases h; exact g.2.1) | (cases h; exact g.2.2.1) | (cases h; exact ⟨by decide, by decide⟩) | cases h
  | addDrain x r => simp only [LS.due] at h; split at h <;> (try split at h) <;> (try split at h) <;> first | (cases h; exact g.1) | (cases h; exact g.2) | (cases h; exact ⟨by decide, by decide⟩) | cases h
  | addSource x => simp only [LS.due] at h; split at h <;> (try split at h) <;> first | (cases h; exact g) | cases h
  | takeRoom x => simp only [LS.due] at h; split at h <;> (try split at h) <;> first | (cases h; exact g) | cases h
  | takeLine x => simp only [LS.due] at h; split at h <;> first | (cases h; exact g) | cases h
  | takeDrain x => simp only [LS.due] at h; split at h <;> first | (cases h; exact g) | cases h
  | takeSource x => simp only [LS.due] at h; split at h <;> first | (cases h; exact g) | cases h
/-! ### a law's book of a layout -/
structure MA where
  m : Addr
  l : Addr
  d : Addr
  tw : Bool
def MA.ms (A : MA) : List Addr := [A.m, A.l, A.d]
def mtop (A : MA) (a b : Addr) : List (Key × V) := if A.tw = true then ([(Sum.inr "rooms", .ref a), (Sum.inr "sources", .ref b), (Sum.inr "lines", .ref A.l), (Sum.inr "drains", .ref A.d)] : List (Key × V)) else [(Sum.inr "rooms", .ref a), (Sum.inr "lines", .ref A.l), (Sum.inr "drains", .ref A.d), (Sum.inr "sources", .ref b)]
theorem mtop_t {A : MA} {a b : Addr} (h : A.tw = true) : mtop A a b = ([(Sum.inr "rooms", .ref a), (Sum.inr "sources", .ref b), (Sum.inr "lines", .ref A.l), (Sum.inr "drains", .ref A.d)] : List (Key × V)) := if_pos h
theorem mtop_f {A : MA} {a b : Addr} (h : ¬ A.tw = true) : mtop A a b = ([(Sum.inr "rooms", .ref a), (Sum.inr "lines", .ref A.l), (Sum.inr "drains", .ref A.d), (Sum.inr "sources", .ref b)] : List (Key × V)) := if_neg h
theorem mtop_len (A : MA) (a b : Addr) : (mtop A a b).length ≤ 1000 := by
  by_cases h : A.tw = true
  · rw [mtop_t h]
    show 4 ≤ 1000
    decide
  · rw [mtop_f h]
    show 4 ≤ 1000
    decide
/-- a sorted list of xs stands at a -/
def SortAt (H : Hp) (a : Addr) (xs : List Str) : Prop := ∃ ys : List Str, ys.Perm xs ∧ sortedS ys = true ∧ H a = some (.lst (ys.map V.str))
structure MdAt (H : Hp) (A : MA) (S : LS) : Prop where
  top : ∃ a b, H A.m = some (.dK (mtop A a b)) ∧ SortAt H a S.rooms ∧ SortAt H b S.sources
  ln : ∃ kvs, H A.l = some (.dK kvs) ∧ Kr (LineG H) kvs S.lines
  dr : ∃ kvs, H A.d = some (.dK kvs) ∧ Kr StrG kvs S.drains
  nd : A.ms.Nodup
section
variable {H H' : Hp} {A : MA} {S : LS} {ms : List Addr}
theorem SortAt.keep {a : Addr} {xs : List Str} (h : SortAt H a xs) (k : Keep ms H H') : SortAt H' a xs := by
  obtain ⟨ys, p, s, e⟩ := h
  exact ⟨ys, p, s, k.flat _ _ e (flat_strs _)⟩
theorem MdAt.keep (h : MdAt H A S) (k : Keep ms H H') (n : ∀ b ∈ ms, b ∉ A.ms) : MdAt H' A S := by
  obtain ⟨⟨a, b, e1, e2, e3⟩, ⟨k2, l1, l2⟩, ⟨k3, d1, d2⟩, nd⟩ := h
  have off : ∀ {b u}, b ∈ A.ms → H b = some u → H' b = some u := fun {b u} hb e => k.out b u e fun z => n b z hb
  exact ⟨⟨a, b, off (by simp [MA.ms]) e1, e2.keep k, e3.keep k⟩, ⟨k2, off (by simp [MA.ms]) l1, l2.mono fun v a ⟨t, e, ht⟩ => ⟨t, e, k.tup t _ ht⟩⟩, ⟨k3, off (by simp [MA.ms]) d1, d2⟩, nd⟩
theorem MdAt.same (h : MdAt H A S) (s : Same H H') : MdAt H' A S := h.keep (ms := []) (Keep.of s) fun b z => (nomatch z)
theorem MdAt.ne (h : MdAt H A S) : A.m ≠ A.l ∧ A.m ≠ A.d ∧ A.l ≠ A.d := by
  have n := h.nd
  simp only [MA.ms, List.nodup_cons, List.mem_cons, List.not_mem_nil, or_false, not_or] at n
  exact ⟨n.1.1, n.1.2, n.2.1⟩
end
theorem kq1 : ¬ (Sum.inr ("rooms" : Str) : Key) = Sum.inr ("lines" : Str) := by decide +kernel
theorem kq2 : ¬ (Sum.inr ("rooms" : Str) : Key) = Sum.inr ("drains" : Str) := by decide +kernel
theorem kq3 : ¬ (Sum.inr ("rooms" : Str) : Key) = Sum.inr ("sources" : Str) := by decide +kernel
theorem kq4 : ¬ (Sum.inr ("lines" : Str) : Key) = Sum.inr ("drains" : Str) := by decide +kernel
theorem kq5 : ¬ (Sum.inr ("lines" : Str) : Key) = Sum.inr ("sources" : Str) := by decide +kernel
theorem kq6 : ¬ (Sum.inr ("drains" : Str) : Key) = Sum.inr ("sources" : Str) := by decide +kernel
theorem mtop_r (A : MA) (a b : Addr) : valV (mtop A a b) (Sum.inr "rooms") = some (.ref a) := by
  by_cases h : A.tw = true
  · rw [mtop_t h, valV_pos rfl]
  · rw [mtop_f h, valV_pos rfl]
theorem mtop_l (A : MA) (a b : Addr) : valV (mtop A a b) (Sum.inr "lines") = some (.ref A.l) := by
  by_cases h : A.tw = true
  · rw [mtop_t h, valV_neg kq1, valV_neg (Ne.symm kq5), valV_pos rfl]
  · rw [mtop_f h, valV_neg kq1, valV_pos rfl]
theorem mtop_d (A : MA) (a b : Addr) : valV (mtop A a b) (Sum.inr "drains") = some (.ref A.d) := by
  by_cases h : A.tw = true
  · rw [mtop_t h, valV_neg kq2, valV_neg (Ne.symm kq6), valV_neg kq4, valV_pos rfl]
  · rw [mtop_f h, valV_neg kq2, valV_neg kq4, valV_pos rfl]
theorem mtop_s (A : MA) (a b : Addr) : valV (mtop A a b) (Sum.inr "sources") = some (.ref b) := by
  by_cases h : A.tw = true
  · rw [mtop_t h, valV_neg kq3, valV_pos rfl]
  · rw [mtop_f h, valV_neg kq3, valV_neg kq5, valV_neg kq6, valV_pos rfl]
theorem mtop_setR (A : MA) (a b c : Addr) : putK (mtop A a b) (Sum.inr "rooms") (.ref c) = mtop A c b := by
  unfold putK
  rw [valV_any, mtop_r, if_pos (show (some (V.ref a)).isSome = true from rfl)]
  by_cases h : A.tw = true
  · rw [mtop_t h, mtop_t h]
    simp only [List.map_cons, List.map_nil, if_neg (Ne.symm kq1), if_neg (Ne.symm kq2), if_neg (Ne.symm kq3), if_true]
  · rw [mtop_f h, mtop_f h]
    simp only [List.map_cons, List.map_nil, if_neg (Ne.symm kq1), if_neg (Ne.symm kq2), if_neg (Ne.symm kq3), if_true]
theorem mtop_setS (A : MA) (a b c : Addr) : putK (mtop A a b) (Sum.inr "sources") (.ref c) = mtop A a c := by
  unfold putK
  rw [valV_any, mtop_s, if_pos (show (some (V.ref b)).isSome = true from rfl)]
  by_cases h : A.tw = true
  · rw [mtop_t h, mtop_t h]
    simp only [List.map_cons, List.map_nil, if_neg kq3, if_neg kq5, if_neg kq6, if_true]
  · rw [mtop_f h, mtop_f h]
    simp only [List.map_cons, List.map_nil, if_neg kq3, if_neg kq5, if_neg kq6, if_true]
theorem dget_of {H : Hp} {d : Addr} {kvs : List (Key × V)} {z : Str} {v : V} (h : H d = some (.dK kvs)) (e : valV kvs (Sum.inr z) = some v) : DGet H d (.str z) (some v) := by
  have g := DGet.k (k := Sum.inr z) h
  rw [e] at g
  exact g
/-- .. read under a lock, too -/
theorem dget_rd {H : Hp} {d : Addr} {kvs : List (Key × V)} {z : Str} {v : V} (h : Rd H d (.dK kvs)) (e : valV kvs (Sum.inr z) = some v) : DGet H d (.str z) (some v) := .inl ⟨kvs, Sum.inr z, h, rfl, e.symm⟩
end SM
namespace SM
open PySem PySem.Spec PyProof.Rows L2
theorem joinL_single : ∀ cs : List Nat, TL.joinL [] (cs.map fun c => [c]) = cs
  | [] => rfl
  | [c] => rfl
  | c :: d :: r => by
    have e := joinL_single (d :: r)
    simp only [List.map_cons] at e ⊢
    show [c] ++ ([] ++ TL.joinL [] ([d] :: r.map fun c => [c])) = c :: d :: r
    rw [e]
    rfl
theorem okName_join {cs : List Nat} (h1 : 1 ≤ cs.length) (h8 : cs.length ≤ 8) (h : ∀ c ∈ cs, okSign c = true) : okName (Txt.join "" (cs.map fun c => (⟨#[c]⟩ : Str))) = true := by
  have e : (Txt.join "" (cs.map fun c => (⟨#[c]⟩ : Str))).cps.toList = cs := by
    rw [TL.join_eq]
    have t := TL.tl_join "" (cs.map fun c => (⟨#[c]⟩ : Str))
    have e0 : TL.tl "" = [] := by decide +kernel
    rw [e0, List.map_map] at t
    exact t.trans (joinL_single cs)
  refine okName_iff.mpr ⟨?_, ?_, ?_⟩
  · rw [← Array.length_toList, e]
    exact h1
  · rw [← Array.length_toList, e]
    exact h8
  · rw [e]
    exact h
/-! ### promises of a law's own defs -/
def spAlike (K : PySem.W.Frag) : Sp := fun vs H Q _ => ∃ (x y : V) (d : PyData), vs = [x, y] ∧ Dp K H x d ∧ Dp K H y d ∧ Fine d ∧ Q (.bl true) H
def spNameL : Sp := fun vs H Q _ => ∃ (p q : Addr), vs = [.ref p] ∧ Bag H p q ∧ ∀ (z : Str) (H' : Hp), okName z = true → Bag H' p q → Keep [p] H H' → Q (.str z) H'
/-- a list of names -/
def NamesAt (H : Hp) (a : Addr) (ys : List Str) : Prop := H a = some (.lst (ys.map V.str)) ∧ 0 < ys.length ∧ ys.length ≤ 30 ∧ ∀ y ∈ ys, okName y = true
theorem NamesAt.keep {ms : List Addr} {H H' : Hp} {a : Addr} {ys : List Str} (h : NamesAt H a ys) (k : Keep ms H H') : NamesAt H' a ys := ⟨k.flat _ _ h.1 (flat_strs _), h.2⟩
def spNamesL : Sp := fun vs H Q _ => ∃ (p q : Addr) (n : Int), vs = [.ref p, .int n] ∧ Bag H p q ∧ 1 ≤ n ∧ n ≤ 30 ∧ ∀ (a : Addr) (ys : List Str) (H' : Hp), NamesAt H' a ys → Bag H' p q → Keep [p] H H' → Q (.ref a) H'
def spNewL : Sp := fun vs H Q _ => vs = [] ∧ ∀ (A : MA) (H' : Hp), MdAt H' A LS.new → Same H H' → (∀ b ∈ A.ms, H b = none) → Q (.ref A.m) H'
def spCostL : Sp := fun vs H Q _ => ∃ (p q : Addr), vs = [.ref p] ∧ Bag H p q ∧ ∀ (i : Int) (H' : Hp), okCost i = true → Bag H' p q → Keep [p] H H' → Q (.int i) H'
/-- a deed's tuple, of good names -/
def DeedAt (H : Hp) (v : V) (D : Deed) : Prop := ∃ t, v = .ref t ∧ H t = some (.tup D.vs)
theorem DeedAt.keep {ms : List Addr} {H H' : Hp} {v : V} {D : Deed} (h : DeedAt H v D) (k : Keep ms H H') : DeedAt H' v D := by
  obtain ⟨t, e, q⟩ := h
  exact ⟨t, e, k.tup _ _ q⟩
def spAddLineL : Sp := fun vs H Q _ => ∃ (p q a b : Addr) (rs ds : List Str), vs = [.ref p, .ref a, .ref b] ∧ Bag H p q ∧ NamesAt H a rs ∧ NamesAt H b ds ∧ ∀ (D : Deed) (v : V) (H' : Hp), D.Good → DeedAt H' v D → Bag H' p q → Keep [p] H H' → Q v H'
/-- a law's deed of words ws -/
def spDeedL : Sp := fun vs H Q _ => ∃ (p q a b c : Addr) (rs ds ws : List Str), vs = [.ref p, .ref a, .ref b, .ref c] ∧ Bag H p q ∧ NamesAt H a rs ∧ NamesAt H b ds ∧ H c = some (.lst (ws.map V.str)) ∧ 0 < ws.length ∧ ws.length ≤ 30 ∧
  (∀ x ∈ ws, x ∈ (["add_room", "add_line", "add_drain", "add_source", "take_room", "take_line", "take_drain", "take_source"] : List Str)) ∧ ∀ (D : Deed) (v : V) (H' : Hp), D.Good → DeedAt H' v D → Bag H' p q → Keep [p] H H' → Q v H'
def spDueL : Sp := fun vs H Q _ => ∃ (A : MA) (S : LS) (v : V) (D : Deed), vs = [.ref A.m, v] ∧ MdAt H A S ∧ S.Ok ∧ DeedAt H v D ∧ D.Good ∧ ∀ (u : V) (H' : Hp), DueV H' u (S.due D) → Same H H' → Q u H'
def spDoL : Sp := fun vs H Q _ => ∃ (A : MA) (S : LS) (v : V) (D : Deed), vs = [.ref A.m, v] ∧ MdAt H A S ∧ S.Ok ∧ DeedAt H v D ∧ S.due D = none ∧ ∀ (H' : Hp), MdAt H' A (S.put D) → Keep A.ms H H' → Q .non H'
def spCallL (C : Nat → Addr) (L : Addr) : Sp := fun vs H Q E => ∃ (A : LA) (S : LS) (v : V) (D : Deed), vs = [.ref A.p, v] ∧ LayAt L H A S ∧ S.Ok ∧ DeedAt H v D ∧ D.Good ∧ Does C L D A S H Q E
def spClassL (C : Nat → Addr) : Addr → Value → Option Addr → Sp := fun a c d vs H Q _ => ∃ (f : Rf) (dd : Addr), c = .ref (C f.cls) ∧ d = some dd ∧ H dd = some (.xd [(fldN f.cls, f.val)]) ∧ vs = [.ref a] ∧
  ∀ (H' : Hp) (t : Addr), Same H H' → H' t = some (.tup [.str f.word, f.val]) → Q (.ref t) H'
/-- what is said of a deed -/
def SaidV (H : Hp) (v : V) : Option Rf → Prop
  | none => ∃ t, v = .ref t ∧ H t = some (.tup [.str "told", .non])
  | some f => ∃ t t2, v = .ref t ∧ H t = some (.tup [.str "refused", .ref t2]) ∧ H t2 = some (.tup [.str f.word, f.val])
theorem SaidV.keep {ms : List Addr} {H H' : Hp} {v : V} {o : Option Rf} (h : SaidV H v o) (k : Keep ms H H') : SaidV H' v o := by
  cases o with
  | none =>
    obtain ⟨t, e, q⟩ := h
    exact ⟨t, e, k.tup _ _ q⟩
  | some f =>
    obtain ⟨t, t2, e, q, q2⟩ := h
    exact ⟨t, t2, e, k.tup _ _ q, k.tup _ _ q2⟩
theorem SaidV.dp {K : PySem.W.Frag} {H : Hp} {v : V} {o : Option Rf} (h : SaidV H v o) : Dp K H v (saidD o) := by
  cases o with
  | none =>
    obtain ⟨t, rfl, q⟩ := h
    exact .tup (SqT.of q) (.cons (.str _) (.cons .non .nil))
  | some f =>
    obtain ⟨t, t2, rfl, q, q2⟩ := h
    exact .tup (SqT.of q) (.cons (.str _) (.cons (.tup (SqT.of q2) (.cons (.str _) (.cons f.dp .nil))) .nil))
def spSayL (C : Nat → Addr) (L : Addr) : Sp := fun vs H Q _ => ∃ (A : LA) (S : LS) (v : V) (D : Deed), vs = [.ref A.p, v] ∧ LayAt L H A S ∧ S.Ok ∧ DeedAt H v D ∧ D.Good ∧
  ∀ (u : V) (H' : Hp), SaidV H' u (S.due D) → LayAt L H' A (if S.due D = none then S.put D else S) → Keep A.ms H H' → Q u H'
/-- the layout and the law's book of it: one state -/
structure Both (L : Addr) (H : Hp) (A : LA) (B : MA) (S : LS) : Prop where
  lay : LayAt L H A S
  md : MdAt H B S
  ok : S.Ok
  apart : ∀ b ∈ A.ms, b ∉ B.ms
def LS.step (S : LS) (D : Deed) : LS := if S.due D = none then S.put D else S
theorem LS.Ok.step {S : LS} (o : S.Ok) {D : Deed} (g : D.Good) : (S.step D).Ok := by
  unfold LS.step
  split
  · rename_i h
    exact o.put g h
  · exact o
def spStepL (L : Addr) : Sp := fun vs H Q _ => ∃ (A : LA) (B : MA) (S : LS) (v : V) (D : Deed), vs = [.ref A.p, .ref B.m, v] ∧ Both L H A B S ∧ DeedAt H v D ∧ D.Good ∧
  ∀ (H' : Hp), Both L H' A B (S.step D) → Keep (A.ms ++ B.ms) H H' → Q (.bl true) H'
/-- asked whether all is alike -/
def spAskL (L : Addr) : Sp := fun vs H Q _ => ∃ (A : LA) (B : MA) (S : LS), vs = [.ref A.p, .ref B.m] ∧ Both L H A B S ∧ ∀ (H' : Hp), Same H H' → Q (.bl true) H'
def spSameL (L : Addr) : Sp := fun vs H Q _ => ∃ (A : LA) (B : MA) (S : LS) (n : Int), vs = [.ref A.p, .ref B.m, .int n] ∧ 0 ≤ n ∧ Both L H A B S ∧ ∀ (H' : Hp), Same H H' → Q (.bl true) H'
theorem Both.keep {L : Addr} {H H' : Hp} {A : LA} {B : MA} {S : LS} {ms : List Addr} (h : Both L H A B S) (k : Keep ms H H') (n : ∀ b ∈ ms, b ∉ A.ms ∧ b ∉ B.ms) : Both L H' A B S :=
  ⟨h.lay.keep k fun b hb => (n b hb).1, h.md.keep k fun b hb => (n b hb).2, h.ok, h.apart⟩
theorem Both.same {L : Addr} {H H' : Hp} {A : LA} {B : MA} {S : LS} (h : Both L H A B S) (s : Same H H') : Both L H' A B S := ⟨h.lay.same s, h.md.same s, h.ok, h.apart⟩
end SM
namespace SM
open PySem PySem.Spec PyProof.Rows L2
theorem mtop_merge (m l d a b : Addr) : mergeK [] (mtop ⟨m, l, d, false⟩ a b) = mtop ⟨m, l, d, false⟩ a b := by
  rw [mtop_f (A := ⟨m, l, d, false⟩) (fun z => Bool.noConfusion z)]
  have n0 : valV ([] : List (Key × V)) (Sum.inr "rooms") = none := rfl
  have n1 : valV ([(Sum.inr "rooms", .ref a)] : List (Key × V)) (Sum.inr "lines") = none := by rw [valV_neg kq1]; rfl
  have n2 : valV ([(Sum.inr "rooms", .ref a), (Sum.inr "lines", .ref l)] : List (Key × V)) (Sum.inr "drains") = none := by rw [valV_neg kq2, valV_neg kq4]; rfl
  have n3 : valV ([(Sum.inr "rooms", .ref a), (Sum.inr "lines", .ref l), (Sum.inr "drains", .ref d)] : List (Key × V)) (Sum.inr "sources") = none := by rw [valV_neg kq3, valV_neg kq5, valV_neg kq6]; rfl
  show putK (putK (putK (putK ([] : List (Key × V)) (Sum.inr "rooms") (.ref a)) (Sum.inr "lines") (.ref l)) (Sum.inr "drains") (.ref d)) (Sum.inr "sources") (.ref b) = _
  rw [putK_new _ n0]
  show putK (putK (putK ([(Sum.inr "rooms", .ref a)] : List (Key × V)) (Sum.inr "lines") (.ref l)) (Sum.inr "drains") (.ref d)) (Sum.inr "sources") (.ref b) = _
  rw [putK_new _ n1]
  show putK (putK ([(Sum.inr "rooms", .ref a), (Sum.inr "lines", .ref l)] : List (Key × V)) (Sum.inr "drains") (.ref d)) (Sum.inr "sources") (.ref b) = _
  rw [putK_new _ n2]
  show putK ([(Sum.inr "rooms", .ref a), (Sum.inr "lines", .ref l), (Sum.inr "drains", .ref d)] : List (Key × V)) (Sum.inr "sources") (.ref b) = _
  rw [putK_new _ n3]
  rfl
section
variable {X : Cx} {K : PySem.W.Frag} {CX : CXT} {k : Nat} {ps : List Str} {sp : Sp} {E : XK} {x : Str} {p pos : Pos}
theorem sl_listK (h : X.K = K) : SlR X (rSlL K) := by
  subst h
  exact sl_list
theorem sl_tupK (h : X.K = K) : SlR X (rSlT K) := by
  subst h
  exact sl_tup
theorem pe_f0 (F : OkF X.prog X.w X.K X.mg X.base CX k x ps sp) (hr : Room k X.A) (hx : Passes CX X E) (hg : Gl X x := by rfl) (hdb : (x == ("__debug__" : Str)) = false := by decide) : PE X (.Call (.Name x p) [] [] pos) (tCall sp [] E tNil) := by
  obtain ⟨f, fd, a, b, c, d⟩ := F
  exact pe_call0 d hr hg a b c .nil hx hdb
end
theorem cutV_flat {xs : List V} (h : xs.all flatV = true) (lo hi : Option Int) : (cutV xs lo hi).all flatV = true := by
  refine List.all_eq_true.mpr fun x hx => ?_
  unfold cutV at hx
  exact List.all_eq_true.mp h x (List.mem_of_mem_drop (List.mem_of_mem_take hx))
theorem cutV_zero (xs : List V) : cutV xs none (some (((0 : Nat) : Int))) = [] := by
  unfold cutV
  rw [HT.sIx_none, HT.sIx_nat]
  simp
theorem names_sm {ys : List Str} (h : ∀ y ∈ ys, okName y = true) : Sm 1 (ys.length * 17) (.list (ys.map PyData.str)) := by
  have a := Sm.lst (SmAll.map (k := 0) (w := 16) PyData.str fun x hx => sm_str (okName_small (h x hx)))
  rw [List.length_map] at a
  exact a
theorem names_fine {ys : List Str} (h : ∀ y ∈ ys, okName y = true) (l : ys.length ≤ 64) : Fine (.list (ys.map PyData.str)) := (names_sm h).fine (by decide) (by omega)
theorem names_dp {K : PySem.W.Frag} {H : Hp} {a : Addr} {ys : List Str} (h : H a = some (.lst (ys.map V.str))) : Dp K H (.ref a) (.list (ys.map PyData.str)) := .lst (SqL.of h) (dps_strs ys)
theorem eqv_nil {ys : List Str} : PyData.eqv (.list (ys.map PyData.str)) (.list []) = decide (ys = []) := by
  cases ys with
  | nil => simp [PyData.eqv, PyData.eqvAll]
  | cons y r => simp [PyData.eqv, PyData.eqvAll]
theorem fine_nil : Fine (.list []) := names_fine (ys := []) (fun y h => by cases h) (by decide)
def wordsL : List Str := ["open", "shut", "by", "step", "none", "paper", "at", "done", "a", "aa", "ab", "b"]
theorem wordsL_ok : ∀ z ∈ wordsL, okName z = true := by
  have h : wordsL.all okName = true := by decide +kernel
  exact fun z hz => List.all_eq_true.mp h z hz
def lettersL : Str := "abcdefghijklmnopqrstuvwxyz"
theorem lettersL_ok : ∀ c ∈ lettersL.cps.toList, okSign c = true := by
  have h : lettersL.cps.toList.all okSign = true := by decide +kernel
  exact fun z hz => List.all_eq_true.mp h z hz
theorem lettersL_len : lettersL.cps.toList.length = 26 := by decide +kernel
end SM
namespace SM
open PySem PySem.Spec PyProof.Rows L2
/-- a list that is being made is written on -/
theorem Keep.over {ms : List Addr} {H H1 : Hp} {D : Addr} {o : HO} (k : Keep ms H H1) (hD : H D = none) : Keep ms H (upd H1 D o) := by
  refine ⟨fun b v e n => ?_, fun b xs e => ?_, fun b C dx fs e => ?_, fun b xs e f => ?_, fun b e => ?_⟩
  · rw [upd_ne (ne_of_none e hD)]
    exact k.out b v e n
  · rw [upd_ne (ne_of_none e hD)]
    exact k.tup b xs e
  · rw [upd_ne (ne_of_none e hD)]
    exact k.ins b C dx fs e
  · rw [upd_ne (ne_of_none e hD)]
    exact k.flat b xs e f
  · by_cases z : b = D
    · rw [z]
      exact hD
    · rw [upd_ne z] at e
      exact k.has b e
end SM
namespace SM
open PySem PySem.Spec PyProof.Rows L2
theorem NamesAt.pick {H : Hp} {a : Addr} {ys : List Str} (h : NamesAt H a ys) {v : Int} (v0 : 0 ≤ v) (v1 : v < ((ys.map V.str).length : Nat)) : ∃ z, okName z = true ∧ atI (ys.map V.str) v = some (.str z) := by
  obtain ⟨y, hy, e⟩ := atI_some (xs := ys.map V.str) v0 v1
  obtain ⟨z, hz, rfl⟩ := List.mem_map.mp hy
  exact ⟨z, h.2.2.2 z hz, e⟩
theorem NamesAt.pos {H : Hp} {a : Addr} {ys : List Str} (h : NamesAt H a ys) : (0 : Int) < ((ys.map V.str).length : Nat) := by
  rw [List.length_map]
  have := h.2.1
  omega
theorem NamesAt.lt {H : Hp} {a : Addr} {ys : List Str} (h : NamesAt H a ys) : (((ys.map V.str).length : Nat) : Int) < 1073741824 := by
  rw [List.length_map]
  have := h.2.2.1
  omega
end SM
namespace SM
open PySem PySem.Spec PyProof.Rows L2
/-- x not in y, y a list, a tuple or a dict -/
def rNotInAny (K : PySem.W.Frag) : R2 := fun x y H Q => rIn K true x y H Q ∨ ∃ a o, y = .ref a ∧ DGet H a x o ∧ Q (.bl (!o.isSome)) H
theorem op_notInAny {X : Cx} (hu : X.A.units + 1 < cLine) : OpR X (compareOp .NotIn) (rNotInAny X.K) := by
  intro pins s σ H x y v u Q I rx ry h
  rcases h with h | ⟨a, o, rfl, g, q⟩
  · exact op_notIn_seq pins s σ H x y v u Q I rx ry h
  · obtain rfl : u = Value.ref a := ry
    exact d_notIn hu I g rx fun s' I' => ⟨.bl (!o.isSome), H, I', rfl, q⟩
theorem sortedS_pw {l : List Str} (h : l.Pairwise leS) : sortedS l = true := sortedS_of_pairwise l h
theorem sorted_filter {ys xs : List Str} (p : ys.Perm xs) (s : sortedS ys = true) (f : Str → Bool) : (ys.filter f).Perm (xs.filter f) ∧ sortedS (ys.filter f) = true :=
  ⟨p.filter f, sortedS_pw (List.Pairwise.filter f (sorted_pw s))⟩
theorem inV_perm {ys xs : List Str} (p : ys.Perm xs) (z : Str) : inV (.str z) (ys.map V.str) = decide (z ∈ xs) := by
  rw [inV_strs]
  exact decide_eq_decide.mpr p.mem_iff
/-- a deed that takes away: its word, its name -/
inductive TakeD : Str → Str → Deed → Prop
  | room (z : Str) : TakeD "take_room" z (.takeRoom z)
  | line (z : Str) : TakeD "take_line" z (.takeLine z)
  | drain (z : Str) : TakeD "take_drain" z (.takeDrain z)
  | source (z : Str) : TakeD "take_source" z (.takeSource z)
def spDueTakeL : Sp := fun vs H Q _ => ∃ (A : MA) (S : LS) (x z : Str) (D : Deed), vs = [.ref A.m, .str x, .str z] ∧ MdAt H A S ∧ S.Ok ∧ TakeD x z D ∧ ∀ (u : V) (H' : Hp), DueV H' u (S.due D) → Same H H' → Q u H'
def kindsL : List (Key × V) := [(Sum.inr "take_room", .str "rooms"), (Sum.inr "take_line", .str "lines"), (Sum.inr "take_drain", .str "drains"), (Sum.inr "take_source", .str "sources")]
theorem kinds_room : valV (mergeK [] kindsL) (Sum.inr "take_room") = some (.str "rooms") := by decide +kernel
theorem kinds_line : valV (mergeK [] kindsL) (Sum.inr "take_line") = some (.str "lines") := by decide +kernel
theorem kinds_drain : valV (mergeK [] kindsL) (Sum.inr "take_drain") = some (.str "drains") := by decide +kernel
theorem kinds_source : valV (mergeK [] kindsL) (Sum.inr "take_source") = some (.str "sources") := by decide +kernel
theorem MdAt.low {H : Hp} {A : MA} {S : LS} (h : MdAt H A S) {p : Addr} {o : HO} (hp : H p = none) : MdAt (upd H p o) A S := h.same (Same.newp hp)
/-- the law's own list of the lines at a room -/
theorem at_keys {S : LS} {z : Str} {i : Nat} {q : Str × LineV} (e : S.lines[i]? = some q) : keys ((S.lines.take (i + 1)).filter fun e => decide (z = e.2.1) || decide (z = e.2.2.1)) =
    keys ((S.lines.take i).filter fun e => decide (z = e.2.1) || decide (z = e.2.2.1)) ++ (if (decide (z = q.2.1) || decide (z = q.2.2.1)) = true then [q.1] else []) := by
  have tk : S.lines.take (i + 1) = S.lines.take i ++ [q] := by
    rw [List.take_add_one, e]
    rfl
  rw [tk, List.filter_append, List.filter_cons, List.filter_nil]
  split <;> simp [keys]
theorem at_len {S : LS} (o : S.Ok) (z : Str) (i : Nat) : (keys ((S.lines.take i).filter fun e => decide (z = e.2.1) || decide (z = e.2.2.1))).length ≤ 40 := by
  have hl := o.lL
  have h2 := List.length_filter_le (fun e : Str × LineV => decide (z = e.2.1) || decide (z = e.2.2.1)) (S.lines.take i)
  rw [List.length_take] at h2
  rw [keys, List.length_map]
  omega
end SM
namespace SM
open PySem PySem.Spec PyProof.Rows L2
theorem cut2 (x y z : V) : cutV [x, y, z] none (some 2) = [x, y] := by
  unfold cutV
  rw [HT.sIx_none, show (2 : Int) = ((2 : Nat) : Int) from rfl, HT.sIx_nat]
  rfl
theorem part2 (x y z : V) : ¬ (HT.sIx [x, y, z].length 0 none = 0 ∧ HT.sIx [x, y, z].length [x, y, z].length (some 2) = [x, y, z].length) := by
  rintro ⟨_, e⟩
  rw [show (2 : Int) = ((2 : Nat) : Int) from rfl, HT.sIx_nat] at e
  have e' : min 2 3 = 3 := e
  exact absurd e' (by decide)
theorem inV2 (z a b : Str) : inV (.str z) [V.str a, V.str b] = (decide (z = a) || decide (z = b)) := by
  have e := inV_strs z [a, b]
  rw [show ([a, b].map V.str) = [V.str a, V.str b] from rfl] at e
  rw [e]
  simp
end SM
namespace SM
open PySem PySem.Spec PyProof.Rows L2
theorem valV_at {α : Type} {G : V → α → Prop} : ∀ {kvs : List (Key × V)} {tab : List (Str × α)}, Kr G kvs tab → (keys tab).Nodup → ∀ {i : Nat} {k : Key} {v : V}, kvs[i]? = some (k, v) → valV kvs k = some v
  | _, _, .nil, _, i, k, v, e => by simp at e
  | a :: as, b :: bs, .cons h t, n, 0, k, v, e => by
    have e' : a = (k, v) := by simpa using e
    subst e'
    exact valV_pos rfl
  | a :: as, b :: bs, .cons h t, n, i + 1, k, v, e => by
    have e' : as[i]? = some (k, v) := by simpa using e
    have n' : b.1 ∉ keys bs ∧ (keys bs).Nodup := List.nodup_cons.mp n
    obtain ⟨q, e1, e2, _⟩ := Kr.at t e'
    have mq : q.1 ∈ keys bs := List.mem_map_of_mem (List.mem_of_getElem? e1)
    have ne : ¬ a.1 = k := fun z => by
      have e2' : k = Sum.inr q.1 := e2
      rw [h.1, e2'] at z
      exact n'.1 (by rw [Sum.inr.inj z]; exact mq)
    rw [valV_neg ne]
    exact valV_at t n'.2 e'
theorem at_sub {S : LS} {z y : Str} (h : y ∈ S.at z) : y ∈ keys S.lines := by
  obtain ⟨e, he, rfl⟩ := List.mem_map.mp h
  exact List.mem_map_of_mem (List.mem_filter.mp he).1
end SM
namespace SM
open PySem PySem.Spec PyProof.Rows L2
section
variable {H : Hp} {A : MA} {S : LS}
theorem SortAt.dput {a d : Addr} {xs : List Str} {kvs kvs' : List (Key × V)} (h : SortAt H a xs) (hd : H d = some (.dK kvs)) : SortAt (upd H d (.dK kvs')) a xs := h.keep (ms := [d]) (Keep.dput hd (by simp))
theorem MdAt.setT (h : MdAt H A S) {a b : Addr} {rs ss : List Str} (ha : SortAt H a rs) (hb : SortAt H b ss) : MdAt (upd H A.m (.dK (mtop A a b))) A { S with rooms := rs, sources := ss } := by
  have n := h.ne
  obtain ⟨⟨a0, b0, e1, e2, e3⟩, ⟨k2, l1, l2⟩, ⟨k3, d1, d2⟩, nd⟩ := h
  exact ⟨⟨a, b, upd_same, ha.dput e1, hb.dput e1⟩, ⟨k2, (upd_ne n.1.symm).trans l1, l2.mono fun v a g => g.put e1⟩, ⟨k3, (upd_ne n.2.1.symm).trans d1, d2⟩, nd⟩
theorem MdAt.setL (h : MdAt H A S) {kvs : List (Key × V)} {xs : List (Str × LineV)} (k : Kr (LineG H) kvs xs) : MdAt (upd H A.l (.dK kvs)) A { S with lines := xs } := by
  have n := h.ne
  obtain ⟨⟨a0, b0, e1, e2, e3⟩, ⟨k2, l1, l2⟩, ⟨k3, d1, d2⟩, nd⟩ := h
  exact ⟨⟨a0, b0, (upd_ne n.1).trans e1, e2.dput l1, e3.dput l1⟩, ⟨kvs, upd_same, k.mono fun v a g => g.put l1⟩, ⟨k3, (upd_ne n.2.2.symm).trans d1, d2⟩, nd⟩
theorem MdAt.setD (h : MdAt H A S) {kvs : List (Key × V)} {xs : List (Str × Str)} (k : Kr StrG kvs xs) : MdAt (upd H A.d (.dK kvs)) A { S with drains := xs } := by
  have n := h.ne
  obtain ⟨⟨a0, b0, e1, e2, e3⟩, ⟨k2, l1, l2⟩, ⟨k3, d1, d2⟩, nd⟩ := h
  exact ⟨⟨a0, b0, (upd_ne n.2.1).trans e1, e2.dput d1, e3.dput d1⟩, ⟨k2, (upd_ne n.2.2).trans l1, l2.mono fun v a g => g.put d1⟩, ⟨kvs, upd_same, k⟩, nd⟩
end
theorem cmp_str {x y : Str} (h : (x == y) = false) : decide (V.str x = V.str y) = false := decide_eq_false fun z => by
  injection z with z
  rw [z] at h
  simp at h
end SM
namespace SM
open PySem PySem.Spec PyProof.Rows L2
theorem look_some {α : Type} {tab : List (Str × α)} {k : Str} (h : k ∈ keys tab) : ∃ a, look tab k = some a := by
  cases e : look tab k with
  | none => exact absurd h (look_none.mp e)
  | some a => exact ⟨a, rfl⟩
theorem Rf.cls_lt : ∀ f : Rf, f.cls < 5
  | .there _ => by show 1 < 5; decide
  | .lacks _ => by show 2 < 5; decide
  | .tooMany _ => by show 3 < 5; decide
  | .inUse _ => by show 4 < 5; decide
end SM
namespace SM
open PySem PySem.Spec PyProof.Rows L2
section
variable {X : Cx} {CX : CXT} {k : Nat} {L : Addr} {ps : List Str} {sp : Sp} {E : XK} {x : Str} {p pos : Pos}
theorem pe_mk0 (mk : PySem.W.makesIn X.K L = true) (kp : PySem.W.keepIn X.K (.ref L) = true) (F : OkM X.prog X.w X.K X.mg X.base CX k L "__init__" ps sp) (hr : Room (k + 1) X.A) (hm : X.mg x = some (.ref L)) (hx : Passes CX X E) (hg : Gl X x := by rfl)
    (hdb : (x == ("__debug__" : Str)) = false := by decide) : PE X (.Call (.Name x p) [] [] pos) (tMake L sp [] E tNil) := by
  obtain ⟨f, fd, a, b, d⟩ := F
  exact pe_make0 ⟨mk, a.at_, a.fn, kp⟩ d hr hg hm b .nil hx hdb
end
/-- a dict is locked -/
theorem Keep.lock {ms : List Addr} {H : Hp} {d : Addr} {kvs : List (Key × V)} {u : HO} (h : H d = some (.dK kvs)) (m : d ∈ ms) : Keep ms H (upd H d u) :=
  Keep.at h m (fun _ z => by cases z) (fun _ _ _ z => by cases z) fun _ z => by cases z
/-- .. and let go -/
theorem same_unlock {H H1 : Hp} {d : Addr} {kvs : List (Key × V)} {od : Obj} (h : H d = some (.dK kvs)) (e : Same (upd H d (.frz od (.dK kvs))) H1) : Same H (upd H1 d (.dK kvs)) := fun b u eb => by
  by_cases hb : b = d
  · subst hb
    rw [upd_same, ← h]
    exact eb
  · rw [upd_ne hb]
    exact e b u ((upd_ne hb).trans eb)
theorem line_fine {S : LS} (o : S.Ok) {e : Str × LineV} (he : e ∈ S.lines) : Fine (.tuple [.str e.2.1, .str e.2.2.1, .int e.2.2.2]) := by
  obtain ⟨a, b, _, c⟩ := o.lI e he
  simp only [okCost, Bool.and_eq_true, decide_eq_true_eq] at c
  exact (Sm.tup (.cons (sm_str (okName_small (o.rG _ a))) (.cons (sm_str (okName_small (o.rG _ b))) (.cons (sm_int c.1 c.2) .nil)))).fine (by decide) (show 3 * (16 + 1) ≤ 100000 by decide)
theorem LineG.dp {K : PySem.W.Frag} {H : Hp} {v : V} {e : LineV} (g : LineG H v e) : Dp K H v (.tuple [.str e.1, .str e.2.1, .int e.2.2]) := by
  obtain ⟨t, rfl, h⟩ := g
  exact .tup (SqT.of h) (.cons (.str _) (.cons (.str _) (.cons (.int _) .nil)))
theorem look_mem {α : Type} {tab : List (Str × α)} {k : Str} {a : α} (h : look tab k = some a) : (k, a) ∈ tab := by
  unfold look at h
  cases e : tab.find? fun e => decide (e.1 = k) with
  | none => rw [e] at h; cases h
  | some q =>
    rw [e] at h
    have h1 := List.mem_of_find?_eq_some e
    have h2 : q.1 = k := by simpa using List.find?_some e
    have h3 : q.2 = a := Option.some.inj h
    obtain ⟨x, y⟩ := q
    subst h2
    subst h3
    exact h1
theorem look_at {α : Type} {tab : List (Str × α)} (n : (keys tab).Nodup) {i : Nat} {q : Str × α} (h : tab[i]? = some q) : look tab q.1 = some q.2 := by
  induction tab generalizing i with
  | nil => simp at h
  | cons b bs ih =>
    have n' : b.1 ∉ keys bs ∧ (keys bs).Nodup := List.nodup_cons.mp n
    cases i with
    | zero =>
      have e : b = q := by simpa using h
      subst e
      exact look_pos rfl
    | succ i =>
      have e : bs[i]? = some q := by simpa using h
      have mq : q.1 ∈ keys bs := List.mem_map_of_mem (List.mem_of_getElem? e)
      rw [look_neg (fun z => n'.1 (by rw [z]; exact mq))]
      exact ih n'.2 e
theorem str_fine {z : Str} (h : okName z = true) : Fine (.str z) := (sm_str (okName_small h)).fine (by decide) (by decide)
theorem sort_dp {K : PySem.W.Frag} {H : Hp} {a b : Addr} {ys zs xs : List Str} (p1 : ys.Perm xs) (s1 : sortedS ys = true) (h1 : H a = some (.lst (ys.map V.str))) (p2 : zs.Perm xs) (s2 : sortedS zs = true) (h2 : H b = some (.lst (zs.map V.str))) :
    Dp K H (.ref a) (.list (ys.map PyData.str)) ∧ Dp K H (.ref b) (.list (ys.map PyData.str)) := by
  have e := sorted_one p2 p1 s2 s1
  subst e
  exact ⟨names_dp h1, names_dp h2⟩
theorem sort_fine {ys xs : List Str} (p : ys.Perm xs) (g : ∀ x ∈ xs, okName x = true) (l : xs.length ≤ 64) : Fine (.list (ys.map PyData.str)) :=
  names_fine (fun y hy => g y (p.mem_iff.mp hy)) (by rw [p.length_eq]; exact l)
def spLawL (K : PySem.W.Frag) : Sp := fun vs H Q _ => ∃ (a : Addr) (ns : List Int), vs = [.ref a] ∧ SqL K H a (ns.map V.int) ∧ ns.length ≤ 63 ∧ ∀ H', Q (.bl true) H'
end SM
namespace SM
open PySem PySem.Spec PyProof.Rows L2
theorem LayAt.there {L : Addr} {H : Hp} {A : LA} {S : LS} (h : LayAt L H A S) : ∀ b ∈ A.ms, H b ≠ none := by
  obtain ⟨_, ⟨k1, r1, _⟩, ⟨k2, l1, _⟩, ⟨k3, d1, _⟩, ⟨k4, s1, _⟩, _⟩ := h
  intro b hb
  have hb' : b = A.r ∨ b = A.l ∨ b = A.d ∨ b = A.s := by simpa [LA.ms] using hb
  rcases hb' with rfl | rfl | rfl | rfl
  · rw [r1]; exact fun z => nomatch z
  · rw [l1]; exact fun z => nomatch z
  · rw [d1]; exact fun z => nomatch z
  · rw [s1]; exact fun z => nomatch z
/-- a new layout and a new book of it -/
theorem both_new {L : Addr} {H H1 : Hp} {A : LA} {B : MA} (hL : LayAt L H A LS.new) (hM : MdAt H1 B LS.new) (s : Same H H1) (f : ∀ b ∈ B.ms, H b = none) : Both L H1 A B LS.new :=
  ⟨hL.same s, hM, LS.new_ok, fun b hb w => hL.there b hb (f b w)⟩
end SM
namespace SM
open PySem PySem.Spec PyProof.Rows L2
def spOfL : Sp := fun vs H Q _ => ∃ (p q s o : Addr) (xs ys : List Str), vs = [.ref p, .ref s, .ref o] ∧ Bag H p q ∧ H s = some (.lst (xs.map V.str)) ∧ xs.length ≤ 64 ∧ (∀ x ∈ xs, okName x = true) ∧ NamesAt H o ys ∧
  ∀ (z : Str) (H' : Hp), okName z = true → (z ∈ xs ∨ z ∈ ys) → Bag H' p q → Keep [p] H H' → Q (.str z) H'
def spLikelyL : Sp := fun vs H Q _ => ∃ (p q a b : Addr) (B : MA) (S : LS) (rs ds : List Str), vs = [.ref p, .ref B.m, .ref a, .ref b] ∧ Bag H p q ∧ MdAt H B S ∧ S.Ok ∧ p ∉ B.ms ∧ NamesAt H a rs ∧ NamesAt H b ds ∧
  ∀ (D : Deed) (v : V) (H' : Hp), D.Good → DeedAt H' v D → Bag H' p q → Keep [p] H H' → Q v H'
end SM
/-! Part N: methods called in a try's body; questions that are refused. -/
namespace SM
open PySem PySem.Spec PyProof.Rows L2
def tMethT (L : Addr) (m : Str) (sp : Sp) (E : L2.St → XK) (ta : TE) (t : TA) : TE := fun σ H Q => ta σ H fun x H1 => ∃ a dx fs, x = .ref a ∧ H1 a = some (.ins L dx fs) ∧ fs.lookup m = none ∧ t σ H1 fun vs H2 => sp (x :: vs) H2 Q (E σ)
section
variable {X : Cx} {CX : CXT} {k : Nat} {L : Addr} {ps : List Str} {sp : Sp} {E : L2.St → XK} {m : Str} {o e : Expr} {es : List Expr} {ta : TE} {t : TA} {pos apos : Pos} {pl : Sem Bool}
/-- o.m(e, ..) in a try's body: what is raised is wished for at the slots as they stand -/
theorem pe_mS (F : OkM X.prog X.w X.K X.mg X.base CX k L m ps sp) (c : Cls X.K L) (hr : Room k X.A) (hx : ∀ σ, PassesAt CX X σ (E σ)) (he : PE X o ta) (ha : PA X (e :: es) t)
    (hst : starEach (e :: es) X.env = (false, eval e X.env) :: starEach es X.env := by rfl) (hpl : (backTo pos (starEach es X.env)).any (·.1) = false := by rfl)
    (ht : eval (.Call (.Attribute o m apos) (e :: es) [] pos) X.env = (do
      let ov ← eval o X.env
      standAt apos.atName
      let (f, first) ← holding [ov] (getMethod ov m pl)
      callWith pos f first (backTo pos (starEach (e :: es) X.env)) (backToKw pos (keywordEach [] X.env))) := by rfl) :
    PE X (.Call (.Attribute o m apos) (e :: es) [] pos) (tMethT L m sp E ta t) := by
  obtain ⟨f, fd, hm, hb, F⟩ := F
  refine ⟨fun pins s σ H Q I h => ?_⟩
  refine PySem.W.methodCall_KW (pl := pl) (thn (he.run pins s σ H _ I h) fun u s1 ⟨x, H1, I1, rx, a, dx, fs, ex, ea, l, q⟩ => ?_) ht
  subst ex
  obtain rfl : u = Value.ref a := rx
  refine getmeth_ok I1 ea c hm l ?_
  refine PySem.W.callWith_K (first := [.ref a]) (h₀ := X.base) I.ok.mod.kin hm.kp (thn (ha.run pos pins s1 σ H1 _ I1 q) fun us s2 ⟨vs, H2, I2, r, q2⟩ => ⟨I2.kIn, ?_⟩) hst hpl
  exact run_fnS (us := .ref a :: us) (vs := .ref a :: vs) F hr hb (hx σ) I2 (.cons rfl r) q2
theorem ps_imp {st : Stmt} {t t' : TS} (h : PS X st t) (i : ∀ D σ H, t' D σ H → t D σ H) : PS X st t' := PS.imp h i
end
/-- is the name there: a line's, a drain's, a room's -/
def LS.isThere (S : LS) : Nat → Str → Bool
  | 0, z => decide (z ∈ keys S.lines)
  | 1, z => decide (z ∈ keys S.drains)
  | _, z => decide (z ∈ S.rooms)
/-- what is told of it; H before, H' behind -/
def ToldV (S : LS) (n : Nat) (z : Str) (v : V) (H H' : Hp) : Prop :=
  (n = 0 ∧ ∃ e, look S.lines z = some e ∧ LineG H' v e) ∨ (n = 1 ∧ ∃ r, look S.drains z = some r ∧ v = .str r) ∨
  (n = 2 ∧ ∃ p ys, v = .ref p ∧ H p = none ∧ ys.Perm (S.at z) ∧ sortedS ys = true ∧ H' p = some (.lst (ys.map V.str)))
/-- the body of a try that asks -/
def tAskS (C : Nat → Addr) (L : Addr) (W : WX) : TS := fun D σ H => ∃ (La : LA) (S : LS) (n : Nat) (z : Str), σ = [some (.ref La.p), some (.int (n : Int)), some (.str z), some .non, none] ∧ n < 3 ∧ LayAt L H La S ∧ S.Ok ∧ okName z = true ∧
  (S.isThere n z = false → Ref C 2 (.str z) H (WE W σ)) ∧ (S.isThere n z = true → ∀ v H', Same H H' → ToldV S n z v H H' → D.nx [some (.ref La.p), some (.int (n : Int)), some (.str z), some v, none] H')
/-- _law_asked(here, way, name) -/
def spAskedL (L : Addr) : Sp := fun vs H Q _ => ∃ (La : LA) (S : LS) (n : Nat) (z : Str), vs = [.ref La.p, .int (n : Int), .str z] ∧ n < 3 ∧ LayAt L H La S ∧ S.Ok ∧ okName z = true ∧
  (S.isThere n z = false → ∀ H' t t2, Same H H' → H' t = some (.tup [.str "refused", .ref t2]) → H' t2 = some (.tup [.str "Lacks", .str z]) → Q (.ref t) H') ∧
  (S.isThere n z = true → ∀ H' t v, Same H H' → ToldV S n z v H H' → H' t = some (.tup [.str "told", v]) → Q (.ref t) H')
theorem ToldV.behind {S : LS} {n : Nat} {z : Str} {v : V} {H H1 H2 : Hp} (h : ToldV S n z v H H1) (s : Same H1 H2) : ToldV S n z v H H2 := by
  rcases h with ⟨h, e, a, t, b, c⟩ | h | ⟨h, p, ys, a, b, c, d, e⟩
  · exact .inl ⟨h, e, a, t, b, s _ _ c⟩
  · exact .inr (.inl h)
  · exact .inr (.inr ⟨h, p, ys, a, b, c, d, s _ _ e⟩)
end SM
namespace SM
open PySem PySem.Spec PyProof.Rows L2
/-- _law_answer(m, way, name) -/
def spAnswerL : Sp := fun vs H Q _ => ∃ (B : MA) (S : LS) (n : Nat) (z : Str), vs = [.ref B.m, .int (n : Int), .str z] ∧ n < 3 ∧ MdAt H B S ∧ S.Ok ∧ okName z = true ∧
  (S.isThere n z = false → ∀ H' t t2, Same H H' → H' t = some (.tup [.str "refused", .ref t2]) → H' t2 = some (.tup [.str "Lacks", .str z]) → Q (.ref t) H') ∧
  (S.isThere n z = true → ∀ H' t v, Same H H' → ToldV S n z v H H' → H' t = some (.tup [.str "told", v]) → Q (.ref t) H')
end SM
namespace SM
open PySem PySem.Spec PyProof.Rows L2
/-- _law_names, and no two alike -/
def spNamesN : Sp := fun vs H Q _ => ∃ (p q : Addr) (n : Int), vs = [.ref p, .int n] ∧ Bag H p q ∧ 1 ≤ n ∧ n ≤ 30 ∧ ∀ (a : Addr) (ys : List Str) (H' : Hp), NamesAt H' a ys → ys.Nodup → Bag H' p q → Keep [p] H H' → Q (.ref a) H'
theorem cut_nat (ys : List Str) (i : Nat) : cutV (ys.map V.str) none (some ((i : Nat) : Int)) = (ys.take i).map V.str := by
  unfold cutV
  rw [HT.sIx_none, HT.sIx_nat, List.drop_zero, Nat.sub_zero, List.length_map, List.map_take]
  by_cases h : i ≤ ys.length
  · rw [Nat.min_eq_left h]
  · rw [Nat.min_eq_right (by omega), List.take_of_length_le (by rw [List.length_map]; omega), List.take_of_length_le (by rw [List.length_map]; omega)]
/-- the first of each: so far -/
structure Firsts (zs ys : List Str) : Prop where
  nd : zs.Nodup
  mem : ∀ x, x ∈ zs ↔ x ∈ ys
theorem Firsts.nil : Firsts [] [] := ⟨List.nodup_nil, fun x => Iff.rfl⟩
theorem Firsts.more {zs ys : List Str} {y : Str} (h : Firsts zs ys) (n : y ∉ ys) : Firsts (zs ++ [y]) (ys ++ [y]) :=
  ⟨nd_snoc h.nd (fun w => n ((h.mem y).mp w)), fun x => by simp [h.mem x]⟩
theorem Firsts.same {zs ys : List Str} {y : Str} (h : Firsts zs ys) (n : y ∈ ys) : Firsts zs (ys ++ [y]) :=
  ⟨h.nd, fun x => by
    rw [h.mem x, List.mem_append, List.mem_singleton]
    exact ⟨.inl, fun w => w.elim id fun e => by rw [e]; exact n⟩⟩
theorem told_dp {K : PySem.W.Frag} {S : LS} {n : Nat} {z : Str} {v u : V} {H1 H2 H : Hp} (o : S.Ok) (h1 : ToldV S n z v H1 H) (h2 : ToldV S n z u H2 H) : ∃ d, Dp K H v d ∧ Dp K H u d ∧ Sm 1 2000 d := by
  rcases h1 with ⟨n1, e, a, g⟩ | ⟨n1, r, a, g⟩ | ⟨n1, p, ys, rfl, _, pm, st, hp⟩
  · rcases h2 with ⟨_, e2, a2, g2⟩ | ⟨n2, _⟩ | ⟨n2, _⟩
    · rw [a] at a2
      cases a2
      refine ⟨_, g.dp, g2.dp, ?_⟩
      have f := line_fine o (look_mem a)
      obtain ⟨x, y, _, c⟩ := o.lI _ (look_mem a)
      simp only [okCost, Bool.and_eq_true, decide_eq_true_eq] at c
      exact (Sm.tup (.cons (sm_str (okName_small (o.rG _ x))) (.cons (sm_str (okName_small (o.rG _ y))) (.cons (sm_int c.1 c.2) .nil)))).mono (by decide) (show 3 * (16 + 1) ≤ 2000 by decide)
    · omega
    · omega
  · rcases h2 with ⟨n2, _⟩ | ⟨_, r2, a2, g2⟩ | ⟨n2, _⟩
    · omega
    · rw [a] at a2
      cases a2
      subst g g2
      exact ⟨_, .str _, .str _, (sm_str (okName_small (o.rG _ (o.dI _ (look_mem a))))).mono (by decide) (by decide)⟩
    · omega
  · rcases h2 with ⟨n2, _⟩ | ⟨n2, _⟩ | ⟨_, p2, zs, rfl, _, pm2, st2, hp2⟩
    · omega
    · omega
    · have dd := sort_dp (K := K) pm st hp pm2 st2 hp2
      refine ⟨_, dd.1, dd.2, ?_⟩
      have len : (S.at z).length ≤ 40 := by
        have w := at_len o z S.lines.length
        rw [List.take_length] at w
        exact w
      exact (names_sm (fun y hy => o.lG y (at_sub (pm.mem_iff.mp hy)))).mono (by decide) (by rw [pm.length_eq]; omega)
theorem told_fine {d : PyData} (h : Sm 1 2000 d) : Fine (.tuple [.str "told", d]) :=
  (Sm.tup (.cons ((sm_str (z := "told") (by decide +kernel)).mono (k' := 1) (w' := 2000) (by decide) (by decide)) (.cons h .nil))).fine (by decide) (show 2 * (2000 + 1) ≤ 100000 by decide)
def spRightL (L : Addr) : Sp := fun vs H Q _ => ∃ (p q a : Addr) (La : LA) (B : MA) (S : LS) (ys : List Str), vs = [.ref p, .ref La.p, .ref B.m, .ref a] ∧ Bag H p q ∧ Both L H La B S ∧ p ∉ La.ms ∧ p ∉ B.ms ∧ H a = some (.lst (ys.map V.str)) ∧ ys.length ≤ 100 ∧ (∀ y ∈ ys, okName y = true) ∧
  ∀ H', Bag H' p q → Keep [p] H H' → Q (.bl true) H'
end SM
namespace SM
open PySem PySem.Spec PyProof.Rows L2
def spDrawnL : Sp := fun vs H Q _ => ∃ (p q a b : Addr) (rs ds : List Str) (hub : Str), vs = [.ref p, .ref a, .ref b, .str hub] ∧ Bag H p q ∧ NamesAt H a rs ∧ rs.Nodup ∧ hub ∈ rs ∧ 2 ≤ rs.length ∧ NamesAt H b ds ∧
  ∀ (D : Deed) (v : V) (H' : Hp), D.Good → DeedAt H' v D → Bag H' p q → Keep [p] H H' → Q v H'
theorem len_ne : ∀ {rs : List Str} {h : Str}, rs.Nodup → h ∈ rs → (rs.filter fun y => decide (y ≠ h)).length + 1 = rs.length
  | [], _, _, m => nomatch m
  | x :: r, h, n, m => by
    have n' := List.nodup_cons.mp n
    by_cases e : x = h
    · subst e
      rw [List.filter_cons, if_neg (by simp), List.length_cons]
      have all : r.filter (fun y => decide (y ≠ x)) = r := List.filter_eq_self.mpr fun y hy => decide_eq_true fun w => n'.1 (by rw [← w]; exact hy)
      rw [all]
    · have m' : h ∈ r := by
        rcases List.mem_cons.mp m with w | w
        · exact absurd w.symm e
        · exact w
      rw [List.filter_cons, if_pos (by simp [e]), List.length_cons, List.length_cons, len_ne n'.2 m']
theorem two_len {zs : List Str} {x y : Str} (hx : x ∈ zs) (hy : y ∈ zs) (n : x ≠ y) : 2 ≤ zs.length := by
  match zs, hx, hy with
  | [a], hx, hy => exact absurd ((List.mem_singleton.mp hx).trans (List.mem_singleton.mp hy).symm) n
  | a :: b :: r, _, _ => simp
def twoL : List Str := ["zzzzzzzz", "yyyyyyyy"]
def roomsL (rs : List Str) : List Str := (rs ++ twoL).take 8
theorem rooms_two {rs zs : List Str} (n : rs.Nodup) (f : Firsts zs (roomsL rs)) : 2 ≤ zs.length := by
  by_cases h : rs.length ≤ 6
  · have e : roomsL rs = rs ++ twoL := List.take_of_length_le (by rw [List.length_append]; show rs.length + 2 ≤ 8; omega)
    rw [e] at f
    exact two_len ((f.mem "zzzzzzzz").mpr (List.mem_append_right _ (by simp [twoL]))) ((f.mem "yyyyyyyy").mpr (List.mem_append_right _ (by simp [twoL]))) (by decide +kernel)
  · match rs, h, n, f with
    | [], h, _, _ => exact absurd (Nat.zero_le _) h
    | [a], h, _, _ => exact absurd (by simp) h
    | a :: b :: r, _, n, f =>
      have nab : a ≠ b := fun w => (List.nodup_cons.mp n).1 (by rw [w]; exact List.mem_cons_self)
      exact two_len ((f.mem a).mpr (by unfold roomsL; simp)) ((f.mem b).mpr (by unfold roomsL; simp)) nab
theorem rooms_ok {rs : List Str} (h : ∀ y ∈ rs, okName y = true) : ∀ y ∈ roomsL rs, okName y = true := fun y hy => by
  rcases List.mem_append.mp (List.mem_of_mem_take hy) with w | w
  · exact h y w
  · have g : twoL.all okName = true := by decide +kernel
    exact List.all_eq_true.mp g y w
theorem rooms_len (rs : List Str) : (roomsL rs).length ≤ 8 := by
  unfold roomsL
  rw [List.length_take]
  exact Nat.min_le_left _ _
end SM
/-! Part O: the book's sorted lists are no list that stood ahead. -/
namespace SM
open PySem PySem.Spec PyProof.Rows L2
theorem mtop_inj {A : MA} {a b c d : Addr} (h : mtop A a b = mtop A c d) : a = c ∧ b = d := by
  by_cases w : A.tw = true
  · rw [mtop_t w, mtop_t w] at h
    injection h with h1 h
    injection h with h4 _
    injection h1 with _ h1
    injection h4 with _ h4
    injection h1 with h1
    injection h4 with h4
    exact ⟨h1, h4⟩
  · rw [mtop_f w, mtop_f w] at h
    injection h with h1 h
    injection h with _ h
    injection h with _ h
    injection h with h4 _
    injection h1 with _ h1
    injection h4 with _ h4
    injection h1 with h1
    injection h4 with h4
    exact ⟨h1, h4⟩
/-- neither of the book's two lists stands at g -/
def NoTop (H : Hp) (A : MA) (g : Addr) : Prop := ∀ a b, H A.m = some (.dK (mtop A a b)) → a ≠ g ∧ b ≠ g
theorem NoTop.at {H : Hp} {A : MA} {g a b : Addr} (h : H A.m = some (.dK (mtop A a b))) (n : a ≠ g ∧ b ≠ g) : NoTop H A g := fun c d e => by
  rw [h] at e
  have e' : mtop A a b = mtop A c d := by
    injection e with e
    injection e
  obtain ⟨rfl, rfl⟩ := mtop_inj e'
  exact n
/-- what was not the book's is not, behind H' -/
def NoTops (A : MA) (H H' : Hp) : Prop := ∀ g, H g ≠ none → NoTop H A g → NoTop H' A g
theorem NoTops.keep {A : MA} {H H' : Hp} {a b : Addr} (h : H A.m = some (.dK (mtop A a b))) (h' : H' A.m = some (.dK (mtop A a b))) : NoTops A H H' := fun g _ n => NoTop.at h' (n a b h)
theorem NoTops.r {A : MA} {H H1 H' : Hp} {a b c : Addr} (h : H A.m = some (.dK (mtop A a b))) (h' : H' A.m = some (.dK (mtop A c b))) (s : Same H H1) (n : H1 c = none) : NoTops A H H' := fun g hg k =>
  NoTop.at h' ⟨fun z => hg (s.free (by rw [← z]; exact n)), (k a b h).2⟩
theorem NoTops.s {A : MA} {H H1 H' : Hp} {a b c : Addr} (h : H A.m = some (.dK (mtop A a b))) (h' : H' A.m = some (.dK (mtop A a c))) (s : Same H H1) (n : H1 c = none) : NoTops A H H' := fun g hg k =>
  NoTop.at h' ⟨(k a b h).1, fun z => hg (s.free (by rw [← z]; exact n))⟩
/-- where the book stands, a list of no book of it may be written on -/
theorem MdAt.write {H : Hp} {A : MA} {S : LS} {g : Addr} {xs ys : List V} (h : MdAt H A S) (hg : H g = some (.lst xs)) (n : NoTop H A g) : MdAt (upd H g (.lst ys)) A S := by
  obtain ⟨⟨a, b, e1, ⟨rs, rp, rt, ra⟩, ⟨ss, sp, st, sb⟩⟩, ⟨k2, l1, l2⟩, ⟨k3, d1, d2⟩, nd⟩ := h
  obtain ⟨n1, n2⟩ := n a b e1
  have off : ∀ {c kvs}, H c = some (.dK kvs) → upd H g (.lst ys) c = some (.dK kvs) := fun {c kvs} e => by
    rw [upd_ne (ne_of e hg (by intro z; cases z))]
    exact e
  refine ⟨⟨a, b, off e1, ⟨rs, rp, rt, by rw [upd_ne n1]; exact ra⟩, ⟨ss, sp, st, by rw [upd_ne n2]; exact sb⟩⟩, ⟨k2, off l1, l2.mono fun v e ⟨t, et, ht⟩ => ⟨t, et, ?_⟩⟩, ⟨k3, off d1, d2⟩, nd⟩
  rw [upd_ne (ne_of ht hg (by intro z; cases z))]
  exact ht
theorem LayAt.write {L : Addr} {H : Hp} {A : LA} {S : LS} {g : Addr} {xs ys : List V} (h : LayAt L H A S) (hg : H g = some (.lst xs)) : LayAt L (upd H g (.lst ys)) A S := by
  obtain ⟨⟨dx, ob⟩, ⟨k1, r1, r2⟩, ⟨k2, l1, l2⟩, ⟨k3, d1, d2⟩, ⟨k4, s1, s2⟩, nd⟩ := h
  have off : ∀ {c kvs}, H c = some (.dK kvs) → upd H g (.lst ys) c = some (.dK kvs) := fun {c kvs} e => by
    rw [upd_ne (ne_of e hg (by intro z; cases z))]
    exact e
  refine ⟨⟨dx, ?_⟩, ⟨k1, off r1, r2⟩, ⟨k2, off l1, l2.mono fun v e ⟨t, et, ht⟩ => ⟨t, et, ?_⟩⟩, ⟨k3, off d1, d2⟩, ⟨k4, off s1, s2⟩, nd⟩
  · rw [upd_ne (ne_of ob hg (by intro z; cases z))]
    exact ob
  · rw [upd_ne (ne_of ht hg (by intro z; cases z))]
    exact ht
theorem Both.write {L : Addr} {H : Hp} {A : LA} {B : MA} {S : LS} {g : Addr} {xs ys : List V} (h : Both L H A B S) (hg : H g = some (.lst xs)) (n : NoTop H B g) : Both L (upd H g (.lst ys)) A B S :=
  ⟨h.lay.write hg, h.md.write hg n, h.ok, h.apart⟩
def spDo2 : Sp := fun vs H Q _ => ∃ (A : MA) (S : LS) (v : V) (D : Deed), vs = [.ref A.m, v] ∧ MdAt H A S ∧ S.Ok ∧ DeedAt H v D ∧ S.due D = none ∧ ∀ (H' : Hp), MdAt H' A (S.put D) → Keep A.ms H H' → NoTops A H H' → Q .non H'
def spStep2 (L : Addr) : Sp := fun vs H Q _ => ∃ (A : LA) (B : MA) (S : LS) (v : V) (D : Deed), vs = [.ref A.p, .ref B.m, v] ∧ Both L H A B S ∧ DeedAt H v D ∧ D.Good ∧
  ∀ (H' : Hp), Both L H' A B (S.step D) → Keep (A.ms ++ B.ms) H H' → NoTops B H H' → Q (.bl true) H'
theorem NoTops.same {A : MA} {S : LS} {H H' : Hp} (h : MdAt H A S) (s : Same H H') : NoTops A H H' := by
  obtain ⟨⟨a, b, e1, _, _⟩, _⟩ := h
  exact NoTops.keep e1 (s _ _ e1)
theorem NoTops.trans {A : MA} {H H1 H2 : Hp} (x : NoTops A H H1) (y : NoTops A H1 H2) (s : ∀ g, H g ≠ none → H1 g ≠ none) : NoTops A H H2 := fun g hg n => y g (s g hg) (x g hg n)
theorem Keep.there {ms : List Addr} {H H1 : Hp} (k : Keep ms H H1) : ∀ g, H g ≠ none → H1 g ≠ none := fun g h z => h (k.has g z)
theorem NoTops.off {A : MA} {S : LS} {ms : List Addr} {H H' : Hp} (h : MdAt H A S) (k : Keep ms H H') (n : A.m ∉ ms) : NoTops A H H' := by
  obtain ⟨⟨a, b, e1, _, _⟩, _⟩ := h
  exact NoTops.keep e1 (k.out _ _ e1 n)
end SM
namespace SM
open PySem PySem.Spec PyProof.Rows L2
/-- a deed that takes a line, a drain or a source away -/
inductive TakeOk : Deed → Prop where
  | line {n : Str} (h : okName n = true) : TakeOk (.takeLine n)
  | drain {n : Str} (h : okName n = true) : TakeOk (.takeDrain n)
  | source {n : Str} (h : okName n = true) : TakeOk (.takeSource n)
theorem TakeOk.good {D : Deed} (h : TakeOk D) : D.Good := by
  cases h with
  | line h => exact h
  | drain h => exact h
  | source h => exact h
/-- a list of such deeds -/
def TakesAt (H : Hp) (ts : List Addr) : Prop := ∀ t ∈ ts, ∃ D, H t = some (.tup (Deed.vs D)) ∧ TakeOk D
theorem TakesAt.keep {ms : List Addr} {H H' : Hp} {ts : List Addr} (h : TakesAt H ts) (k : Keep ms H H') : TakesAt H' ts := fun t ht => by
  obtain ⟨D, a, b⟩ := h t ht
  exact ⟨D, k.tup _ _ a, b⟩
theorem TakesAt.list {H : Hp} {ts : List Addr} {d : Addr} {xs ys : List V} (h : TakesAt H ts) (hd : H d = some (.lst xs)) : TakesAt (upd H d (.lst ys)) ts := fun t ht => by
  obtain ⟨D, a, b⟩ := h t ht
  exact ⟨D, by rw [upd_ne (ne_of a hd (by intro z; cases z))]; exact a, b⟩
theorem TakesAt.app {H : Hp} {ts us : List Addr} (h : TakesAt H ts) (k : TakesAt H us) : TakesAt H (ts ++ us) := fun t ht => (List.mem_append.mp ht).elim (h t) (k t)
def spOnL : Sp := fun vs H Q _ => ∃ (B : MA) (S : LS) (z : Str), vs = [.ref B.m, .str z] ∧ MdAt H B S ∧ S.Ok ∧ okName z = true ∧
  ∀ (H' : Hp) (d : Addr) (ts : List Addr), Same H H' → H d = none → H' d = some (.lst (ts.map V.ref)) → TakesAt H' ts → ts.length ≤ 90 → Q (.ref d) H'
end SM
namespace SM
open PySem PySem.Spec PyProof.Rows L2
theorem LayAt.dks {L : Addr} {H : Hp} {A : LA} {S : LS} (h : LayAt L H A S) : ∀ b ∈ A.ms, ∃ kvs, H b = some (.dK kvs) := by
  obtain ⟨_, ⟨k1, r1, _⟩, ⟨k2, l1, _⟩, ⟨k3, d1, _⟩, ⟨k4, s1, _⟩, _⟩ := h
  intro b hb
  have hb' : b = A.r ∨ b = A.l ∨ b = A.d ∨ b = A.s := by simpa [LA.ms] using hb
  rcases hb' with rfl | rfl | rfl | rfl
  · exact ⟨_, r1⟩
  · exact ⟨_, l1⟩
  · exact ⟨_, d1⟩
  · exact ⟨_, s1⟩
theorem MdAt.dks {H : Hp} {A : MA} {S : LS} (h : MdAt H A S) : ∀ b ∈ A.ms, ∃ kvs, H b = some (.dK kvs) := by
  obtain ⟨⟨a, b0, e1, _, _⟩, ⟨k2, l1, _⟩, ⟨k3, d1, _⟩, _⟩ := h
  intro b hb
  have hb' : b = A.m ∨ b = A.l ∨ b = A.d := by simpa [MA.ms] using hb
  rcases hb' with rfl | rfl | rfl
  · exact ⟨_, e1⟩
  · exact ⟨_, l1⟩
  · exact ⟨_, d1⟩
/-- a list is none of the dicts -/
theorem Both.nolist {L : Addr} {H : Hp} {A : LA} {B : MA} {S : LS} (h : Both L H A B S) {d : Addr} {xs : List V} (e : H d = some (.lst xs)) : d ∉ A.ms ++ B.ms := fun w => by
  rcases List.mem_append.mp w with w | w
  · obtain ⟨k, q⟩ := h.lay.dks d w
    rw [e] at q
    cases q
  · obtain ⟨k, q⟩ := h.md.dks d w
    rw [e] at q
    cases q
/-- a list of references is not the bag's -/
theorem Bag.norefs {H : Hp} {p q d : Addr} {ts : List Addr} (B : Bag H p q) (e : H d = some (.lst (ts.map V.ref))) : d ≠ p := fun z => by
  obtain ⟨a, b, c, ns, B⟩ := B
  rw [z, B.top] at e
  have e' : ([.int a, .int b, .int c, .ref q] : List V) = ts.map V.ref := by
    injection e with e
    injection e
  cases ts with
  | nil => simp at e'
  | cons t r =>
    rw [List.map_cons] at e'
    injection e' with h _
    cases h
/-- a list of texts is not the bag's -/
theorem Bag.nostrs {H : Hp} {p q d : Addr} {ts : List Str} (B : Bag H p q) (e : H d = some (.lst (ts.map V.str))) : d ≠ p := fun z => by
  obtain ⟨a, b, c, ns, B⟩ := B
  rw [z, B.top] at e
  have e' : ([.int a, .int b, .int c, .ref q] : List V) = ts.map V.str := by
    injection e with e
    injection e
  cases ts with
  | nil => simp at e'
  | cons t r =>
    rw [List.map_cons] at e'
    injection e' with h _
    cases h
/-- written on at g, the bag stays -/
theorem Bag.write {H : Hp} {p q g : Addr} {gs : List Str} {o : HO} (B : Bag H p q) (e : H g = some (.lst (gs.map V.str))) (n : g ≠ q) : Bag (upd H g o) p q :=
  B.keep (upd_ne (B.nostrs e).symm) (upd_ne n.symm)
theorem cut_to (xs : List V) (j : Nat) (h : j ≤ xs.length) : cutV xs none (some ((j : Nat) : Int)) = xs.take j := by
  unfold cutV
  rw [HT.sIx_none, HT.sIx_nat, List.drop_zero, Nat.sub_zero, Nat.min_eq_left h]
theorem cut_from (xs : List V) (j : Nat) (h : j ≤ xs.length) : cutV xs (some ((j : Nat) : Int)) none = xs.drop j := by
  unfold cutV
  rw [HT.sIx_none, HT.sIx_nat, Nat.min_eq_left h, List.take_of_length_le (by rw [List.length_drop]; omega)]
def spEmptiedL (L : Addr) : Sp := fun vs H Q _ => ∃ (p q : Addr) (La : LA) (B : MA) (S : LS) (z : Str), vs = [.ref p, .ref La.p, .ref B.m, .str z] ∧ Bag H p q ∧ Both L H La B S ∧ p ∉ La.ms ∧ p ∉ B.ms ∧ okName z = true ∧
  ∀ (H' : Hp) (g : Addr) (gs : List Str) (S' : LS), Both L H' La B S' → Bag H' p q → Keep (p :: (La.ms ++ B.ms)) H H' → H g = none → H' g = some (.lst (gs.map V.str)) → gs.length ≤ 90 → (∀ y ∈ gs, okName y = true) → Q (.ref g) H'
end SM
namespace SM
open PySem PySem.Spec PyProof.Rows L2
def spAgainL (L : Addr) : Sp := fun vs H Q _ => ∃ (p q g rm : Addr) (La : LA) (B : MA) (S : LS) (gs rs : List Str), vs = [.ref p, .ref La.p, .ref B.m, .ref g, .ref rm] ∧ Bag H p q ∧ Both L H La B S ∧ p ∉ La.ms ∧ p ∉ B.ms ∧ H g = some (.lst (gs.map V.str)) ∧ gs.length ≤ 90 ∧ (∀ y ∈ gs, okName y = true) ∧ NamesAt H rm rs ∧
  ∀ (H' : Hp) (S' : LS), Both L H' La B S' → Bag H' p q → Keep (p :: (La.ms ++ B.ms)) H H' → Q (.bl true) H'
end SM
/-! Part P: lists of lists that are told. -/
namespace SM
open PySem PySem.Spec PyProof.Rows L2
/-- ys is xs, sorted -/
def Srt (ys xs : List Str) : Prop := ys.Perm xs ∧ sortedS ys = true
theorem Srt.one {ys zs xs : List Str} (a : Srt ys xs) (b : Srt zs xs) : ys = zs := sorted_one a.1 b.1 a.2 b.2
/-- at gs stand the lists xss -/
abbrev Lists (H : Hp) : List Addr → List (List Str) → Prop := Paired fun g xs => H g = some (.lst (xs.map V.str))
theorem Lists.keep {ms : List Addr} {H H' : Hp} (k : Keep ms H H') : ∀ {gs : List Addr} {xss : List (List Str)}, Lists H gs xss → Lists H' gs xss
  | _, _, .nil => .nil
  | _, _, .cons h t => .cons (k.flat _ _ h (flat_strs _)) (Lists.keep k t)
theorem Lists.same {H H' : Hp} (s : Same H H') {gs : List Addr} {xss : List (List Str)} (h : Lists H gs xss) : Lists H' gs xss := h.keep (Keep.of (ms := []) s)
theorem Lists.at {H : Hp} : ∀ {gs : List Addr} {xss : List (List Str)}, Lists H gs xss → ∀ {i : Nat} {g : Addr}, gs[i]? = some g → ∃ xs, xss[i]? = some xs ∧ H g = some (.lst (xs.map V.str))
  | _, _, .nil, i, g, e => by simp at e
  | _, _, .cons h t, 0, g, e => by
    have e' := Option.some.inj (e : some _ = some g)
    rw [← e']
    exact ⟨_, rfl, h⟩
  | _, _, .cons h t, i + 1, g, e => by
    obtain ⟨xs, a, b⟩ := Lists.at t (i := i) (by simpa using e)
    exact ⟨xs, by simpa using a, b⟩
theorem Lists.app {H : Hp} : ∀ {gs hs : List Addr} {xss yss : List (List Str)}, Lists H gs xss → Lists H hs yss → Lists H (gs ++ hs) (xss ++ yss)
  | _, _, _, _, .nil, k => k
  | _, _, _, _, .cons h t, k => .cons h (Lists.app t k)
abbrev rowD (xs : List Str) : PyData := .list (xs.map PyData.str)
theorem strs_dp {K : PySem.W.Frag} {H : Hp} : ∀ xs : List Str, DpAll K H (xs.map V.str) (xs.map PyData.str)
  | [] => .nil
  | _ :: xs => .cons (.str _) (strs_dp xs)
theorem row_dp {K : PySem.W.Frag} {H : Hp} {g : Addr} {xs : List Str} (h : H g = some (.lst (xs.map V.str))) : Dp K H (.ref g) (rowD xs) := .lst (SqL.of h) (strs_dp xs)
theorem Lists.dps {K : PySem.W.Frag} {H : Hp} : ∀ {gs : List Addr} {xss : List (List Str)}, Lists H gs xss → DpAll K H (gs.map V.ref) (xss.map rowD)
  | _, _, .nil => .nil
  | _, _, .cons h t => .cons (row_dp h) (Lists.dps t)
theorem Lists.dp {K : PySem.W.Frag} {H : Hp} {gs : List Addr} {xss : List (List Str)} (h : Lists H gs xss) {d : Addr} (e : H d = some (.lst (gs.map V.ref))) : Dp K H (.ref d) (.list (xss.map rowD)) := .lst (SqL.of e) h.dps
/-- names that may be laid -/
def GoodLs (xss : List (List Str)) : Prop := ∀ xs ∈ xss, xs.length ≤ 64 ∧ ∀ x ∈ xs, okName x = true
theorem strs_lay : ∀ {xs : List Str}, (∀ x ∈ xs, okName x = true) → PyData.canLayAll0 (xs.map PyData.str) = true
  | [], _ => rfl
  | x :: xs, h => by
    have a : smallS x = true := okName_small (h x List.mem_cons_self)
    simp only [smallS, Bool.and_eq_true] at a
    simp only [List.map_cons, PyData.canLayAll0, PyData.canLay0, a.1, Bool.true_and]
    exact strs_lay fun y hy => h y (List.mem_cons_of_mem _ hy)
theorem strs_depth : ∀ xs : List Str, PyData.depthAll (xs.map PyData.str) = 0
  | [] => by simp only [List.map_nil, PyData.depthAll]
  | x :: xs => by simp only [List.map_cons, PyData.depthAll, PyData.depth, strs_depth xs, Nat.max_self]
theorem rows_lay : ∀ {xss : List (List Str)}, GoodLs xss → PyData.canLayAll0 (xss.map rowD) = true
  | [], _ => rfl
  | xs :: xss, h => by
    have a := strs_lay (h xs List.mem_cons_self).2
    simp only [List.map_cons, PyData.canLayAll0, PyData.canLay0, a, Bool.true_and]
    exact rows_lay fun y hy => h y (List.mem_cons_of_mem _ hy)
theorem rows_depth : ∀ xss : List (List Str), PyData.depthAll (xss.map rowD) ≤ 1
  | [] => by simp only [List.map_nil, PyData.depthAll]; omega
  | xs :: xss => by
    have a := rows_depth xss
    simp only [List.map_cons, PyData.depthAll, PyData.depth, strs_depth xs]
    omega
theorem rows_shaped {xss : List (List Str)} (h : GoodLs xss) : SeqAt.shaped (.list (xss.map rowD)) = true := by
  show (PyData.canLay0 (.list (xss.map rowD)) && decide (PyData.depth (.list (xss.map rowD)) ≤ 64)) = true
  have a := rows_depth xss
  rw [show PyData.canLay0 (.list (xss.map rowD)) = true by simp only [PyData.canLay0, rows_lay h], Bool.true_and]
  refine decide_eq_true ?_
  simp only [PyData.depth]
  omega
theorem rows_self {xss : List (List Str)} (h : GoodLs xss) : PyData.eqv (.list (xss.map rowD)) (.list (xss.map rowD)) = true := eqv_self _ (by simp only [PyData.canLay0, rows_lay h])
/-- .. and lists of those -/
abbrev rowsD (xss : List (List Str)) : PyData := .list (xss.map rowD)
theorem all_lay : ∀ {ts : List (List (List Str))}, (∀ xss ∈ ts, GoodLs xss) → PyData.canLayAll0 (ts.map rowsD) = true
  | [], _ => rfl
  | xss :: ts, h => by
    have a := rows_lay (h xss List.mem_cons_self)
    simp only [List.map_cons, PyData.canLayAll0, PyData.canLay0, a, Bool.true_and]
    exact all_lay fun y hy => h y (List.mem_cons_of_mem _ hy)
theorem all_depth : ∀ ts : List (List (List Str)), PyData.depthAll (ts.map rowsD) ≤ 2
  | [] => by simp only [List.map_nil, PyData.depthAll]; omega
  | xss :: ts => by
    have a := all_depth ts
    have b := rows_depth xss
    simp only [List.map_cons, PyData.depthAll, PyData.depth]
    omega
theorem all_shaped {ts : List (List (List Str))} (h : ∀ xss ∈ ts, GoodLs xss) : SeqAt.shaped (.list (ts.map rowsD)) = true := by
  show (PyData.canLay0 (.list (ts.map rowsD)) && decide (PyData.depth (.list (ts.map rowsD)) ≤ 64)) = true
  have a := all_depth ts
  rw [show PyData.canLay0 (.list (ts.map rowsD)) = true by simp only [PyData.canLay0, all_lay h], Bool.true_and]
  refine decide_eq_true ?_
  simp only [PyData.depth]
  omega
theorem all_self {ts : List (List (List Str))} (h : ∀ xss ∈ ts, GoodLs xss) : PyData.eqv (.list (ts.map rowsD)) (.list (ts.map rowsD)) = true := eqv_self _ (by simp only [PyData.canLay0, all_lay h])
/-- what _law_told tells of S -/
def TellsOf (S : LS) (xss : List (List Str)) : Prop := ∃ rs ls ds ss yss, Srt rs S.rooms ∧ Srt ls (keys S.lines) ∧ Srt ds (keys S.drains) ∧ Srt ss S.sources ∧ Paired (fun ys r => Srt ys (S.at r)) yss rs ∧ xss = rs :: ls :: ds :: ss :: yss
theorem srts_one {S : LS} : ∀ {rs : List Str} {yss zss : List (List Str)}, Paired (fun ys r => Srt ys (S.at r)) yss rs → Paired (fun ys r => Srt ys (S.at r)) zss rs → yss = zss
  | _, _, _, .nil, .nil => rfl
  | _, _, _, .cons a s, .cons b t => by rw [Srt.one a b, srts_one s t]
theorem TellsOf.one {S : LS} {xss yss : List (List Str)} (a : TellsOf S xss) (b : TellsOf S yss) : xss = yss := by
  obtain ⟨r1, l1, d1, s1, y1, a1, a2, a3, a4, a5, rfl⟩ := a
  obtain ⟨r2, l2, d2, s2, y2, b1, b2, b3, b4, b5, rfl⟩ := b
  obtain rfl := a1.one b1
  rw [a2.one b2, a3.one b3, a4.one b4, srts_one a5 b5]
theorem Srt.good {ys xs : List Str} (a : Srt ys xs) (h : ∀ x ∈ xs, okName x = true) (l : xs.length ≤ 64) : ys.length ≤ 64 ∧ ∀ y ∈ ys, okName y = true :=
  ⟨by rw [a.1.length_eq]; exact l, fun y hy => h y (a.1.mem_iff.mp hy)⟩
theorem srts_good {S : LS} (o : S.Ok) : ∀ {rs : List Str} {yss : List (List Str)}, Paired (fun ys r => Srt ys (S.at r)) yss rs → GoodLs yss
  | _, _, .nil => fun _ h => nomatch h
  | r :: _, _, .cons a s => fun xs h => by
    rcases List.mem_cons.mp h with rfl | h
    · refine a.good (fun x hx => o.lG x (at_sub hx)) ?_
      have w := at_len o r S.lines.length
      rw [List.take_length] at w
      exact Nat.le_trans w (by decide)
    · exact srts_good o s xs h
theorem TellsOf.good {S : LS} {xss : List (List Str)} (o : S.Ok) (a : TellsOf S xss) : GoodLs xss := by
  obtain ⟨rs, ls, ds, ss, yss, a1, a2, a3, a4, a5, rfl⟩ := a
  have n1 := o.rL
  have n2 : (keys S.lines).length ≤ 40 := by rw [keys, List.length_map]; exact o.lL
  have n3 : (keys S.drains).length ≤ 12 := by rw [keys, List.length_map]; exact o.dL
  have n4 := o.sL
  intro xs h
  simp only [List.mem_cons] at h
  rcases h with rfl | rfl | rfl | rfl | h
  · exact a1.good o.rG (by omega)
  · exact a2.good o.lG (by omega)
  · exact a3.good o.dG (by omega)
  · exact a4.good (fun x hx => o.rG x (o.sI x hx)) (by omega)
  · exact srts_good o a5 xs h
theorem TellsOf.len {S : LS} {xss : List (List Str)} (o : S.Ok) (a : TellsOf S xss) : xss.length ≤ 28 := by
  obtain ⟨rs, ls, ds, ss, yss, a1, a2, a3, a4, a5, rfl⟩ := a
  have e := Paired.length a5
  have n1 := o.rL
  have e1 := a1.1.length_eq
  simp only [List.length_cons]
  omega
def spToldL (L : Addr) : Sp := fun vs H Q _ => ∃ (A : LA) (B : MA) (S : LS), vs = [.ref A.p, .ref B.m] ∧ Both L H A B S ∧
  ∀ (H' : Hp) (d : Addr) (gs : List Addr) (xss : List (List Str)), Same H H' → H d = none → H' d = some (.lst (gs.map V.ref)) → Lists H' gs xss → (∀ g ∈ gs, H g = none) → TellsOf S xss → Q (.ref d) H'
/-- each at gs is a list of texts, of n at the most, short ones -/
def okW (n : Nat) (x : Str) : Prop := x.length ≤ n ∧ PyData.strOk x = true
theorem okW.up {n m : Nat} {x : Str} (h : okW n x) (l : n ≤ m) : okW m x := ⟨Nat.le_trans h.1 l, h.2⟩
def Wild (H : Hp) (n : Nat) (gs : List Addr) : Prop := ∀ g ∈ gs, ∃ xs : List Str, H g = some (.lst (xs.map V.str)) ∧ xs.length ≤ n ∧ ∀ x ∈ xs, okW n x
def spPutL : Sp := fun vs H Q _ => ∃ (p q d : Addr) (gs : List Addr), vs = [.ref p, .ref d] ∧ Bag H p q ∧ H d = some (.lst (gs.map V.ref)) ∧ Wild H 64 gs ∧ (∀ g ∈ gs, g ≠ p ∧ g ≠ q) ∧ gs.length ≤ 60 ∧
  ∀ (H' : Hp), Bag H' p q → (∀ b u, H b = some u → b ≠ p → b ∉ gs → H' b = some u) → (∀ b, H' b = none → H b = none) → Q .non H'
end SM
namespace SM
open PySem PySem.Spec PyProof.Rows L2
/-- while the told lists are written on: the bag, the list of lists, what else stood at H0 -/
structure WildAt (H0 H : Hp) (p q d : Addr) (gs : List Addr) (n : Nat) : Prop where
  bag : Bag H p q
  top : H d = some (.lst (gs.map V.ref))
  wild : Wild H n gs
  out : ∀ b u, H0 b = some u → b ≠ p → b ∉ gs → H b = some u
  has : ∀ b, H b = none → H0 b = none
theorem Wild.more {H : Hp} {n m : Nat} {gs : List Addr} (h : Wild H n gs) (l : n ≤ m) : Wild H m gs := fun g hg => by
  obtain ⟨xs, a, b, c⟩ := h g hg
  exact ⟨xs, a, Nat.le_trans b l, fun x hx => (c x hx).up l⟩
theorem WildAt.more {H0 H : Hp} {p q d : Addr} {gs : List Addr} {n m : Nat} (h : WildAt H0 H p q d gs n) (l : n ≤ m) : WildAt H0 H p q d gs m := ⟨h.bag, h.top, h.wild.more l, h.out, h.has⟩
theorem refs_strs {gs : List Addr} {xs : List Str} (e : gs.map V.ref = xs.map V.str) : gs = [] := by
  cases gs with
  | nil => rfl
  | cons g r =>
    cases xs with
    | nil => cases e
    | cons x s => 
      rw [List.map_cons, List.map_cons] at e
      injection e with a _
      cases a
theorem WildAt.put {H0 H : Hp} {p q d g : Addr} {gs : List Addr} {n m : Nat} (h : WildAt H0 H p q d gs n) (l : n ≤ m) (hg : g ∈ gs) (ne : ∀ g ∈ gs, g ≠ p ∧ g ≠ q) {ys : List Str} (hy : ys.length ≤ m) (sy : ∀ y ∈ ys, okW m y) :
    WildAt H0 (upd H g (.lst (ys.map V.str))) p q d gs m := by
  have ng := ne g hg
  have nd : d ≠ g := fun z => by
    obtain ⟨xs, a, _⟩ := h.wild g hg
    rw [← z, h.top] at a
    have e : gs.map V.ref = xs.map V.str := by
      injection a with a
      injection a
    rw [refs_strs e] at hg
    cases hg
  refine ⟨h.bag.keep (upd_ne ng.1.symm) (upd_ne ng.2.symm), (upd_ne nd).trans h.top, fun g' hg' => ?_, fun b u e n1 n2 => ?_, fun b e => ?_⟩
  · by_cases z : g' = g
    · rw [z]
      exact ⟨ys, upd_same, hy, sy⟩
    · obtain ⟨xs, a, b, c⟩ := h.wild g' hg'
      exact ⟨xs, (upd_ne z).trans a, Nat.le_trans b l, fun x hx => (c x hx).up l⟩
  · rw [upd_ne (show b ≠ g from fun z => n2 (by rw [z]; exact hg))]
    exact h.out b u e n1 n2
  · by_cases z : b = g
    · rw [z, upd_same] at e
      cases e
    · rw [upd_ne z] at e
      exact h.has b e
theorem Lists.snoc {H : Hp} {gs : List Addr} {xss : List (List Str)} (h : Lists H gs xss) {g : Addr} {xs : List Str} (e : H g = some (.lst (xs.map V.str))) : Lists H (gs ++ [g]) (xss ++ [xs]) := Paired.snoc h e
theorem okW.app {n m : Nat} {x y : Str} (a : okW n x) (b : okW m y) : okW (n + m) (x ++ y) := by
  obtain ⟨a1, a2⟩ := a
  obtain ⟨b1, b2⟩ := b
  refine ⟨?_, ?_⟩
  · show (x.cps ++ y.cps).size ≤ n + m
    have a1' : x.cps.size ≤ n := a1
    have b1' : y.cps.size ≤ m := b1
    rw [Array.size_append]
    omega
  · simp only [PyData.strOk] at a2 b2 ⊢
    show Array.all (x.cps ++ y.cps) _ = true
    rw [Array.all_append, a2, b2]
    rfl
theorem okW.name {x : Str} (h : okName x = true) : okW 8 x := by
  refine ⟨?_, ?_⟩
  · simp only [okName, Bool.and_eq_true, decide_eq_true_eq] at h
    exact h.1.2
  · have a : smallS x = true := okName_small h
    simp only [smallS, Bool.and_eq_true] at a
    exact a.1
theorem wild_shaped {xs : List Str} (h : ∀ x ∈ xs, PyData.strOk x = true) : SeqAt.shaped (rowD xs) = true := by
  have lay : ∀ {xs : List Str}, (∀ x ∈ xs, PyData.strOk x = true) → PyData.canLayAll0 (xs.map PyData.str) = true := by
    intro xs
    induction xs with
    | nil => exact fun _ => rfl
    | cons x xs ih =>
      intro h
      simp only [List.map_cons, PyData.canLayAll0, PyData.canLay0, h x List.mem_cons_self, Bool.true_and]
      exact ih fun y hy => h y (List.mem_cons_of_mem _ hy)
  show (PyData.canLay0 (rowD xs) && decide (PyData.depth (rowD xs) ≤ 64)) = true
  rw [show PyData.canLay0 (rowD xs) = true by simp only [rowD, PyData.canLay0, lay h], Bool.true_and]
  refine decide_eq_true ?_
  simp only [PyData.depth, strs_depth xs]
  omega
end SM
namespace SM
open PySem PySem.Spec PyProof.Rows L2
theorem Lists.all_ne {G : Hp} {D : Addr} {gs : List Addr} {yss : List (List Str)} (h : Lists G gs yss) (hD : G D = some (.lst (gs.map V.ref))) : ∀ g ∈ gs, g ≠ D := fun g hg z => by
  obtain ⟨i, hi⟩ := List.getElem?_of_mem hg
  obtain ⟨xs, _, e⟩ := h.at hi
  rw [z, hD] at e
  have e' : gs.map V.ref = xs.map V.str := by
    injection e with e
    injection e
  rw [refs_strs e'] at hg
  cases hg
theorem Lists.off {G : Hp} {D : Addr} {o : HO} : ∀ {gs : List Addr} {yss : List (List Str)}, Lists G gs yss → (∀ g ∈ gs, g ≠ D) → Lists (upd G D o) gs yss
  | _, _, .nil, _ => .nil
  | _, _, .cons h t, n => .cons ((upd_ne (n _ List.mem_cons_self)).trans h) (Lists.off t fun g hg => n g (List.mem_cons_of_mem _ hg))
theorem flat_list {xs : List Str} : PyData.eqv (rowD xs) (.list []) = decide (xs = []) := eqv_nil
theorem atI_last {α : Type} {xs : List α} {x : α} (h : xs[xs.length - 1]? = some x) : atI xs (-1) = some x := by
  have l := (List.getElem?_eq_some_iff.mp h).1
  unfold atI ixN
  rw [if_neg (by decide), if_pos (by omega)]
  show xs[((-1 : Int) + (xs.length : Int)).toNat]? = some x
  rw [show ((-1 : Int) + (xs.length : Int)).toNat = xs.length - 1 by omega]
  exact h
end SM
namespace SM
open PySem PySem.Spec PyProof.Rows L2
theorem WildAt.same {H0 H H1 : Hp} {p q d : Addr} {gs : List Addr} {n : Nat} (h : WildAt H0 H p q d gs n) (s : Same H H1) : WildAt H0 H1 p q d gs n :=
  ⟨h.bag.same s, s _ _ h.top, fun g hg => by
    obtain ⟨xs, a, b⟩ := h.wild g hg
    exact ⟨xs, s _ _ a, b⟩, fun b u e n1 n2 => s _ _ (h.out b u e n1 n2), fun b e => h.has b (s.free e)⟩
theorem mem_set {α : Type} {xs : List α} {i : Nat} {y z : α} (h : z ∈ xs.set i y) : z ∈ xs ∨ z = y := List.mem_or_eq_of_mem_set h
end SM
namespace SM
open PySem PySem.Spec PyProof.Rows L2
theorem newlay {H H1 : Hp} {L x dx : Addr} {La : LA} (nx : H x = none) (ndx : H dx = none) (eA : La.p = x) (kp : ∀ b u, upd (upd H dx (.own x)) x (.ins L dx []) b = some u → b ≠ x → H1 b = some u) (fresh : ∀ b ∈ La.ms, upd (upd H dx (.own x)) x (.ins L dx []) b = none) :
    Same H H1 ∧ ∀ b ∈ La.ms, H b = none := by
  have eX : Same H (upd (upd H dx (.own x)) x (.ins L dx [])) := fun b o e => by
    rw [upd_ne (ne_of_none e nx), upd_ne (ne_of_none e ndx)]
    exact e
  exact ⟨fun b o e => kp b o (eX b o e) (ne_of_none e nx), fun b hb => eX.free (fresh b hb)⟩
theorem Keep.butp {H H' : Hp} {p q : Addr} (B : Bag H p q) (B' : Bag H' p q) (o : ∀ b u, H b = some u → b ≠ p → H' b = some u) (has : ∀ b, H' b = none → H b = none) : Keep [p] H H' := by
  obtain ⟨x, y, c, ns, B⟩ := B
  have top := B.top
  refine ⟨fun b u e n => o b u e fun z => n (by rw [z]; exact List.mem_singleton_self _), fun b xs e => o b _ e (ne_of e top (by intro z; cases z)), fun b _ _ _ e => o b _ e (ne_of e top (by intro z; cases z)), fun b xs e f => o b _ e fun z => ?_, has⟩
  rw [z, top] at e
  cases e
  exact Bool.noConfusion f
/-- told and kept: a tuple of two lists of lists that are alike -/
def HeldAt (H : Hp) (hd : Addr) (ts : List Addr) (tss : List (List (List Str))) : Prop := Paired (fun t xss => ∃ s k gs ks, H t = some (.tup [.ref s, .ref k]) ∧ (H s = some (.lst (gs.map V.ref)) ∧ H k = some (.lst (ks.map V.ref)) ∧ Lists H gs xss ∧ Lists H ks xss ∧ GoodLs xss) ∧ s ≠ hd ∧ k ≠ hd ∧ (∀ g ∈ gs, g ≠ hd) ∧ (∀ g ∈ ks, g ≠ hd)) ts tss
theorem HeldAt.keep {ms : List Addr} {H H' : Hp} {hd : Addr} (k : Keep ms H H') (n : ∀ d (ts : List Addr), H d = some (.lst (ts.map V.ref)) → d ∉ ms) : ∀ {ts : List Addr} {tss : List (List (List Str))}, HeldAt H hd ts tss → HeldAt H' hd ts tss
  | _, _, .nil => .nil
  | _, _, .cons h t => by
    obtain ⟨s, e, gs, ks, a, ⟨b, c, d, f, g⟩, r⟩ := h
    exact .cons ⟨s, e, gs, ks, k.tup _ _ a, ⟨k.out _ _ b (n s gs b), k.out _ _ c (n e ks c), d.keep k, f.keep k, g⟩, r⟩ (HeldAt.keep k n t)
theorem HeldAt.write {H : Hp} {hd : Addr} {zs ys : List V} (e0 : H hd = some (.lst zs)) : ∀ {ts : List Addr} {tss : List (List (List Str))}, HeldAt H hd ts tss → HeldAt (upd H hd (.lst ys)) hd ts tss
  | _, _, .nil => .nil
  | _, _, .cons h t => by
    obtain ⟨s, e, gs, ks, a, ⟨b, c, d, f, g⟩, r1, r2, r3, r4⟩ := h
    exact .cons ⟨s, e, gs, ks, (upd_ne (ne_of a e0 (by intro z; cases z))).trans a, ⟨(upd_ne r1).trans b, (upd_ne r2).trans c, d.off r3, f.off r4, g⟩, r1, r2, r3, r4⟩ (HeldAt.write e0 t)
theorem HeldAt.good {H : Hp} {hd : Addr} : ∀ {ts : List Addr} {tss : List (List (List Str))}, HeldAt H hd ts tss → ∀ xss ∈ tss, GoodLs xss
  | _, _, .nil => fun _ h => nomatch h
  | _, _, .cons h t => fun x hx => by
    obtain ⟨s, e, gs, ks, a, ⟨b, c, d, f, g⟩, r⟩ := h
    rcases List.mem_cons.mp hx with rfl | hx
    · exact g
    · exact HeldAt.good t x hx
theorem HeldAt.at {H : Hp} {hd : Addr} : ∀ {ts : List Addr} {tss : List (List (List Str))}, HeldAt H hd ts tss → ∀ {i : Nat} {t : Addr}, ts[i]? = some t → ∃ xss s k gs ks, tss[i]? = some xss ∧ H t = some (.tup [.ref s, .ref k]) ∧ H s = some (.lst (gs.map V.ref)) ∧ H k = some (.lst (ks.map V.ref)) ∧ Lists H gs xss ∧ Lists H ks xss
  | _, _, .nil, i, t, e => by simp at e
  | _, _, .cons h r, 0, t, e => by
    have e' := Option.some.inj (e : some _ = some t)
    subst e'
    obtain ⟨s, k, gs, ks, a, ⟨b, c, d, f, g⟩, _⟩ := h
    exact ⟨_, s, k, gs, ks, rfl, a, b, c, d, f⟩
  | _, _, .cons h r, i + 1, t, e => by
    obtain ⟨xss, s, k, gs, ks, a, b⟩ := HeldAt.at r (i := i) (t := t) (by simpa using e)
    exact ⟨xss, s, k, gs, ks, by simpa using a, b⟩
theorem Lists.mapH {G G' : Hp} : ∀ {gs : List Addr} {xss : List (List Str)}, Lists G gs xss → (∀ g ∈ gs, ∀ u, G g = some u → G' g = some u) → Lists G' gs xss
  | _, _, .nil, _ => .nil
  | _, _, .cons h t, m => .cons (m _ List.mem_cons_self _ h) (Lists.mapH t fun g hg => m g (List.mem_cons_of_mem _ hg))
/-- two layouts, each with its book -/
structure Two (L : Addr) (H : Hp) (A1 : LA) (B1 : MA) (S1 : LS) (A2 : LA) (B2 : MA) (S2 : LS) : Prop where
  one : Both L H A1 B1 S1
  two : Both L H A2 B2 S2
  apart : ∀ b ∈ A1.ms ++ B1.ms, b ∉ A2.ms ++ B2.ms
theorem Two.swap {L : Addr} {H : Hp} {A1 A2 : LA} {B1 B2 : MA} {S1 S2 : LS} (h : Two L H A1 B1 S1 A2 B2 S2) : Two L H A2 B2 S2 A1 B1 S1 := ⟨h.two, h.one, fun b hb w => h.apart b w hb⟩
theorem Two.keep {L : Addr} {H H' : Hp} {A1 A2 : LA} {B1 B2 : MA} {S1 S2 : LS} {ms : List Addr} (h : Two L H A1 B1 S1 A2 B2 S2) (k : Keep ms H H') (n : ∀ b ∈ ms, ∃ xs, H b = some (.lst xs)) : Two L H' A1 B1 S1 A2 B2 S2 := by
  refine ⟨h.one.keep k fun b hb => ?_, h.two.keep k fun b hb => ?_, h.apart⟩
  · obtain ⟨xs, e⟩ := n b hb
    have q := h.one.nolist e
    exact ⟨fun w => q (List.mem_append_left _ w), fun w => q (List.mem_append_right _ w)⟩
  · obtain ⟨xs, e⟩ := n b hb
    have q := h.two.nolist e
    exact ⟨fun w => q (List.mem_append_left _ w), fun w => q (List.mem_append_right _ w)⟩
theorem Two.same {L : Addr} {H H' : Hp} {A1 A2 : LA} {B1 B2 : MA} {S1 S2 : LS} (h : Two L H A1 B1 S1 A2 B2 S2) (s : Same H H') : Two L H' A1 B1 S1 A2 B2 S2 := h.keep (ms := []) (Keep.of s) fun _ z => (nomatch z)
theorem Two.step {L : Addr} {H H' : Hp} {A1 A2 : LA} {B1 B2 : MA} {S1 S2 S1' : LS} (h : Two L H A1 B1 S1 A2 B2 S2) (b : Both L H' A1 B1 S1') (k : Keep (A1.ms ++ B1.ms) H H') : Two L H' A1 B1 S1' A2 B2 S2 :=
  ⟨b, h.two.keep k fun b hb => ⟨fun w => h.apart b hb (List.mem_append_left _ w), fun w => h.apart b hb (List.mem_append_right _ w)⟩, h.apart⟩
end SM
namespace SM
open PySem PySem.Spec PyProof.Rows L2
/-- list(xs) within a comprehension: K told -/
theorem call_list_ofK {X : Cx} {K : PySem.W.Frag} (e : X.K = K) : CallR X (.type "list") (fun xs H Q => ∃ p ys, xs = [.ref p] ∧ (SqL K H p ys ∨ SqT K H p ys) ∧ ∀ l, H l = none → Q (.ref l) (upd H l (.lst ys))) := by
  subst e
  exact call_list_of
end SM
namespace SM
open PySem PySem.Spec PyProof.Rows L2
/-! several layouts, each with its book -/
abbrev LMS := LA × MA × LS
def msOf (x : LMS) : List Addr := x.1.ms ++ x.2.1.ms
structure Fam (L : Addr) (G : Hp) (bt : Addr) (ts : List Addr) (Bs : List LMS) : Prop where
  top : G bt = some (.lst (ts.map V.ref))
  len : ts.length = Bs.length
  at_ : ∀ (i : Nat) (x : LMS), Bs[i]? = some x → ∃ t, ts[i]? = some t ∧ G t = some (.tup [.ref x.1.p, .ref x.2.1.m]) ∧ Both L G x.1 x.2.1 x.2.2
  apart : ∀ (i j : Nat) (x y : LMS), i ≠ j → Bs[i]? = some x → Bs[j]? = some y → ∀ b ∈ msOf x, b ∉ msOf y
section
variable {L : Addr} {G G' : Hp} {bt : Addr} {ts : List Addr} {Bs : List LMS} {ms : List Addr}
theorem Fam.get (h : Fam L G bt ts Bs) {i : Nat} {t : Addr} (e : ts[i]? = some t) : ∃ x, Bs[i]? = some x ∧ G t = some (.tup [.ref x.1.p, .ref x.2.1.m]) ∧ Both L G x.1 x.2.1 x.2.2 := by
  have l := (List.getElem?_eq_some_iff.mp e).1
  rw [h.len] at l
  obtain ⟨t', a, b, c⟩ := h.at_ i _ (List.getElem?_eq_getElem l)
  rw [a] at e
  cases e
  exact ⟨_, List.getElem?_eq_getElem l, b, c⟩
theorem Fam.keep (h : Fam L G bt ts Bs) (k : Keep ms G G') (n : ∀ b ∈ ms, ∃ xs, G b = some (.lst xs)) (nb : bt ∉ ms) : Fam L G' bt ts Bs := by
  refine ⟨k.out _ _ h.top nb, h.len, fun i x e => ?_, h.apart⟩
  obtain ⟨t, a, b, c⟩ := h.at_ i x e
  refine ⟨t, a, k.tup _ _ b, c.keep k fun b hb => ?_⟩
  obtain ⟨xs, e⟩ := n b hb
  have q := c.nolist e
  exact ⟨fun w => q (List.mem_append_left _ w), fun w => q (List.mem_append_right _ w)⟩
theorem Fam.same (h : Fam L G bt ts Bs) (s : Same G G') : Fam L G' bt ts Bs := h.keep (ms := []) (Keep.of s) (fun _ z => (nomatch z)) (fun z => (nomatch z))
theorem Fam.off (h : Fam L G bt ts Bs) {i : Nat} {x : LMS} (e : Bs[i]? = some x) {d : Addr} {xs : List V} (hd : G d = some (.lst xs)) : d ∉ msOf x := by
  obtain ⟨t, a, b, c⟩ := h.at_ i x e
  exact c.nolist hd
theorem Fam.step (h : Fam L G bt ts Bs) {i : Nat} {A : LA} {M : MA} {S S' : LS} (e : Bs[i]? = some (A, M, S)) (b : Both L G' A M S') (k : Keep (A.ms ++ M.ms) G G') : Fam L G' bt ts (Bs.set i (A, M, S')) := by
  have l := (List.getElem?_eq_some_iff.mp e).1
  have key : ∀ j y, (Bs.set i (A, M, S'))[j]? = some y → ∃ y0, Bs[j]? = some y0 ∧ msOf y0 = msOf y := fun j y ey => by
    rw [List.getElem?_set] at ey
    by_cases z : i = j
    · subst z
      rw [if_pos rfl, if_pos l] at ey
      cases ey
      exact ⟨_, e, rfl⟩
    · rw [if_neg z] at ey
      exact ⟨y, ey, rfl⟩
  refine ⟨k.out _ _ h.top (h.off e h.top), by rw [List.length_set]; exact h.len, fun j y ey => ?_, fun j1 j2 x y n e1 e2 => ?_⟩
  · rw [List.getElem?_set] at ey
    by_cases z : i = j
    · subst z
      rw [if_pos rfl, if_pos l] at ey
      cases ey
      obtain ⟨t, a, c, d⟩ := h.at_ i _ e
      exact ⟨t, a, k.tup _ _ c, b⟩
    · rw [if_neg z] at ey
      obtain ⟨t, a, c, d⟩ := h.at_ j y ey
      refine ⟨t, a, k.tup _ _ c, d.keep k fun b' hb => ?_⟩
      have q := h.apart i j _ y z e ey b' hb
      exact ⟨fun w => q (List.mem_append_left _ w), fun w => q (List.mem_append_right _ w)⟩
  · obtain ⟨x0, f1, g1⟩ := key j1 x e1
    obtain ⟨y0, f2, g2⟩ := key j2 y e2
    rw [← g1, ← g2]
    exact h.apart j1 j2 x0 y0 n f1 f2
end
/-- what else a law of several layouts holds -/
structure Rest (G : Hp) (p q rm dv c : Addr) (rs ds ws : List Str) : Prop where
  bag : Bag G p q
  rm : NamesAt G rm rs
  dv : NamesAt G dv ds
  ws : G c = some (.lst (ws.map V.str))
theorem Rest.keep {G G' : Hp} {p q rm dv c : Addr} {rs ds ws : List Str} {ms : List Addr} (h : Rest G p q rm dv c rs ds ws) (k : Keep ms G G') (b : Bag G' p q) : Rest G' p q rm dv c rs ds ws :=
  ⟨b, h.rm.keep k, h.dv.keep k, k.flat _ _ h.ws (flat_strs _)⟩
theorem Rest.same {G G' : Hp} {p q rm dv c : Addr} {rs ds ws : List Str} (h : Rest G p q rm dv c rs ds ws) (s : Same G G') : Rest G' p q rm dv c rs ds ws := h.keep (ms := []) (Keep.of s) (h.bag.same s)
end SM
namespace SM
open PySem PySem.Spec PyProof.Rows L2
/-- k29's own list of what was told -/
structure Helds (G : Hp) (hd : Addr) (us : List Addr) (tss : List (List (List Str))) : Prop where
  top : G hd = some (.lst (us.map V.ref))
  all : HeldAt G hd us tss
theorem Helds.keep {G G' : Hp} {hd : Addr} {us : List Addr} {tss : List (List (List Str))} {ms : List Addr} (h : Helds G hd us tss) (k : Keep ms G G') (n : ∀ d (ts : List Addr), G d = some (.lst (ts.map V.ref)) → d ∉ ms) : Helds G' hd us tss :=
  ⟨k.out _ _ h.top (n hd us h.top), h.all.keep k n⟩
theorem Helds.same {G G' : Hp} {hd : Addr} {us : List Addr} {tss : List (List (List Str))} (h : Helds G hd us tss) (s : Same G G') : Helds G' hd us tss := h.keep (ms := []) (Keep.of s) fun _ _ _ z => (nomatch z)
/-- no book's sorted list stands at g -/
def NoTopF (G : Hp) (Bs : List LMS) (g : Addr) : Prop := ∀ (i : Nat) (x : LMS), Bs[i]? = some x → NoTop G x.2.1 g
theorem NoTopF.keep {L : Addr} {G G' : Hp} {bt : Addr} {ts : List Addr} {Bs : List LMS} {ms : List Addr} {g : Addr} (h : NoTopF G Bs g) (f : Fam L G bt ts Bs) (k : Keep ms G G') (n : ∀ b ∈ ms, ∃ xs, G b = some (.lst xs)) (hg : G g ≠ none) : NoTopF G' Bs g := fun i x e => by
  obtain ⟨t, a, b, c⟩ := f.at_ i x e
  refine NoTops.off c.md k (fun w => ?_) g hg (h i x e)
  obtain ⟨xs, e⟩ := n _ w
  exact c.nolist e (List.mem_append_right _ (by simp [MA.ms]))
theorem NoTopF.step {L : Addr} {G G' : Hp} {bt : Addr} {ts : List Addr} {Bs : List LMS} {g : Addr} {i : Nat} {A : LA} {M : MA} {S S' : LS} (h : NoTopF G Bs g) (f : Fam L G bt ts Bs) (e : Bs[i]? = some (A, M, S)) (k : Keep (A.ms ++ M.ms) G G') (n : NoTops M G G') (hg : G g ≠ none) :
    NoTopF G' (Bs.set i (A, M, S')) g := fun j y ey => by
  have l := (List.getElem?_eq_some_iff.mp e).1
  rw [List.getElem?_set] at ey
  by_cases z : i = j
  · subst z
    rw [if_pos rfl, if_pos l] at ey
    cases ey
    exact n g hg (h i _ e)
  · rw [if_neg z] at ey
    obtain ⟨t, a, b, c⟩ := f.at_ j y ey
    refine NoTops.off c.md k (fun w => ?_) g hg (h j y ey)
    exact f.apart i j _ y z e ey _ w (List.mem_append_right _ (by simp [MA.ms]))
theorem Fam.write {L : Addr} {G : Hp} {bt : Addr} {ts : List Addr} {Bs : List LMS} {g : Addr} {xs ys : List V} (f : Fam L G bt ts Bs) (h : NoTopF G Bs g) (e : G g = some (.lst xs)) (nb : bt ≠ g) : Fam L (upd G g (.lst ys)) bt ts Bs := by
  refine ⟨(upd_ne nb).trans f.top, f.len, fun i x ex => ?_, f.apart⟩
  obtain ⟨t, a, b, c⟩ := f.at_ i x ex
  exact ⟨t, a, (upd_ne (ne_of b e (by intro z; cases z))).trans b, c.write e (h i x ex)⟩
theorem NoTopF.write {L : Addr} {G : Hp} {bt : Addr} {ts : List Addr} {Bs : List LMS} {g : Addr} {xs ys : List V} (h : NoTopF G Bs g) (f : Fam L G bt ts Bs) (e : G g = some (.lst xs)) : NoTopF (upd G g (.lst ys)) Bs g := fun i x ex => by
  obtain ⟨t, a, b, c⟩ := f.at_ i x ex
  obtain ⟨⟨p1, p2, e1, _, _⟩, _⟩ := id c.md
  exact NoTop.at ((upd_ne (ne_of e1 e (by intro z; cases z))).trans e1) (h i x ex p1 p2 e1)
end SM
namespace SM
open PySem PySem.Spec PyProof.Rows L2
theorem atI_refs {ts : List Addr} {v : Int} (h0 : 0 ≤ v) (h1 : v < ts.length) : ∃ t, ts[v.toNat]? = some t ∧ atI (ts.map V.ref) v = some (.ref t) := by
  have lt : v.toNat < ts.length := by omega
  refine ⟨ts[v.toNat], List.getElem?_eq_getElem lt, ?_⟩
  have e := atI_nat (xs := ts.map V.ref) (j := v.toNat) (v := .ref ts[v.toNat]) (by rw [List.getElem?_map, List.getElem?_eq_getElem lt]; rfl)
  rw [Int.toNat_of_nonneg h0] at e
  exact e
end SM
namespace SM
open PySem PySem.Spec PyProof.Rows L2
theorem NoTop.fresh {H : Hp} {A : MA} {S : LS} {g : Addr} (h : MdAt H A S) (e : H g = none) : NoTop H A g := by
  obtain ⟨⟨a, b, e1, ⟨_, _, _, ra⟩, ⟨_, _, _, sb⟩⟩, _⟩ := h
  exact NoTop.at e1 ⟨ne_of_none ra e, ne_of_none sb e⟩
theorem strs_refs {us : List Addr} {xs : List Str} (e : us.map V.ref = xs.map V.str) : xs = [] := by
  rw [refs_strs e] at e
  cases xs with
  | nil => rfl
  | cons x r => cases e
theorem Rest.write {G : Hp} {p q rm dv c hd : Addr} {rs ds ws : List Str} {us : List Addr} {o : HO} (h : Rest G p q rm dv c rs ds ws) (e : G hd = some (.lst (us.map V.ref))) (nq : hd ≠ q) (nw : ws ≠ []) : Rest (upd G hd o) p q rm dv c rs ds ws := by
  have key : ∀ {x : Addr} {xs : List Str}, G x = some (.lst (xs.map V.str)) → xs ≠ [] → x ≠ hd := fun {x xs} a n z => by
    rw [z, e] at a
    have e' : us.map V.ref = xs.map V.str := by
      injection a with a
      injection a
    exact n (strs_refs e')
  refine ⟨h.bag.keep (upd_ne (h.bag.norefs e).symm) (upd_ne nq.symm), ⟨(upd_ne (key h.rm.1 ?_)).trans h.rm.1, h.rm.2⟩, ⟨(upd_ne (key h.dv.1 ?_)).trans h.dv.1, h.dv.2⟩, (upd_ne (key h.ws nw)).trans h.ws⟩
  · exact List.length_pos_iff.mp h.rm.2.1
  · exact List.length_pos_iff.mp h.dv.2.1
theorem HeldAt.snoc {H : Hp} {hd : Addr} {ts : List Addr} {tss : List (List (List Str))} (h : HeldAt H hd ts tss) {t s k : Addr} {gs ks : List Addr} {xss : List (List Str)} (a : H t = some (.tup [.ref s, .ref k])) (b : H s = some (.lst (gs.map V.ref))) (c : H k = some (.lst (ks.map V.ref))) (d : Lists H gs xss) (e : Lists H ks xss) (g : GoodLs xss)
    (n1 : s ≠ hd) (n2 : k ≠ hd) (n3 : ∀ g ∈ gs, g ≠ hd) (n4 : ∀ g ∈ ks, g ≠ hd) : HeldAt H hd (ts ++ [t]) (tss ++ [xss]) := Paired.snoc h ⟨s, k, gs, ks, a, ⟨b, c, d, e, g⟩, n1, n2, n3, n4⟩
end SM
namespace SM
open PySem PySem.Spec PyProof.Rows L2
theorem NoTop.same {H H' : Hp} {A : MA} {S : LS} {g : Addr} (h : MdAt H A S) (n : NoTop H A g) (s : Same H H') : NoTop H' A g := by
  obtain ⟨⟨a, b, e1, _, _⟩, _⟩ := h
  exact NoTop.at (s _ _ e1) (n a b e1)
end SM
namespace SM
open PySem PySem.Spec PyProof.Rows L2
def RowsAt (G : Hp) (ss : List Addr) (tss : List (List (List Str))) : Prop := Paired (fun s xss => ∃ gs, G s = some (.lst (gs.map V.ref)) ∧ Lists G gs xss) ss tss
theorem RowsAt.same {G G' : Hp} (s : Same G G') : ∀ {ss : List Addr} {tss : List (List (List Str))}, RowsAt G ss tss → RowsAt G' ss tss
  | _, _, .nil => .nil
  | _, _, .cons h t => by
    obtain ⟨gs, a, b⟩ := h
    exact .cons ⟨gs, s _ _ a, b.same s⟩ (RowsAt.same s t)
theorem RowsAt.snoc {G : Hp} {ss : List Addr} {tss : List (List (List Str))} (h : RowsAt G ss tss) {s : Addr} {gs : List Addr} {xss : List (List Str)} (a : G s = some (.lst (gs.map V.ref))) (b : Lists G gs xss) : RowsAt G (ss ++ [s]) (tss ++ [xss]) := Paired.snoc h ⟨gs, a, b⟩
theorem RowsAt.dps {K : PySem.W.Frag} {G : Hp} : ∀ {ss : List Addr} {tss : List (List (List Str))}, RowsAt G ss tss → DpAll K G (ss.map V.ref) (tss.map rowsD)
  | _, _, .nil => .nil
  | _, _, .cons h t => by
    obtain ⟨gs, a, b⟩ := h
    exact .cons (b.dp a) (RowsAt.dps t)
end SM
/-! Part Q: copies of a layout and of its book. -/
namespace SM
open PySem PySem.Spec PyProof.Rows L2
def rDUpd : V → List V → Hp → VK → Prop := fun x vs H Q => ∃ a b kvs more, x = .ref a ∧ vs = [.ref b] ∧ a ≠ b ∧ H a = some (.dK kvs) ∧ H b = some (.dK more) ∧ kvs.length + more.length ≤ sizeLine ∧ Q .non (upd H a (.dK (mergeK kvs more)))
theorem mt_dupdate {X : Cx} : MtR X "dict.update" rDUpd := by
  intro pins s σ H x vs v us Q I rx rxs h
  obtain ⟨a, b, kvs, more, rfl, rfl, ne, ha, hb, hz, q⟩ := h
  cases rx
  obtain ⟨u, rfl, ru⟩ := rxs.one
  cases ru
  obtain ⟨za, loa, va, rela, da⟩ := dk_of I.hok ha
  obtain ⟨zb, lob, vb, relb, db⟩ := dk_of I.hok hb
  refine call_meetsIn PySem.F.slot_dict_update da.typeIs PySem.F.entry_dict_update (PySem.F.args_dict_update_2 _ _) (meets_dict_update (mixKind X.prog X.w) a b ne lob) ⟨va, vb, da, db, by rw [← rela.length, ← relb.length]; exact hz, fun h' dd' _ hs => ?_⟩
  have he : ∃ q, h'.get? a = some q := let ⟨q, _, _, hq, _⟩ := dd'; ⟨q, hq⟩
  exact ⟨.non, _, d_write (t' := s.toks) I (by rw [ha]; exact True.intro) hs he (dk_new (Nat.le_trans (length_mergeK more kvs) hz) loa (KV.merge relb rela) dd'), rfl, q⟩
theorem putF_here {f : Str} {v x : V} {r : List (Str × V)} : putF f v ((f, x) :: r) = (f, v) :: r := by
  show (if f = f then (f, v) :: r else _) = _
  rw [if_pos rfl]
theorem putF_r (A : LA) (d : Addr) : putF "_rooms" (.ref d) (lfl A) = lfl { A with r := d } := putF_here
theorem putF_l (A : LA) (d : Addr) : putF "_lines" (.ref d) (lfl A) = lfl { A with l := d } := by
  unfold lfl
  rw [putF_skip kRL, putF_here]
theorem putF_d (A : LA) (d : Addr) : putF "_drains" (.ref d) (lfl A) = lfl { A with d := d } := by
  unfold lfl
  rw [putF_skip kRD, putF_skip kLD, putF_here]
theorem putF_s (A : LA) (d : Addr) : putF "_sources" (.ref d) (lfl A) = lfl { A with s := d } := by
  unfold lfl
  rw [putF_skip kRS, putF_skip kLS, putF_skip kDS, putF_here]
section
variable {L : Addr} {H : Hp} {A : LA} {S : LS} {d dx : Addr} {kvs : List (Key × V)}
theorem offp {o : HO} {b : Addr} {k : List (Key × V)} (ob : H A.p = some (.ins L dx (lfl A))) (e : H b = some (.dK k)) : upd H A.p o b = some (.dK k) := by
  rw [upd_ne (ne_of e ob (by intro z; cases z))]
  exact e
theorem offt {o : HO} {v : V} {e : LineV} (ob : H A.p = some (.ins L dx (lfl A))) (h : LineG H v e) : LineG (upd H A.p o) v e := by
  obtain ⟨t, a, b⟩ := h
  exact ⟨t, a, by rw [upd_ne (ne_of b ob (by intro z; cases z))]; exact b⟩
theorem LayAt.newR (h : LayAt L H A S) (ob0 : H A.p = some (.ins L dx (lfl A))) {xs : List Str} (hd : H d = some (.dK kvs)) (k : Kr TrueG kvs (uT xs)) (n : d ∉ A.ms) : LayAt L (upd H A.p (.ins L dx (lfl { A with r := d }))) { A with r := d } { S with rooms := xs } := by
  obtain ⟨_, ⟨k1, r1, r2⟩, ⟨k2, l1, l2⟩, ⟨k3, d1, d2⟩, ⟨k4, s1, s2⟩, nd⟩ := h
  simp only [LA.ms, List.mem_cons, List.not_mem_nil, or_false, not_or, List.nodup_cons] at n nd
  refine ⟨⟨dx, upd_same⟩, ⟨kvs, offp ob0 hd, k⟩, ⟨k2, offp ob0 l1, l2.mono fun v e g => offt ob0 g⟩, ⟨k3, offp ob0 d1, d2⟩, ⟨k4, offp ob0 s1, s2⟩, ?_⟩
  simp only [LA.ms, List.mem_cons, List.not_mem_nil, or_false, not_or, List.nodup_cons]
  exact ⟨⟨n.2.1, n.2.2.1, n.2.2.2⟩, nd.2⟩
theorem LayAt.newL (h : LayAt L H A S) (ob0 : H A.p = some (.ins L dx (lfl A))) {xs : List (Str × LineV)} (hd : H d = some (.dK kvs)) (k : Kr (LineG H) kvs xs) (n : d ∉ A.ms) : LayAt L (upd H A.p (.ins L dx (lfl { A with l := d }))) { A with l := d } { S with lines := xs } := by
  obtain ⟨_, ⟨k1, r1, r2⟩, ⟨k2, l1, l2⟩, ⟨k3, d1, d2⟩, ⟨k4, s1, s2⟩, nd⟩ := h
  simp only [LA.ms, List.mem_cons, List.not_mem_nil, or_false, not_or, List.nodup_cons] at n nd
  refine ⟨⟨dx, upd_same⟩, ⟨k1, offp ob0 r1, r2⟩, ⟨kvs, offp ob0 hd, k.mono fun v e g => offt ob0 g⟩, ⟨k3, offp ob0 d1, d2⟩, ⟨k4, offp ob0 s1, s2⟩, ?_⟩
  simp only [LA.ms, List.mem_cons, List.not_mem_nil, or_false, not_or, List.nodup_cons]
  exact ⟨⟨fun w => n.1 w.symm, nd.1.2.1, nd.1.2.2⟩, ⟨n.2.2.1, n.2.2.2⟩, nd.2.2⟩
theorem LayAt.newD (h : LayAt L H A S) (ob0 : H A.p = some (.ins L dx (lfl A))) {xs : List (Str × Str)} (hd : H d = some (.dK kvs)) (k : Kr StrG kvs xs) (n : d ∉ A.ms) : LayAt L (upd H A.p (.ins L dx (lfl { A with d := d }))) { A with d := d } { S with drains := xs } := by
  obtain ⟨_, ⟨k1, r1, r2⟩, ⟨k2, l1, l2⟩, ⟨k3, d1, d2⟩, ⟨k4, s1, s2⟩, nd⟩ := h
  simp only [LA.ms, List.mem_cons, List.not_mem_nil, or_false, not_or, List.nodup_cons] at n nd
  refine ⟨⟨dx, upd_same⟩, ⟨k1, offp ob0 r1, r2⟩, ⟨k2, offp ob0 l1, l2.mono fun v e g => offt ob0 g⟩, ⟨kvs, offp ob0 hd, k⟩, ⟨k4, offp ob0 s1, s2⟩, ?_⟩
  simp only [LA.ms, List.mem_cons, List.not_mem_nil, or_false, not_or, List.nodup_cons]
  exact ⟨⟨nd.1.1, fun w => n.1 w.symm, nd.1.2.2⟩, ⟨fun w => n.2.1 w.symm, nd.2.1.2⟩, n.2.2.2, nd.2.2.2⟩
theorem LayAt.newS (h : LayAt L H A S) (ob0 : H A.p = some (.ins L dx (lfl A))) {xs : List Str} (hd : H d = some (.dK kvs)) (k : Kr TrueG kvs (uT xs)) (n : d ∉ A.ms) : LayAt L (upd H A.p (.ins L dx (lfl { A with s := d }))) { A with s := d } { S with sources := xs } := by
  obtain ⟨_, ⟨k1, r1, r2⟩, ⟨k2, l1, l2⟩, ⟨k3, d1, d2⟩, ⟨k4, s1, s2⟩, nd⟩ := h
  simp only [LA.ms, List.mem_cons, List.not_mem_nil, or_false, not_or, List.nodup_cons] at n nd
  refine ⟨⟨dx, upd_same⟩, ⟨k1, offp ob0 r1, r2⟩, ⟨k2, offp ob0 l1, l2.mono fun v e g => offt ob0 g⟩, ⟨k3, offp ob0 d1, d2⟩, ⟨kvs, offp ob0 hd, k⟩, ?_⟩
  simp only [LA.ms, List.mem_cons, List.not_mem_nil, or_false, not_or, List.nodup_cons]
  exact ⟨⟨nd.1.1, nd.1.2.1, fun w => n.1 w.symm⟩, ⟨nd.2.1.1, fun w => n.2.1 w.symm⟩, fun w => n.2.2.1 w.symm, nd.2.2.2⟩
end
/-- copied() -/
def spCopied (L : Addr) : Sp := fun vs H Q _ => ∃ (A : LA) (S : LS), vs = [.ref A.p] ∧ LayAt L H A S ∧ S.Ok ∧ ∀ (A' : LA) (H' : Hp), LayAt L H' A' S → Same H H' → (∀ b ∈ A'.ms, H b = none) → Q (.ref A'.p) H'
/-- _law_twin(m) -/
def spTwinL : Sp := fun vs H Q _ => ∃ (B : MA) (S : LS), vs = [.ref B.m] ∧ MdAt H B S ∧ S.Ok ∧ ∀ (B' : MA) (H' : Hp), MdAt H' B' S → Same H H' → (∀ b ∈ B'.ms, H b = none) → Q (.ref B'.m) H'
end SM
namespace SM
open PySem PySem.Spec PyProof.Rows L2
def tw1 (a b : Addr) : List (Key × V) := [(Sum.inr "rooms", .ref a), (Sum.inr "sources", .ref b)]
def tw2 (l d : Addr) : List (Key × V) := [(Sum.inr "lines", .ref l), (Sum.inr "drains", .ref d)]
theorem tw1_merge (a b : Addr) : mergeK [] (tw1 a b) = tw1 a b := by
  have n0 : valV ([] : List (Key × V)) (Sum.inr "rooms") = none := rfl
  have n1 : valV ([(Sum.inr "rooms", .ref a)] : List (Key × V)) (Sum.inr "sources") = none := by rw [valV_neg kq3]; rfl
  show putK (putK ([] : List (Key × V)) (Sum.inr "rooms") (.ref a)) (Sum.inr "sources") (.ref b) = _
  rw [putK_new _ n0]
  show putK ([(Sum.inr "rooms", .ref a)] : List (Key × V)) (Sum.inr "sources") (.ref b) = _
  rw [putK_new _ n1]
  rfl
theorem tw2_merge (l d : Addr) : mergeK [] (tw2 l d) = tw2 l d := by
  have n0 : valV ([] : List (Key × V)) (Sum.inr "lines") = none := rfl
  have n1 : valV ([(Sum.inr "lines", .ref l)] : List (Key × V)) (Sum.inr "drains") = none := by rw [valV_neg kq4]; rfl
  show putK (putK ([] : List (Key × V)) (Sum.inr "lines") (.ref l)) (Sum.inr "drains") (.ref d) = _
  rw [putK_new _ n0]
  show putK ([(Sum.inr "lines", .ref l)] : List (Key × V)) (Sum.inr "drains") (.ref d) = _
  rw [putK_new _ n1]
  rfl
theorem tw_merge (m l d a b : Addr) : mergeK (tw1 a b) (tw2 l d) = mtop ⟨m, l, d, true⟩ a b := by
  rw [mtop_t (A := ⟨m, l, d, true⟩) rfl]
  have n2 : valV ([(Sum.inr "rooms", .ref a), (Sum.inr "sources", .ref b)] : List (Key × V)) (Sum.inr "lines") = none := by rw [valV_neg kq1, valV_neg (Ne.symm kq5)]; rfl
  have n3 : valV ([(Sum.inr "rooms", .ref a), (Sum.inr "sources", .ref b), (Sum.inr "lines", .ref l)] : List (Key × V)) (Sum.inr "drains") = none := by rw [valV_neg kq2, valV_neg (Ne.symm kq6), valV_neg kq4]; rfl
  show putK (putK ([(Sum.inr "rooms", .ref a), (Sum.inr "sources", .ref b)] : List (Key × V)) (Sum.inr "lines") (.ref l)) (Sum.inr "drains") (.ref d) = _
  rw [putK_new _ n2]
  show putK ([(Sum.inr "rooms", .ref a), (Sum.inr "sources", .ref b), (Sum.inr "lines", .ref l)] : List (Key × V)) (Sum.inr "drains") (.ref d) = _
  rw [putK_new _ n3]
  rfl
end SM
namespace SM
open PySem PySem.Spec PyProof.Rows L2
/-- one more layout with its book -/
theorem Fam.snoc {L : Addr} {G G1 : Hp} {bt : Addr} {ts : List Addr} {Bs : List LMS} (f : Fam L G bt ts Bs) (s : Same G G1) {x : LMS} (hB : Both L G1 x.1 x.2.1 x.2.2) (fr : ∀ b ∈ msOf x, G b = none) {t : Addr} (ht : G1 t = some (.tup [.ref x.1.p, .ref x.2.1.m])) (ne : ts ≠ []) :
    Fam L (upd G1 bt (.lst ((ts ++ [t]).map V.ref))) bt (ts ++ [t]) (Bs ++ [x]) ∧ Keep [bt] G1 (upd G1 bt (.lst ((ts ++ [t]).map V.ref))) := by
  have f1 := f.same s
  have k : Keep [bt] G1 (upd G1 bt (.lst ((ts ++ [t]).map V.ref))) := Keep.at f1.top (by simp) (fun _ z => by cases z) (fun _ _ _ z => by cases z) fun xs z => by
    cases z
    cases ts with
    | nil => exact absurd rfl ne
    | cons a r => rfl
  have offB : ∀ {y : LMS}, Both L G1 y.1 y.2.1 y.2.2 → ∀ b ∈ [bt], b ∉ y.1.ms ∧ b ∉ y.2.1.ms := fun {y} c b hb => by
    rw [List.mem_singleton.mp hb]
    have q := c.nolist f1.top
    exact ⟨fun w => q (List.mem_append_left _ w), fun w => q (List.mem_append_right _ w)⟩
  refine ⟨⟨upd_same, by rw [List.length_append, List.length_append, f.len]; rfl, fun i y e => ?_, fun i j y z n e1 e2 => ?_⟩, k⟩
  · by_cases l : i < Bs.length
    · rw [List.getElem?_append_left l] at e
      obtain ⟨t', a, b, c⟩ := f1.at_ i y e
      exact ⟨t', by rw [List.getElem?_append_left (by rw [f.len]; exact l)]; exact a, k.tup _ _ b, c.keep k (offB c)⟩
    · have e' := e
      rw [List.getElem?_append_right (by omega)] at e'
      have z : i - Bs.length = 0 := by
        have := (List.getElem?_eq_some_iff.mp e').1
        simpa using this
      rw [z] at e'
      cases e'
      refine ⟨t, ?_, k.tup _ _ ht, hB.keep k (offB hB)⟩
      rw [List.getElem?_append_right (by rw [f.len]; omega), f.len, z]
      rfl
  · have there : ∀ {y : LMS}, (∃ t, ts[0]? = t) → Both L G y.1 y.2.1 y.2.2 → ∀ b ∈ msOf y, G b ≠ none := fun {y} _ c b hb z => by
      rcases List.mem_append.mp hb with w | w
      · obtain ⟨kk, q⟩ := c.lay.dks b w
        rw [q] at z
        cases z
      · obtain ⟨kk, q⟩ := c.md.dks b w
        rw [q] at z
        cases z
    have last : ∀ {i : Nat} {y : LMS}, (Bs ++ [x])[i]? = some y → ¬ i < Bs.length → y = x ∧ i = Bs.length := fun {i y} e l => by
      have e' := e
      rw [List.getElem?_append_right (by omega)] at e'
      have z : i - Bs.length = 0 := by
        have := (List.getElem?_eq_some_iff.mp e').1
        simpa using this
      rw [z] at e'
      cases e'
      exact ⟨rfl, by omega⟩
    by_cases l1 : i < Bs.length
    · have e1' := e1
      rw [List.getElem?_append_left l1] at e1'
      obtain ⟨t1, _, _, c1⟩ := f.at_ i y e1'
      by_cases l2 : j < Bs.length
      · have e2' := e2
        rw [List.getElem?_append_left l2] at e2'
        exact f.apart i j y z n e1' e2'
      · obtain ⟨rfl, _⟩ := last e2 l2
        exact fun b hb w => there ⟨_, rfl⟩ c1 b hb (fr b w)
    · obtain ⟨rfl, i1⟩ := last e1 l1
      by_cases l2 : j < Bs.length
      · have e2' := e2
        rw [List.getElem?_append_left l2] at e2'
        obtain ⟨t2, _, _, c2⟩ := f.at_ j z e2'
        exact fun b hb w => there ⟨_, rfl⟩ c2 b w (fr b hb)
      · obtain ⟨_, i2⟩ := last e2 l2
        omega
theorem Rest.kept {G G' : Hp} {p q rm dv c : Addr} {rs ds ws : List Str} {ms : List Addr} (h : Rest G p q rm dv c rs ds ws) (k : Keep ms G G') (n : p ∉ ms) : Rest G' p q rm dv c rs ds ws := h.keep k (h.bag.kept k n)
theorem both_twin {L : Addr} {H1 H2 : Hp} {A : LA} {M : MA} {S : LS} (hL : LayAt L H1 A S) (s : Same H1 H2) (hM : MdAt H2 M S) (o : S.Ok) (f : ∀ b ∈ M.ms, H1 b = none) : Both L H2 A M S :=
  ⟨hL.same s, hM, o, fun b hb w => by
    obtain ⟨kk, q⟩ := hL.dks b hb
    rw [f b w] at q
    cases q⟩
end SM
/-! Part R: wrong arguments. -/
namespace SM
open PySem PySem.Spec PyProof.Rows L2
theorem log2_30 {m : Int} (h0 : 0 < m) (h1 : m < 1073741824) : m.natAbs.log2 < 9000 := Nat.lt_of_lt_of_le (PySem.Flt.log2_lt_of (k := 30) (by decide) (by omega)) (by decide)
def spTakeW : Sp := fun vs H Q _ => ∃ (p q : Addr) (m : Int), vs = [.ref p, .int m] ∧ Bag H p q ∧ 0 < m ∧ m.natAbs.log2 < 9000 ∧
  ∀ (v : Int) (H' : Hp), 0 ≤ v → v < m → Bag H' p q → But p H H' → Q (.int v) H'
/-- what is of a type stays so -/
def TyK (K : PySem.W.Frag) (H H' : Hp) : Prop := ∀ x t, TyX K H x t → TyX K H' x t
theorem TyK.of {K : PySem.W.Frag} {H H' : Hp} (s : Same H H') : TyK K H H' := fun _ _ h => tyX_same h s
theorem TyK.trans {K : PySem.W.Frag} {H H1 H2 : Hp} (a : TyK K H H1) (b : TyK K H1 H2) : TyK K H H2 := fun x t h => b x t (a x t h)
theorem TyK.lst {K : PySem.W.Frag} {H H' : Hp} {d : Addr} {xs ys : List V} (h : H d = some (.lst xs)) (h' : H' d = some (.lst ys)) (o : ∀ b, b ≠ d → H' b = H b) : TyK K H H' := by
  have off : ∀ {a : Addr} {u : HO}, H a = some u → (∀ zs, u ≠ .lst zs) → H' a = some u := fun {a u} e n => by
    rw [o a fun z => by rw [z, h] at e; exact n xs (Option.some.inj e).symm]
    exact e
  intro x t ty
  cases ty with
  | base b =>
    refine .base ?_
    cases b with
    | non => exact .non
    | bl b => exact .bl b
    | int i => exact .int i
    | str z => exact .str z
    | flt z => exact .flt z
    | @lst a zs e =>
      by_cases z : a = d
      · rw [z]
        exact .lst h'
      · exact .lst ((o a z).trans e)
    | frz e => exact .frz (off e fun _ z => by cases z)
    | tup e => exact .tup (off e fun _ z => by cases z)
    | dK e => exact .dK (off e fun _ z => by cases z)
    | dT e => exact .dT (off e fun _ z => by cases z)
    | ins e c1 c2 c3 c4 c5 => exact .ins (off e fun _ z => by cases z) c1 c2 c3 c4 c5
  | byt b => exact .byt b
  | set e => exact .set (off e fun _ z => by cases z)
  | kList a b => exact .kList a b
  | kTuple a b => exact .kTuple a b
  | kDict a b => exact .kDict a b
  | fTuple e => exact .fTuple (off e fun _ z => by cases z)
  | fDict e => exact .fDict (off e fun _ z => by cases z)
theorem TyK.bag {K : PySem.W.Frag} {H H' : Hp} {p q : Addr} (B : Bag H p q) (B' : Bag H' p q) (o : But p H H') : TyK K H H' := by
  obtain ⟨_, _, _, _, B⟩ := B
  obtain ⟨_, _, _, _, B'⟩ := B'
  exact TyK.lst B.top B'.top o
theorem NameQ.tyk {K : PySem.W.Frag} {H H' : Hp} {x : V} {b : Bool} (h : NameQ K H x b) (e : TyK K H H') : NameQ K H' x b := by
  rcases h with h | ⟨h, t, ty, q⟩
  · exact .inl h
  · exact .inr ⟨h, t, e _ _ ty, q⟩
theorem CostQ.tyk {K : PySem.W.Frag} {H H' : Hp} {x : V} {b : Bool} (h : CostQ K H x b) (e : TyK K H H') : CostQ K H' x b := by
  rcases h with h | ⟨h, t, i, j, ty, q⟩
  · exact .inl h
  · exact .inr ⟨h, t, i, j, e _ _ ty, q⟩
/-! no names, no costs -/
section
variable {K : PySem.W.Frag} {H : Hp}
theorem noName_str {z : Str} (h : okName z = false) (l : z.cps.size ≤ 100) : NameQ K H (.str z) false := .inl ⟨z, rfl, Nat.le_trans l (by decide), h.symm⟩
theorem noName_int (i : Int) : NameQ K H (.int i) false := .inr ⟨rfl, _, .base (.int i), kit_ty (by decide +kernel)⟩
theorem noName_bl (b : Bool) : NameQ K H (.bl b) false := .inr ⟨rfl, _, .base (.bl b), kit_ty (by decide +kernel)⟩
theorem noName_non : NameQ K H .non false := .inr ⟨rfl, _, .base .non, kit_ty (by decide +kernel)⟩
theorem noName_lst {a : Addr} {xs : List V} (e : H a = some (.lst xs)) : NameQ K H (.ref a) false := .inr ⟨rfl, _, .base (.lst e), kit_ty (by decide +kernel)⟩
theorem noName_tup {a : Addr} {xs : List V} (e : H a = some (.tup xs)) : NameQ K H (.ref a) false := .inr ⟨rfl, _, .base (.tup e), kit_ty (by decide +kernel)⟩
theorem noName_dK {a : Addr} {xs : List (Key × V)} (e : H a = some (.dK xs)) : NameQ K H (.ref a) false := .inr ⟨rfl, _, .base (.dK e), kit_ty (by decide +kernel)⟩
theorem noCost_int {i : Int} (h : okCost i = false) : CostQ K H (.int i) false := .inl ⟨i, rfl, h.symm⟩
theorem noCost_bl (b : Bool) : CostQ K H (.bl b) false := .inr ⟨rfl, _, true, true, .base (.bl b), kit_ty (by decide +kernel), kit_ty (by decide +kernel), rfl⟩
theorem noCost_non : CostQ K H .non false := .inr ⟨rfl, _, false, false, .base .non, kit_ty (by decide +kernel), kit_ty (by decide +kernel), rfl⟩
theorem noCost_str (z : Str) : CostQ K H (.str z) false := .inr ⟨rfl, _, false, false, .base (.str z), kit_ty (by decide +kernel), kit_ty (by decide +kernel), rfl⟩
theorem noCost_lst {a : Addr} {xs : List V} (e : H a = some (.lst xs)) : CostQ K H (.ref a) false := .inr ⟨rfl, _, false, false, .base (.lst e), kit_ty (by decide +kernel), kit_ty (by decide +kernel), rfl⟩
theorem noCost_tup {a : Addr} {xs : List V} (e : H a = some (.tup xs)) : CostQ K H (.ref a) false := .inr ⟨rfl, _, false, false, .base (.tup e), kit_ty (by decide +kernel), kit_ty (by decide +kernel), rfl⟩
theorem noCost_dK {a : Addr} {xs : List (Key × V)} (e : H a = some (.dK xs)) : CostQ K H (.ref a) false := .inr ⟨rfl, _, false, false, .base (.dK e), kit_ty (by decide +kernel), kit_ty (by decide +kernel), rfl⟩
end
def spBadName (K : PySem.W.Frag) : Sp := fun vs H Q _ => ∃ (p q : Addr), vs = [.ref p] ∧ Bag H p q ∧ ∀ (v : V) (H' : Hp), NameQ K H' v false → Bag H' p q → Keep [p] H H' → TyK K H H' → Q v H'
def spBadCost (K : PySem.W.Frag) : Sp := fun vs H Q _ => ∃ (p q : Addr), vs = [.ref p] ∧ Bag H p q ∧ ∀ (v : V) (H' : Hp), CostQ K H' v false → Bag H' p q → Keep [p] H H' → TyK K H H' → Q v H'
/-- words of one name -/
def W1s : List Str := ["add_room", "add_source", "take_room", "take_line", "take_drain", "take_source"]
def W3s : List Str := ["line", "drain", "lines_at"]
/-- a deed, or a question -/
def DoorV (xs : List V) : Prop := (∃ D : Deed, D.Good ∧ xs = D.vs) ∨ ∃ (w z : Str), w ∈ W3s ∧ okName z = true ∧ xs = [.str w, .str z]
def spAnyDoor : Sp := fun vs H Q _ => ∃ (p q a b : Addr) (rs ds : List Str), vs = [.ref p, .ref a, .ref b] ∧ Bag H p q ∧ NamesAt H a rs ∧ NamesAt H b ds ∧ ∀ (t : Addr) (xs : List V) (H' : Hp), DoorV xs → H' t = some (.tup xs) → Bag H' p q → Keep [p] H H' → Q (.ref t) H'
/-- a deed or a question with a first wrong argument at at_ -/
inductive Spo (K : PySem.W.Frag) (H : Hp) : List V → Nat → Prop where
  | one {w : Str} {x : V} (hw : w ∈ W1s ∨ w ∈ W3s) (n : NameQ K H x false) : Spo K H [.str w, x] 0
  | dr {x y : V} {b c : Bool} {j : Nat} (n : NameQ K H x b) (m : NameQ K H y c) (h : (b = false ∧ j = 0) ∨ (b = true ∧ c = false ∧ j = 1)) : Spo K H [.str "add_drain", x, y] j
  | ln {x y z u : V} {b1 b2 b3 b4 : Bool} {j : Nat} (n1 : NameQ K H x b1) (n2 : NameQ K H y b2) (n3 : NameQ K H z b3) (n4 : CostQ K H u b4)
      (h : (b1 = false ∧ j = 0) ∨ (b1 = true ∧ b2 = false ∧ j = 1) ∨ (b1 = true ∧ b2 = true ∧ (b3 = false ∨ z = y) ∧ j = 2) ∨ (b1 = true ∧ b2 = true ∧ b3 = true ∧ z ≠ y ∧ b4 = false ∧ j = 3)) : Spo K H [.str "add_line", x, y, z, u] j
theorem Spo.tyk {K : PySem.W.Frag} {H H' : Hp} {xs : List V} {j : Nat} (h : Spo K H xs j) (e : TyK K H H') : Spo K H' xs j := by
  cases h with
  | one hw n => exact .one hw (n.tyk e)
  | dr n m h => exact .dr (n.tyk e) (m.tyk e) h
  | ln a b c d h => exact .ln (a.tyk e) (b.tyk e) (c.tyk e) (d.tyk e) h
def spSpoilt (K : PySem.W.Frag) : Sp := fun vs H Q _ => ∃ (p q t : Addr) (xs : List V), vs = [.ref p, .ref t] ∧ Bag H p q ∧ DoorV xs ∧ H t = some (.tup xs) ∧
  ∀ (r t' : Addr) (ys : List V) (j : Nat) (H' : Hp), Spo K H' ys j → H' t' = some (.tup ys) → H' r = some (.tup [.ref t', .int (j : Int)]) → j ≤ 3 → Bag H' p q → Keep [p] H H' → Q (.ref r) H'
/-- _law_call of a wrong deed -/
def spCallW (K : PySem.W.Frag) (C : Nat → Addr) (L : Addr) : Sp := fun vs H Q E => ∃ (A : LA) (S : LS) (t : Addr) (xs : List V) (j : Nat), vs = [.ref A.p, .ref t] ∧ LayAt L H A S ∧ S.Ok ∧ H t = some (.tup xs) ∧ Spo K H xs j ∧ (∀ w x, xs = [.str w, x] → w ∈ W1s) ∧ Ref C 0 (.int (j : Int)) H E
def spClassW (C : Nat → Addr) : Addr → Value → Option Addr → Sp := fun a c d vs H Q _ => ∃ (i : Int) (dd : Addr), c = .ref (C 0) ∧ d = some dd ∧ H dd = some (.xd [("at", .int i)]) ∧ vs = [.ref a] ∧
  ∀ (H' : Hp) (t : Addr), Same H H' → H' t = some (.tup [.str "Wrong", .int i]) → Q (.ref t) H'
def spAskedW (K : PySem.W.Frag) (L : Addr) : Sp := fun vs H Q _ => ∃ (A : LA) (S : LS) (t : Addr) (xs : List V) (j : Nat), vs = [.ref A.p, .ref t] ∧ LayAt L H A S ∧ S.Ok ∧ H t = some (.tup xs) ∧ Spo K H xs j ∧
  ∀ (H' : Hp) (t1 t2 : Addr), Same H H' → H' t1 = some (.tup [.str "refused", .ref t2]) → H' t2 = some (.tup [.str "Wrong", .int (j : Int)]) → Q (.ref t1) H'
end SM
namespace SM
open PySem PySem.Spec PyProof.Rows L2
/-! a deed while it is spoilt -/
def BadAt (K : PySem.W.Frag) (H : Hp) (ws : List Nat) (ys : List V) (j : Nat) (v : V) : Prop := (j = 3 ∧ CostQ K H v false) ∨ (j ≠ 3 ∧ NameQ K H v false) ∨ (j = 2 ∧ 1 ∉ ws ∧ ys[2]? = some v)
structure SpSt (K : PySem.W.Frag) (H : Hp) (xs0 : List V) (n first i : Nat) (ys : List V) (ws : List Nat) : Prop where
  len : ys.length = n + 1
  hd : ys[0]? = xs0[0]?
  good : ∀ j, j < n → j ∉ ws → ys[j + 1]? = xs0[j + 1]?
  bad : ∀ j, j ∈ ws → j < i ∧ ∃ v, ys[j + 1]? = some v ∧ BadAt K H ws ys j v
  up : ws.Pairwise (· < ·)
  fst : first < i → first ∈ ws
theorem BadAt.tyk {K : PySem.W.Frag} {H H' : Hp} {ws : List Nat} {ys : List V} {j : Nat} {v : V} (h : BadAt K H ws ys j v) (e : TyK K H H') : BadAt K H' ws ys j v := by
  rcases h with ⟨a, b⟩ | ⟨a, b⟩ | h
  · exact .inl ⟨a, b.tyk e⟩
  · exact .inr (.inl ⟨a, b.tyk e⟩)
  · exact .inr (.inr h)
theorem SpSt.tyk {K : PySem.W.Frag} {H H' : Hp} {xs0 : List V} {n first i : Nat} {ys : List V} {ws : List Nat} (h : SpSt K H xs0 n first i ys ws) (e : TyK K H H') : SpSt K H' xs0 n first i ys ws :=
  { len := h.len, hd := h.hd, good := h.good, up := h.up, fst := h.fst
    bad := fun j hj => by
      obtain ⟨a, v, b, c⟩ := h.bad j hj
      exact ⟨a, v, b, c.tyk e⟩ }
theorem SpSt.skip {K : PySem.W.Frag} {H : Hp} {xs0 : List V} {n first i : Nat} {ys : List V} {ws : List Nat} (h : SpSt K H xs0 n first i ys ws) (ne : i ≠ first) : SpSt K H xs0 n first (i + 1) ys ws :=
  { len := h.len, hd := h.hd, good := h.good, up := h.up, fst := fun l => h.fst (by omega)
    bad := fun j hj => by
      obtain ⟨a, v, b, c⟩ := h.bad j hj
      exact ⟨by omega, v, b, c⟩ }
theorem SpSt.put {K : PySem.W.Frag} {H : Hp} {xs0 : List V} {n first i : Nat} {ys : List V} {ws : List Nat} (h : SpSt K H xs0 n first i ys ws) (hi : i < n) {v : V} (b : (i = 3 ∧ CostQ K H v false) ∨ (i ≠ 3 ∧ NameQ K H v false) ∨ (i = 2 ∧ 1 ∉ ws ∧ ys[2]? = some v)) :
    SpSt K H xs0 n first (i + 1) (ys.set (i + 1) v) (ws ++ [i]) := by
  have lt : i + 1 < ys.length := by rw [h.len]; omega
  refine ⟨by rw [List.length_set]; exact h.len, ?_, fun j hj nj => ?_, fun j hj => ?_, ?_, fun l => ?_⟩
  · rw [List.getElem?_set_ne (by omega)]
    exact h.hd
  · have n1 : j ≠ i := fun z => nj (by simp [z])
    have n2 : j ∉ ws := fun z => nj (by simp [z])
    rw [List.getElem?_set_ne (by omega)]
    exact h.good j hj n2
  · rcases List.mem_append.mp hj with hj | hj
    · obtain ⟨a, u, c, d⟩ := h.bad j hj
      refine ⟨by omega, u, by rw [List.getElem?_set_ne (by omega)]; exact c, ?_⟩
      rcases d with d | d | ⟨d1, d2, d3⟩
      · exact .inl d
      · exact .inr (.inl d)
      · refine .inr (.inr ⟨d1, fun z => ?_, by rw [List.getElem?_set_ne (by omega)]; exact d3⟩)
        rcases List.mem_append.mp z with z | z
        · exact d2 z
        · have := List.mem_singleton.mp z
          omega
    · rw [List.mem_singleton.mp hj]
      refine ⟨by omega, v, by rw [List.getElem?_set_self lt], ?_⟩
      rcases b with b | b | ⟨b1, b2, b3⟩
      · exact .inl b
      · exact .inr (.inl b)
      · refine .inr (.inr ⟨b1, fun z => ?_, by rw [List.getElem?_set_ne (by omega)]; exact b3⟩)
        rcases List.mem_append.mp z with z | z
        · exact b2 z
        · have := List.mem_singleton.mp z
          omega
  · refine List.pairwise_append.mpr ⟨h.up, List.pairwise_singleton _ _, fun a ha b hb => ?_⟩
    rw [List.mem_singleton.mp hb]
    exact (h.bad a ha).1
  · by_cases z : first < i
    · exact List.mem_append_left _ (h.fst z)
    · have : first = i := by omega
      rw [this]
      simp
theorem SpSt.start {K : PySem.W.Frag} {H : Hp} {xs0 : List V} {n first : Nat} (l : xs0.length = n + 1) : SpSt K H xs0 n first 0 xs0 [] :=
  { len := l, hd := rfl, good := fun _ _ _ => rfl, bad := fun _ h => (nomatch h), up := List.Pairwise.nil, fst := fun h => absurd h (Nat.not_lt_zero _) }
theorem door_len {xs : List V} (h : DoorV xs) : xs.length = 2 ∨ xs.length = 3 ∨ xs.length = 5 := by
  rcases h with ⟨D, g, rfl⟩ | ⟨w, z, _, _, rfl⟩
  · cases D <;> simp [Deed.vs]
  · exact .inl rfl
theorem spo_one {K : PySem.W.Frag} {H : Hp} {w z : Str} {first : Nat} {ys : List V} {ws : List Nat} {j : Nat} (hw : w ∈ W1s ∨ w ∈ W3s) (h : SpSt K H [.str w, .str z] 1 first 1 ys ws) (hj : j ∈ ws) : Spo K H ys j := by
  obtain ⟨a, v, b, c⟩ := h.bad j hj
  have j0 : j = 0 := by omega
  subst j0
  have l := h.len
  match ys, l, b, h.hd with
  | [y0, y1], _, b, e0 =>
    have e0' : y0 = .str w := by simpa using e0
    have e1 : y1 = v := by simpa using b
    subst e0' e1
    rcases c with ⟨c, _⟩ | ⟨_, c⟩ | ⟨c, _⟩
    · omega
    · exact .one hw c
    · omega
theorem min_at {ws : List Nat} {j : Nat} (h : ws[0]? = some j) (up : ws.Pairwise (· < ·)) : j ∈ ws ∧ ∀ k, k < j → k ∉ ws := by
  match ws, h, up with
  | a :: r, h, up =>
    have e : a = j := by simpa using h
    subst e
    refine ⟨List.mem_cons_self, fun k hk hm => ?_⟩
    rcases List.mem_cons.mp hm with z | z
    · omega
    · have := (List.pairwise_cons.mp up).1 k z
      omega
theorem spo_dr {K : PySem.W.Frag} {H : Hp} {x r : Str} {first : Nat} {ys : List V} {ws : List Nat} {j : Nat} (gx : okName x = true) (gr : okName r = true) (h : SpSt K H [.str "add_drain", .str x, .str r] 2 first 2 ys ws) (hj : ws[0]? = some j) : Spo K H ys j := by
  obtain ⟨mj, mn⟩ := min_at hj h.up
  have l := h.len
  have bj := (h.bad j mj).1
  match ys, l, h with
  | [y0, y1, y2], _, h =>
    have e0 : y0 = .str "add_drain" := by simpa using h.hd
    subst e0
    have q0 : ∃ b, NameQ K H y1 b ∧ (0 ∈ ws → b = false) ∧ (0 ∉ ws → b = true) := by
      by_cases z : 0 ∈ ws
      · obtain ⟨_, v, b, c⟩ := h.bad 0 z
        have e1 : y1 = v := by simpa using b
        subst e1
        rcases c with ⟨c, _⟩ | ⟨_, c⟩ | ⟨c, _⟩
        · omega
        · exact ⟨false, c, fun _ => rfl, fun w => absurd z w⟩
        · omega
      · have e1 : y1 = .str x := by simpa using h.good 0 (by decide) z
        subst e1
        exact ⟨true, NameQ.of gx, fun w => absurd w z, fun _ => rfl⟩
    have q1 : ∃ b, NameQ K H y2 b ∧ (1 ∈ ws → b = false) := by
      by_cases z : 1 ∈ ws
      · obtain ⟨_, v, b, c⟩ := h.bad 1 z
        have e1 : y2 = v := by simpa using b
        subst e1
        rcases c with ⟨c, _⟩ | ⟨_, c⟩ | ⟨c, _⟩
        · omega
        · exact ⟨false, c, fun _ => rfl⟩
        · omega
      · have e1 : y2 = .str r := by simpa using h.good 1 (by decide) z
        subst e1
        exact ⟨true, NameQ.of gr, fun w => absurd w z⟩
    obtain ⟨b, nb, b1, b2⟩ := q0
    obtain ⟨c, nc, c1⟩ := q1
    refine .dr nb nc ?_
    have : j = 0 ∨ j = 1 := by omega
    rcases this with rfl | rfl
    · exact .inl ⟨b1 mj, rfl⟩
    · exact .inr ⟨b2 (mn 0 (by decide)), c1 mj, rfl⟩
theorem spo_ln {K : PySem.W.Frag} {H : Hp} {x a b : Str} {c : Int} {first : Nat} {ys : List V} {ws : List Nat} {j : Nat} (g : (Deed.addLine x a b c).Good) (h : SpSt K H [.str "add_line", .str x, .str a, .str b, .int c] 4 first 4 ys ws) (hj : ws[0]? = some j) : Spo K H ys j := by
  obtain ⟨mj, mn⟩ := min_at hj h.up
  have l := h.len
  have bj := (h.bad j mj).1
  match ys, l, h with
  | [y0, y1, y2, y3, y4], _, h =>
    have e0 : y0 = .str "add_line" := by simpa using h.hd
    subst e0
    have q0 : ∃ b, NameQ K H y1 b ∧ (0 ∈ ws → b = false) ∧ (0 ∉ ws → b = true) := by
      by_cases z : 0 ∈ ws
      · obtain ⟨_, v, b, c⟩ := h.bad 0 z
        have e1 : y1 = v := by simpa using b
        subst e1
        rcases c with ⟨c, _⟩ | ⟨_, c⟩ | ⟨c, _⟩
        · omega
        · exact ⟨false, c, fun _ => rfl, fun w => absurd z w⟩
        · omega
      · have e1 : y1 = .str x := by simpa using h.good 0 (by decide) z
        subst e1
        exact ⟨true, NameQ.of g.1, fun w => absurd w z, fun _ => rfl⟩
    have q1 : ∃ b, NameQ K H y2 b ∧ (1 ∈ ws → b = false) ∧ (1 ∉ ws → b = true ∧ y2 = .str a) := by
      by_cases z : 1 ∈ ws
      · obtain ⟨_, v, b, c⟩ := h.bad 1 z
        have e1 : y2 = v := by simpa using b
        subst e1
        rcases c with ⟨c, _⟩ | ⟨_, c⟩ | ⟨c, _⟩
        · omega
        · exact ⟨false, c, fun _ => rfl, fun w => absurd z w⟩
        · omega
      · have e1 : y2 = .str a := by simpa using h.good 1 (by decide) z
        subst e1
        exact ⟨true, NameQ.of g.2.1, fun w => absurd w z, fun _ => ⟨rfl, rfl⟩⟩
    have q2 : ∃ t, NameQ K H y3 t ∧ (2 ∈ ws → t = false ∨ y3 = y2) ∧ (2 ∉ ws → t = true ∧ y3 = .str b) := by
      by_cases z : 2 ∈ ws
      · obtain ⟨_, v, u, c⟩ := h.bad 2 z
        have e1 : y3 = v := by simpa using u
        subst e1
        rcases c with ⟨c, _⟩ | ⟨_, c⟩ | ⟨_, c1, c2⟩
        · omega
        · exact ⟨false, c, fun _ => .inl rfl, fun w => absurd z w⟩
        · have e2 : y2 = y3 := by simpa using c2
          have e3 : y2 = .str a := by simpa using h.good 1 (by decide) c1
          exact ⟨true, by rw [← e2, e3]; exact NameQ.of g.2.1, fun _ => .inr e2.symm, fun w => absurd z w⟩
      · have e1 : y3 = .str b := by simpa using h.good 2 (by decide) z
        subst e1
        exact ⟨true, NameQ.of g.2.2.1, fun w => absurd w z, fun _ => ⟨rfl, rfl⟩⟩
    have q3 : ∃ b, CostQ K H y4 b ∧ (3 ∈ ws → b = false) := by
      by_cases z : 3 ∈ ws
      · obtain ⟨_, v, b, c⟩ := h.bad 3 z
        have e1 : y4 = v := by simpa using b
        subst e1
        rcases c with ⟨_, c⟩ | ⟨c, _⟩ | ⟨c, _⟩
        · exact ⟨false, c, fun _ => rfl⟩
        · omega
        · omega
      · have e1 : y4 = .int c := by simpa using h.good 3 (by decide) z
        subst e1
        exact ⟨true, .inl ⟨c, rfl, g.2.2.2.2.symm⟩, fun w => absurd w z⟩
    obtain ⟨b0, n0, p0, r0⟩ := q0
    obtain ⟨b1, n1, p1, r1⟩ := q1
    obtain ⟨b2, n2, p2, r2⟩ := q2
    obtain ⟨b3, n3, p3⟩ := q3
    refine .ln n0 n1 n2 n3 ?_
    have : j = 0 ∨ j = 1 ∨ j = 2 ∨ j = 3 := by omega
    rcases this with rfl | rfl | rfl | rfl
    · exact .inl ⟨p0 mj, rfl⟩
    · exact .inr (.inl ⟨r0 (mn 0 (by decide)), p1 mj, rfl⟩)
    · exact .inr (.inr (.inl ⟨r0 (mn 0 (by decide)), (r1 (mn 1 (by decide))).1, p2 mj, rfl⟩))
    · refine .inr (.inr (.inr ⟨r0 (mn 0 (by decide)), (r1 (mn 1 (by decide))).1, (r2 (mn 2 (by decide))).1, fun e => ?_, p3 mj, rfl⟩))
      rw [(r1 (mn 1 (by decide))).2, (r2 (mn 2 (by decide))).2] at e
      injection e with e
      exact g.2.2.2.1 e.symm
theorem SpSt.done {K : PySem.W.Frag} {H : Hp} {xs0 : List V} {n first : Nat} {ys : List V} {ws : List Nat} (d : DoorV xs0) (l : xs0.length = n + 1) (h : SpSt K H xs0 n first n ys ws) (f : first < n) : ∃ j, ws[0]? = some j ∧ Spo K H ys j ∧ j ≤ 3 := by
  have ne : 0 < ws.length := List.length_pos_of_mem (h.fst f)
  refine ⟨ws[0], List.getElem?_eq_getElem ne, ?_⟩
  have e : ws[0]? = some ws[0] := List.getElem?_eq_getElem ne
  have m : ws[0] ∈ ws := List.getElem_mem _
  have bj := (h.bad _ m).1
  generalize ws[0] = j at e m bj
  have one : ∀ {w z : Str}, (w ∈ W1s ∨ w ∈ W3s) → xs0 = [.str w, .str z] → Spo K H ys j ∧ j ≤ 3 := fun {w z} hw e0 => by
    subst e0
    have n1 : n = 1 := by simp at l; omega
    subst n1
    exact ⟨spo_one hw h m, by omega⟩
  rcases d with ⟨D, g, rfl⟩ | ⟨w, z, hw, _, rfl⟩
  · cases D with
    | addRoom x => exact one (.inl (by decide +kernel)) rfl
    | addLine x a b c =>
      have n1 : n = 4 := by simp [Deed.vs] at l; omega
      subst n1
      exact ⟨spo_ln g h e, by omega⟩
    | addDrain x r =>
      have n1 : n = 2 := by simp [Deed.vs] at l; omega
      subst n1
      exact ⟨spo_dr g.1 g.2 h e, by omega⟩
    | addSource x => exact one (.inl (by decide +kernel)) rfl
    | takeRoom x => exact one (.inl (by decide +kernel)) rfl
    | takeLine x => exact one (.inl (by decide +kernel)) rfl
    | takeDrain x => exact one (.inl (by decide +kernel)) rfl
    | takeSource x => exact one (.inl (by decide +kernel)) rfl
  · exact one (.inr hw) rfl
abbrev wI (j : Nat) : V := .int (0 + (j : Int))
theorem inV_ints (i : Int) : ∀ ws : List Nat, inV (.int i) (ws.map wI) = decide (∃ w ∈ ws, (0 + (w : Int)) = i)
  | [] => by simp [inV]
  | x :: xs => by
    have ih := inV_ints i xs
    unfold inV at ih ⊢
    rw [List.map_cons, List.any_cons, ih]
    show (decide (0 + (x : Int) = i) || decide (∃ w ∈ xs, (0 + (w : Int)) = i)) = _
    rw [← Bool.decide_or]
    refine decide_eq_decide.mpr ⟨fun h => ?_, fun ⟨w, hw, e⟩ => ?_⟩
    · rcases h with h | ⟨w, hw, e⟩
      · exact ⟨x, List.mem_cons_self, h⟩
      · exact ⟨w, List.mem_cons_of_mem _ hw, e⟩
    · rcases List.mem_cons.mp hw with rfl | hw
      · exact .inl e
      · exact .inr ⟨w, hw, e⟩
end SM
namespace SM
open PySem PySem.Spec PyProof.Rows L2
theorem ix_at {n j : Nat} (h : j < n) : ixN n ((j : Nat) : Int) = some j := by
  unfold ixN
  rw [if_pos (Int.natCast_nonneg j), if_pos (by omega), Int.toNat_natCast]
theorem flat_wI (ws : List Nat) : (ws.map wI).all flatV = true := by
  rw [List.all_map]
  exact List.all_eq_true.mpr fun _ _ => rfl
theorem Bag.tupne {H : Hp} {p q t : Addr} {xs : List V} (B : Bag H p q) (h : H t = some (.tup xs)) : t ≠ p := by
  obtain ⟨_, _, _, _, B⟩ := B
  exact ne_of h B.top (by intro z; cases z)
end SM
namespace SM
open PySem PySem.Spec PyProof.Rows L2
theorem NameQ.no {K : PySem.W.Frag} {H : Hp} {z : Str} (h : NameQ K H (.str z) false) (g : okName z = true) : False := by
  rcases h with ⟨z', e, _, q⟩ | ⟨_, t, ty, q⟩
  · injection e with e
    rw [← e, g] at q
    cases q
  · have y : PySem.W.kitOne K (.type "str") (.type "str") = some true := kit_ty (by decide +kernel)
    cases ty with
    | base b =>
      cases b
      rw [y] at q
      cases q
theorem CostQ.no {K : PySem.W.Frag} {H : Hp} {i : Int} (h : CostQ K H (.int i) false) (g : okCost i = true) : False := by
  rcases h with ⟨i', e, q⟩ | ⟨_, t, a, b, ty, q1, q2, q3⟩
  · injection e with e
    rw [← e, g] at q
    cases q
  · have y1 : PySem.W.kitOne K (.type "int") (.type "int") = some true := kit_ty (by decide +kernel)
    have y2 : PySem.W.kitOne K (.type "int") (.type "bool") = some false := kit_ty (by decide +kernel)
    cases ty with
    | base b =>
      cases b
      rw [y1] at q1
      rw [y2] at q2
      cases q1
      cases q2
      cases q3
end SM
namespace SM
open PySem PySem.Spec PyProof.Rows L2
/-- the body of a try that asks wrongly -/
def tAskW (K : PySem.W.Frag) (C : Nat → Addr) (L : Addr) (W : WX) : TS := fun D σ H => ∃ (La : LA) (S : LS) (t : Addr) (xs : List V) (j : Nat), σ = [some (.ref La.p), some (.ref t), some .non, none] ∧ LayAt L H La S ∧ S.Ok ∧ H t = some (.tup xs) ∧ Spo K H xs j ∧ Ref C 0 (.int (j : Int)) H (WE W σ)
end SM
namespace SM
open PySem PySem.Spec PyProof.Rows L2
def wrongD (j : Nat) : PyData := .tuple [.str "refused", .tuple [.str "Wrong", .int (j : Int)]]
theorem wrong_fine {j : Nat} (h : j ≤ 3) : Fine (wrongD j) := by
  have i := Sm.tup (SmAll.cons (sm_str (z := "Wrong") (by decide +kernel)) (.cons (sm_int (i := (j : Int)) (by omega) (by omega)) .nil))
  exact (Sm.tup (.cons ((sm_str (z := "refused") (by decide +kernel)).mono (k' := 1) (w' := 34) (by decide) (by decide)) (.cons (i.mono (k' := 1) (w' := 34) (by decide) (Nat.le_refl _)) .nil))).fine (by decide) (show 2 * (34 + 1) ≤ 100000 by decide)
end SM
/-! Part T: the set of a list of texts, no two alike. -/
namespace SM
open PySem PySem.Spec PyProof.Rows
section
variable {prog : Program} {w : World} {A : Around} {E : Value → Shared → Prop} {s : Shared}
/-- the set has just the texts zs -/
abbrev TextSet (prog : Program) (w : World) (h : Heap) (a : Addr) (zs : List Str) : Prop := h.SetOf (PySem.strKind prog w) a (fun k => decide (k ∈ zs)) zs.length
theorem TextSet.off {h h' : Heap} {a : Addr} {zs : List Str} (x : TextSet prog w h a zs) (k : ∀ o, h.get? a = some o → h'.get? a = some o) : TextSet prog w h' a zs :=
  let ⟨o, es, ep, tb, e, r⟩ := x
  ⟨o, es, ep, tb, k o e, r⟩
/-- one text more -/
theorem addText {a : Addr} {zs : List Str} {z : Str} {t : Tok} {Q : Bool → Shared → Prop} (x : TextSet prog w s.heap a zs) (new : z ∉ zs) (room : zs.length + 1 < scanBound)
    (h : ∀ b h', Heap.SameBut a s.heap h' → TextSet prog w h' a (zs ++ [z]) → Q b { s with heap := h', toks := s.toks + 1 }) :
    wpAny (model prog w) A (holding [Value.str z t] (setAdd a (.str z t))) Q E s :=
  wpAny_holding (wpAny_holding (wpAny_bind (wpAny_pyHash_str
    (wpAny_setAddHashed_of (knd := PySem.strKind prog w) (k := z) (s := { s with toks := s.toks + 1 }) (strKind_is _ _ _ _) rfl x room fun h' sb y => h _ h' sb (SetOf_congr y (fun k => by
        rw [← Bool.decide_or]
        exact decide_eq_decide.mpr (by rw [List.mem_append, List.mem_singleton])) (by
        rw [decide_eq_false new, List.length_append]
        rfl))))))
variable {R : Result → Shared → Prop} {I : Addr} {fp wr : List Addr} {G : Array GenState → Array GenState → Prop} {n : Nat} {P : Nat → Value → Prop} {St : Nat → Shared → Prop}
/-- the loop behind set(xs): what is left, after what was met -/
theorem textsLoop (W : WalksS prog w A.in1 I fp wr G n P St) {b : Addr} (out : b ∉ fp) {all : List Str} (nd : all.Nodup) (ln : all.length = n) (room : n + 1 < scanBound) (hv : ∀ i v, P i v → ∃ z t, all[i]? = some z ∧ v = .str z t) :
    ∀ (left met : List Str), all = met ++ left → ∀ s : Shared, St met.length s → TextSet prog w s.heap b met →
      (∀ s', Moved (b :: wr) G s s' → TextSet prog w s'.heap b all → R (.ok (.ret .none)) s') →
      codeAny (model prog w) A (.builtin "set.update.loop" ⟨[.ref b, .ref I], []⟩) R s
  | [], met, e, s, st, x, k => by
    rw [List.append_nil] at e
    subst e
    rw [ln] at st
    refine codeAny_builtin F.entry_set_update_loop (by
      rw [Around.under_plainId F.plain_set_update_loop]
      exact wpAny_bind (W.done s _ _ st fun s' mv => wpAny_pure (k s' (mv.mono fun c hc => .tail _ hc) (x.off fun o => mv.heap b o fun z => out (W.sub b z)))))
  | z :: left, met, e, s, st, x, k => by
    have at_ : all[met.length]? = some z := by
      rw [e, List.getElem?_append_right (Nat.le_refl _), Nat.sub_self]
      rfl
    have lt : met.length < n := by
      rw [← ln]
      exact (List.getElem?_eq_some_iff.mp at_).1
    have new : z ∉ met := fun m => by
      rw [e] at nd
      exact (List.nodup_append.mp nd).2.2 z m z List.mem_cons_self rfl
    have e2 : all = (met ++ [z]) ++ left := by
      rw [e, List.append_assoc]
      rfl
    refine codeAny_builtin F.entry_set_update_loop (by
      rw [Around.under_plainId F.plain_set_update_loop]
      refine wpAny_bind (W.item met.length s _ _ lt st fun v s1 pv st1 mv => ?_)
      obtain ⟨z', t, ez, rfl⟩ := hv _ v pv
      rw [at_] at ez
      cases ez
      have x1 := x.off fun o => mv.heap b o fun c => out (W.sub b c)
      refine wpAny_bind (addText x1 new (by omega) fun _ h' sb x2 => ?_)
      have st2 := W.frame _ s1 h' (s1.toks + 1) st1 (Nat.le_succ _) fun c hc o eo => (sb.2 c fun q => out (q ▸ hc)).trans eo
      refine wpAny_pure ⟨plainId_quiet F.plain_set_update_loop _, textsLoop W out nd ln room hv left (met ++ [z]) e2 _ (by rw [List.length_append]; exact st2) x2 fun s3 mv3 x3 => k s3 ?_ x3⟩
      refine Moved.trans W.gtrans ((mv.mono fun c hc => .tail _ hc).then_heap (Nat.le_succ _) fun c o hc eo => ?_) mv3
      exact (sb.2 c fun q => hc (q ▸ .head _)).trans eo)
end
end SM
namespace SM
open PySem PySem.Spec PyProof.Rows
section
variable {prog : Program} {w : World} {A : Around} {E : Value → Shared → Prop} {s : Shared}
/-- a set with nothing in it -/
abbrev bareSet (led : Bool) : Obj := { cls := .type "set", dict := none, data := .set #[] 0 (.fresh 0 0 led) }
theorem texts_len : ∀ {us : List Value} {zs : List Str}, StrsAre us zs → zs.length = us.length
  | _, _, .nil => rfl
  | _, _, .cons _ _ r => congrArg (· + 1) (texts_len r)
theorem texts_get : ∀ {us : List Value} {zs : List Str}, StrsAre us zs → ∀ {i : Nat} {v : Value}, us[i]? = some v → ∃ z t, zs[i]? = some z ∧ v = .str z t
  | _, _, .nil, _, _, e => nomatch e
  | _, _, .cons z t _, 0, _, e => ⟨z, t, rfl, (Option.some.inj e).symm⟩
  | _, _, .cons _ _ r, i + 1, _, e => texts_get r (i := i) e
/-- set.__init__ over a list of texts -/
theorem fillTexts {l : Addr} {items : Array Value} {all : List Str} (calm : A.handled = none) (led : Bool) (hl : s.heap.IsList l items) (hi : StrsAre items.toList all) (nd : all.Nodup) (room : all.length + 1 < scanBound) {R : Result → Shared → Prop}
    (k : ∀ h' tk, TextSet prog w h' s.heap.objs.size all → (∀ b o, s.heap.get? b = some o → h'.get? b = some o) → R (.ok (.ret .none)) { s with heap := h', toks := tk }) :
    codeAny (model prog w) A (.call (.builtin "set.__init__") ⟨[.ref s.heap.objs.size, .ref l], []⟩) R { s with heap := s.heap.push (bareSet led) } := by
  have top : (s.heap.push (bareSet led)).get? s.heap.objs.size = some (bareSet led) := Heap.get?_push_size _ rfl
  have ty : Shared.TypeIs { s with heap := s.heap.push (bareSet led) } (.ref s.heap.objs.size) "set" := ⟨_, top, rfl⟩
  have ll : l < s.heap.objs.size := let ⟨_, e, _⟩ := hl; Heap.lt_size e
  have hl1 := hl.push (bareSet led)
  obtain ⟨ol, hol, hcl, nl, hdl⟩ := id hl1
  obtain ⟨oc, od, oa, os'⟩ := ol
  simp only at hcl hdl
  subst hcl
  subst hdl
  refine codeAny_call_builtin PySem.F.called_set.init.plain PySem.F.entry_set_init (check_set_init_1 ty ?_)
  have a1 := PySem.F.sub_list_set
  have a2 := PySem.F.sub_list_frozenset
  have a3 : (Value.type "list" == Value.type "dict") = false := by decide
  unfold Builtin.«set.__init__» noKeywords Builtin.Frozenset.updateFrom
  generalize it : pyIter = iter
  wp_walk
  subst it
  refine wpAny_pyIter_list hl1 (wpAny_bind (wpAny_runValue ?_))
  have big : s.heap.objs.size < (s.heap.push (bareSet led)).objs.size := by
    rw [Heap.size_push]
    exact Nat.lt_succ_self _
  have far : l ≠ (s.heap.push (bareSet led)).objs.size := Nat.ne_of_lt (Nat.lt_trans ll big)
  have W := (Walks.list (prog := prog) (w := w) (A := A.in1.in1) (by simp [calm]) _ l far items).toS
  refine textsLoop W (b := s.heap.objs.size) (fun m => ?_) nd ?_ ?_ (fun i v pv => ?_) all [] rfl _ ⟨⟨_, Heap.get?_push_size _ rfl, rfl, rfl⟩, hl1.push _⟩ ?_ fun s' mv x => ?_
  · rcases List.mem_cons.mp m with e | m
    · exact absurd e (Nat.ne_of_lt big)
    · exact absurd (List.mem_singleton.mp m) (Nat.ne_of_gt ll)
  · rw [texts_len hi, Array.length_toList]
  · rw [texts_len hi, Array.length_toList] at room
    exact room
  · exact texts_get hi (by rw [Array.getElem?_toList]; exact pv)
  · have e := Heap.get?_push_of_some { cls := .type "list_iterator", data := .fields #[.ref l, .int 0 0] } top
    exact SetOf_congr ((setObjOf_fresh (knd := PySem.strKind prog w) led).setOf e (by decide)) (fun k => (decide_eq_false (fun m => nomatch m)).symm) rfl
  · obtain ⟨h', g', d', tk, o'⟩ := s'
    obtain rfl : g' = s.gens := mv.gens
    obtain rfl : d' = s.drawn := mv.drawn
    obtain rfl : o' = s.os := mv.os
    refine wpAny_pure (wpAny_pure (k h' tk x fun b o e => mv.heap b o (fun m => ?_) (Heap.get?_push_of_some _ (Heap.get?_push_of_some _ e))))
    have lt := Heap.lt_size e
    rcases List.mem_cons.mp m with q | m
    · exact Nat.ne_of_lt lt q
    · exact Nat.ne_of_lt (Nat.lt_trans lt big) (List.mem_singleton.mp m)
end
end SM
namespace SM
open PySem PySem.Spec PyProof.Rows
section
variable {prog : Program} {w : World} {A : Around} {E : Value → Shared → Prop} {s : Shared}
/-- set(xs), xs a list of texts, no two alike -/
theorem setTexts {l : Addr} {items : Array Value} {all : List Str} {Q : Value → Shared → Prop} (calm : A.handled = none) (hl : s.heap.IsList l items) (hi : StrsAre items.toList all) (nd : all.Nodup) (room : all.length + 1 < scanBound)
    (k : ∀ h' tk, TextSet prog w h' s.heap.objs.size all → (∀ b o, s.heap.get? b = some o → h'.get? b = some o) → Q (.ref s.heap.objs.size) { s with heap := h', toks := tk }) :
    wpAny (model prog w) A (call (.type "set") [.ref l]) Q E s := by
  obtain ⟨c, tl, p1⟩ := PySem.F.called_set.mro
  have p2 := PySem.F.called_set.made
  have p3 := PySem.F.called_set.sub
  have p4 := PySem.F.called_set.notType
  have p5 := PySem.F.called_set.canCreate
  have p6 := PySem.F.typeCall_set_1 (.ref l)
  have p7 := PySem.F.called_set.init.lookup
  refine wpAny_call (codeAny_of_tree (wpAny_pure ⟨Code.quiet_builtin _ (by decide +kernel), codeAny_builtin PySem.F.entry_type_call (by
    rw [Around.under_plain (weight_type_call_type "set" [.ref l] []) rfl]
    repeat (any_goals (first | assumption | wp_step))
    refine codeAny_mono (code_set_new_1 (.ref l) (E := E) (Q₁ := fun o u => ∃ led, o = .ref s.heap.objs.size ∧ u = { s with heap := s.heap.push (bareSet led) }) fun led => ⟨led, rfl, rfl⟩) fun r u hr => ?_
    match r, hr with
    | .error _, hr => exact hr
    | .ok (.ret _), ⟨led, e1, e2⟩ =>
      subst e1 e2
      have ty : Shared.TypeIs { s with heap := s.heap.push (bareSet led) } (.ref s.heap.objs.size) "set" := ⟨_, Heap.get?_push_size _ rfl, rfl⟩
      have p8 := PySem.F.called_set.init.bind (.ref s.heap.objs.size)
      repeat (any_goals (first | assumption | wp_step))
      refine fillTexts (by simp [calm]) led hl hi nd room fun h' tk x old => ?_
      repeat (any_goals (first | assumption | wp_step))
      exact k h' tk x old
    | .ok .next, hr => exact hr.elim
    | .ok .brk, hr => exact hr.elim
    | .ok .cont, hr => exact hr.elim)⟩))
end
end SM
/-! Part U: len(set(names)), no two alike; what is joined by lines. -/
namespace SM
open PySem PySem.Spec PyProof.Rows L2
section
variable {X : Cx}
/-- len(set(xs)), xs a list of texts, no two alike -/
def tLenSetN (K : PySem.W.Frag) (ta : TE) : TE := fun σ H Q => ta σ H fun x H1 => ∃ l, ∃ xs : List Str, x = .ref l ∧ SqL K H1 l (xs.map V.str) ∧ xs.Nodup ∧ xs.length + 1 < scanBound ∧ Q (.int xs.length) H1
theorem pe_lenSetN {a : Expr} {ta : TE} {p p2 q pos : Pos} (hc : X.calm = true) (hg : Gl X "len") (hm : X.mg "len" = none) (hg2 : Gl X "set") (hm2 : X.mg "set" = none) (ha : PE X a ta)
    (na : starEach [a] X.env = (false, eval a X.env) :: starEach [] X.env := by rfl) : PE X (.Call (.Name "len" p) [.Call (.Name "set" p2) [a] [] q] [] pos) (tLenSetN X.K ta) := by
  refine ⟨fun pins s σ H Q I h => Call_ (ld_blt I hg hm boot_len ?_)⟩
  refine PyProof.Rows.callWith_builtin1 (PyProof.Rows.args_cons ?_ rfl) rfl rfl
  refine Call_ (ld_blt I hg2 hm2 boot_set (PyProof.Rows.callWith_type1 (PyProof.Rows.args_cons (thn (ha.run pins s σ H _ I h) fun v s1 ⟨x, H1, I1, r1, q1⟩ => PyProof.Rows.args_nil ?_) na) na rfl))
  obtain ⟨l, xs, rfl, hq, nd, room, q1⟩ := q1
  cases r1
  obtain ⟨its, r, pl, hz⟩ := I1.list hq
  refine setTexts (I1.ok.hd hc) pl.isList (strsAre_of r) nd room fun h' tk hS old => PyProof.Rows.args_nil ?_
  obtain ⟨o, es, ep, t, ho, hex, hd, _, _, _, hf, hn⟩ := hS
  have I2 : Inv X pins σ H1 { s1 with heap := h', toks := tk } := I1.kept old
  exact call_len_set ho hex hd hf (by
    rw [List.length_map] at hz
    have : sizeLine < 9223372036854775808 := by decide +kernel
    rw [hn]
    omega) ⟨.int xs.length, H1, I2.tok _, ⟨_, by rw [hn]⟩, q1⟩
end
end SM
namespace SM
open PySem PySem.Spec PyProof.Rows L2
section
variable {J : It} {n : Nat} {G : Hp → Prop} {Y : Nat → Hp → V → Hp → Prop}
/-- a dict's comprehension over what is walked -/
theorem dc_it (w : Walk J n G Y) {g : TG} {tt : TT} {tk tv : TE} {vs : List Nat} {σ : L2.St} {H1 : Hp} {D : Addr} {Qd : Hp → Prop} (Pv : Nat → Hp → Prop) (h0 : Pv 0 (upd H1 D (.dK []))) (hG : ∀ i H, i ≤ n → Pv i H → G H)
    (hs : ∀ i x H H', i < n → Pv i H → Y i H x H' → g x (wipe σ vs) H' fun σ2 H2 => wipe σ2 vs = wipe σ vs ∧ tt σ2 H2 fun b H3 =>
      if b = true then tk σ2 H3 fun y H4 => tv σ2 H4 fun z H5 => ∃ kvs k, y = kV k ∧ H5 D = some (.dK kvs) ∧ kvs.length < sizeLine ∧ Pv (i + 1) (upd H5 D (.dK (putK kvs k z))) else Pv (i + 1) H3) (hd : ∀ H, Pv n H → Qd H) :
    ∃ W : Nat → Nat → Hp → Prop, (∃ m, W 0 m (upd H1 D (.dK []))) ∧ ∀ i m H, W i m H →
      (J.stop i H ∧ Qd H) ∨ (J.go i H ∧ ∃ Nx : Hp → Prop, (∀ H', Nx H' → ∃ m', m' < m ∧ W (i + 1) m' H') ∧ ∀ x H', J.yld i H x H' → g x (wipe σ vs) H' fun σ2 H2 => wipe σ2 vs = wipe σ vs ∧ tt σ2 H2 fun b H3 =>
        if b = true then tk σ2 H3 fun y H4 => tv σ2 H4 fun z H5 => ∃ kvs k, y = kV k ∧ H5 D = some (.dK kvs) ∧ kvs.length < sizeLine ∧ Nx (upd H5 D (.dK (putK kvs k z))) else Nx H3) := by
  refine ⟨fun i m H => m + i = n ∧ Pv i H, ⟨n, rfl, h0⟩, ?_⟩
  rintro i m H ⟨hm, p⟩
  rcases Nat.lt_or_ge i n with lt | ge
  · exact .inr ⟨w.goes i H lt (hG i H (Nat.le_of_lt lt) p), Pv (i + 1), fun H' p' => ⟨m - 1, by omega, by omega, p'⟩, fun x H' y => hs i x H H' lt p (w.yields i H x H' lt (hG i H (Nat.le_of_lt lt) p) y)⟩
  · obtain rfl : i = n := by omega
    exact .inl ⟨w.stops H (hG i H (Nat.le_refl _) p), hd H p⟩
end
/-! ### what is joined -/
/-- what a room's lead along a line is: the line and the room beyond -/
def lead (S : LS) (shut : List Str) (r l : Str) : Option (Str × Str) := (look S.lines l).bind fun e => if l ∈ shut then none else if e.1 = r then some (l, e.2.1) else if e.2.1 = r then some (l, e.1) else none
def leadsTo (S : LS) (shut ls : List Str) (r : Str) : List (Str × Str) := ls.filterMap (lead S shut r)
/-- rooms reached from xs by leads f -/
inductive Rch (f : Str → List (Str × Str)) (xs : List Str) : Str → Prop where
  | base {z : Str} : z ∈ xs → Rch f xs z
  | step {z : Str} {p : Str × Str} : Rch f xs z → p ∈ f z → Rch f xs p.2
theorem Rch.closed {f : Str → List (Str × Str)} {xs fs : List Str} (a : ∀ x ∈ xs, x ∈ fs) (c : ∀ z ∈ fs, ∀ p ∈ f z, p.2 ∈ fs) {z : Str} (h : Rch f xs z) : z ∈ fs := by
  induction h with
  | base m => exact a _ m
  | step _ m ih => exact c _ ih _ m
theorem Srt.same {ys zs xs ws : List Str} (a : Srt ys xs) (b : Srt zs ws) (n : xs.Nodup) (m : ws.Nodup) (e : ∀ z, z ∈ xs ↔ z ∈ ws) : ys = zs :=
  a.one ⟨b.1.trans ((List.perm_ext_iff_of_nodup m n).mpr fun z => (e z).symm), b.2⟩
/-- two rooms at one open line -/
def Beside (S : LS) (shut : List Str) (a b : Str) : Prop := ∃ e ∈ S.lines, e.1 ∉ shut ∧ ((e.2.1 = a ∧ e.2.2.1 = b) ∨ (e.2.2.1 = a ∧ e.2.1 = b))
theorem look_iff {α : Type} {tab : List (Str × α)} (n : (keys tab).Nodup) {k : Str} {a : α} : look tab k = some a ↔ (k, a) ∈ tab := by
  induction tab with
  | nil => exact ⟨(fun e => by cases e), (fun m => by cases m)⟩
  | cons p r ih =>
    have n' : (keys r).Nodup ∧ p.1 ∉ keys r := by
      have z : (p.1 :: keys r).Nodup := n
      exact ⟨(List.nodup_cons.mp z).2, (List.nodup_cons.mp z).1⟩
    by_cases e : p.1 = k
    · rw [look_pos e]
      constructor
      · intro q
        cases q
        cases e
        exact .head _
      · intro m
        rcases List.mem_cons.mp m with q | q
        · rw [← q]
        · exact absurd (List.mem_map_of_mem (f := (·.1)) q) (by rw [← e]; exact n'.2)
    · rw [look_neg e, ih n'.1]
      constructor
      · exact fun m => .tail _ m
      · intro m
        rcases List.mem_cons.mp m with q | q
        · exact absurd (by rw [← q]) e
        · exact q
theorem mem_leads {S : LS} (o : S.Ok) {shut ls : List Str} (al : ∀ l ∈ keys S.lines, l ∈ ls) {a b : Str} : (∃ l, (l, b) ∈ leadsTo S shut ls a) ↔ Beside S shut a b := by
  constructor
  · rintro ⟨l, m⟩
    obtain ⟨l', hl, e⟩ := List.mem_filterMap.mp m
    unfold lead at e
    cases hk : look S.lines l' with
    | none => rw [hk] at e; cases e
    | some q =>
      rw [hk] at e
      have e : (if l' ∈ shut then none else if q.1 = a then some (l', q.2.1) else if q.2.1 = a then some (l', q.1) else none) = some (l, b) := e
      have mm := (look_iff o.lN).mp hk
      by_cases h1 : l' ∈ shut
      · rw [if_pos h1] at e; cases e
      rw [if_neg h1] at e
      by_cases h2 : q.1 = a
      · rw [if_pos h2] at e
        cases e
        exact ⟨_, mm, h1, .inl ⟨h2, rfl⟩⟩
      rw [if_neg h2] at e
      by_cases h3 : q.2.1 = a
      · rw [if_pos h3] at e
        cases e
        exact ⟨_, mm, h1, .inr ⟨h3, rfl⟩⟩
      rw [if_neg h3] at e
      cases e
  · rintro ⟨e, m, h1, h2⟩
    refine ⟨e.1, List.mem_filterMap.mpr ⟨e.1, al _ (List.mem_map_of_mem m), ?_⟩⟩
    unfold lead
    rw [(look_iff o.lN).mpr (show (e.1, e.2) ∈ S.lines from m)]
    show (if e.1 ∈ shut then none else if e.2.1 = a then some (e.1, e.2.2.1) else if e.2.2.1 = a then some (e.1, e.2.1) else none) = some (e.1, b)
    rw [if_neg h1]
    rcases h2 with ⟨h3, h4⟩ | ⟨h3, h4⟩
    · rw [if_pos h3, h4]
    · have ne : ¬ e.2.1 = a := fun z => (o.lI e m).2.2.1 (z.trans h3.symm)
      rw [if_neg ne, if_pos h3, h4]
theorem leadsTo_snoc {S : LS} {shut ls : List Str} {l r : Str} : leadsTo S shut (ls ++ [l]) r = leadsTo S shut ls r ++ (lead S shut r l).toList := by
  unfold leadsTo
  rw [List.filterMap_append]
  cases h : lead S shut r l <;> simp [h]
theorem leadsTo_len {S : LS} {shut ls : List Str} {r : Str} : (leadsTo S shut ls r).length ≤ ls.length := List.length_filterMap_le _ _
/-- a key once more -/
def addS (fs : List Str) (k : Str) : List Str := if k ∈ fs then fs else fs ++ [k]
theorem mem_addS {fs : List Str} {k z : Str} : z ∈ addS fs k ↔ z ∈ fs ∨ z = k := by
  unfold addS
  by_cases h : k ∈ fs
  · rw [if_pos h]
    exact ⟨.inl, fun x => x.elim id fun e => e ▸ h⟩
  · rw [if_neg h]
    simp
theorem addS_nodup {fs : List Str} {k : Str} (n : fs.Nodup) : (addS fs k).Nodup := by
  unfold addS
  by_cases h : k ∈ fs
  · rw [if_pos h]
    exact n
  · rw [if_neg h]
    exact List.nodup_append.mpr ⟨n, by simp, fun a ha b hb e => h (by rw [← List.mem_singleton.mp hb, ← e]; exact ha)⟩
theorem Kr.hold {k : Str} : ∀ {kvs : List (Key × V)} {fs : List Str}, Kr TrueG kvs (uT fs) → Kr TrueG (kvs.map fun kv => if kv.1 = Sum.inr k then (kv.1, V.bl true) else kv) (uT fs)
  | _, [], .nil => .nil
  | p :: ps, f :: fs, .cons h t => by
    refine .cons ?_ (Kr.hold t)
    show (if p.1 = Sum.inr k then (p.1, V.bl true) else p).1 = Sum.inr f ∧ (if p.1 = Sum.inr k then (p.1, V.bl true) else p).2 = .bl true
    by_cases e : p.1 = Sum.inr k
    · rw [if_pos e]
      exact ⟨h.1, rfl⟩
    · rw [if_neg e]
      exact h
theorem Kr.add {k : Str} {kvs : List (Key × V)} {fs : List Str} (h : Kr TrueG kvs (uT fs)) : Kr TrueG (putK kvs (Sum.inr k) (.bl true)) (uT (addS fs k)) := by
  unfold addS
  by_cases m : k ∈ fs
  · rw [if_pos m]
    unfold putK
    rw [valV_any, h.has, uT_look, decide_eq_true m, if_pos rfl]
    exact h.hold
  · rw [if_neg m, ← uT_snoc]
    exact h.put (uT_none.mpr m) rfl
theorem Kr.uT_names {kvs : List (Key × V)} {fs : List Str} (h : Kr TrueG kvs (uT fs)) : kvs.map (·.1) = fs.map Sum.inr := by
  rw [h.names, keys_uT]
theorem Kr.uT_keys {kvs : List (Key × V)} {fs : List Str} (h : Kr TrueG kvs (uT fs)) : (kvs.map fun kv => kV kv.1) = fs.map V.str := by
  have e := h.uT_names
  rw [show (kvs.map fun kv => kV kv.1) = (kvs.map (·.1)).map kV by rw [List.map_map]; rfl, e, List.map_map]
  rfl
/-- a list of pairs -/
def PairsAt (H : Hp) (g : Addr) (ps : List (Str × Str)) : Prop := ∃ ts : List Addr, H g = some (.lst (ts.map V.ref)) ∧ Paired (fun t (p : Str × Str) => H t = some (.tup [.str p.1, .str p.2])) ts ps
/-- the leads of the rooms rs -/
def LeadsAt (H : Hp) (a : Addr) (rs : List Str) (f : Str → List (Str × Str)) : Prop := ∃ g : Str → Addr, H a = some (.dK (rs.map fun r => (Sum.inr r, V.ref (g r)))) ∧ (∀ r ∈ rs, ∀ s ∈ rs, g r = g s → r = s) ∧ (∀ r ∈ rs, PairsAt H (g r) (f r))
theorem Paired.mono {α β : Type} {R R' : α → β → Prop} (i : ∀ a b, R a b → R' a b) : ∀ {xs : List α} {ys : List β}, Paired R xs ys → Paired R' xs ys
  | _, _, .nil => .nil
  | _, _, .cons h t => .cons (i _ _ h) (Paired.mono i t)
theorem PairsAt.same {H H' : Hp} {g : Addr} {ps : List (Str × Str)} (h : PairsAt H g ps) (s : Same H H') : PairsAt H' g ps :=
  let ⟨ts, a, b⟩ := h
  ⟨ts, s _ _ a, Paired.mono (fun _ _ e => s _ _ e) b⟩
theorem LeadsAt.same {H H' : Hp} {a : Addr} {rs : List Str} {f : Str → List (Str × Str)} (h : LeadsAt H a rs f) (s : Same H H') : LeadsAt H' a rs f :=
  let ⟨g, x, y, z⟩ := h
  ⟨g, s _ _ x, y, fun r m => (z r m).same s⟩
theorem valV_map {g : Str → V} : ∀ {rs : List Str} {r : Str}, r ∈ rs → valV (rs.map fun r => ((Sum.inr r : Key), g r)) (Sum.inr r) = some (g r)
  | s :: rs, r, m => by
    by_cases e : s = r
    · subst e
      rw [List.map_cons, valV_pos rfl]
    · rw [List.map_cons, valV_neg fun z => e (Sum.inr.inj z)]
      rcases List.mem_cons.mp m with q | q
      · exact absurd q.symm e
      · exact valV_map q
/-- a pair more, at one room -/
theorem LeadsAt.push {H : Hp} {a : Addr} {rs : List Str} {f : Str → List (Str × Str)} {g : Str → Addr} (x : H a = some (.dK (rs.map fun r => (Sum.inr r, V.ref (g r))))) (y : ∀ r ∈ rs, ∀ s ∈ rs, g r = g s → r = s) (z : ∀ r ∈ rs, PairsAt H (g r) (f r))
    {r : Str} (m : r ∈ rs) {ts : List V} (e : H (g r) = some (.lst ts)) {t : Addr} {p : Str × Str} (ht : H t = some (.tup [.str p.1, .str p.2])) : 
    (upd H (g r) (.lst (ts ++ [.ref t]))) a = some (.dK (rs.map fun r => (Sum.inr r, V.ref (g r)))) ∧ (∀ s ∈ rs, PairsAt (upd H (g r) (.lst (ts ++ [.ref t]))) (g s) (if s = r then f s ++ [p] else f s)) := by
  have na : a ≠ g r := fun w => by rw [w, e] at x; cases x
  refine ⟨(upd_ne na).trans x, fun s ms => ?_⟩
  obtain ⟨us, h1, h2⟩ := z s ms
  have keep : ∀ b (xs : List V), H b = some (.tup xs) → (upd H (g r) (.lst (ts ++ [.ref t]))) b = some (.tup xs) := fun b xs h => (upd_ne fun w => by rw [w, e] at h; cases h).trans h
  by_cases q : s = r
  · subst q
    rw [if_pos rfl]
    rw [h1] at e
    cases e
    refine ⟨us ++ [t], ?_, ?_⟩
    · rw [upd_same, List.map_append]
      rfl
    · exact Paired.snoc (Paired.mono (fun _ _ h => keep _ _ h) h2) (keep _ _ ht)
  · rw [if_neg q]
    have ne : g s ≠ g r := fun w => q (y s ms r m w)
    exact ⟨us, (upd_ne ne).trans h1, Paired.mono (fun _ _ h => keep _ _ h) h2⟩
end SM
/-! Part Y: what is promised of the defs that reach; only of good arguments. -/
namespace SM
open PySem PySem.Spec PyProof.Rows L2
section
variable (L : Addr)
def swOf (S : LS) : List Str := keys (S.lines.filter fun e => decide (0 < e.2.2.2))
def spAreNamesG : Sp := fun vs H Q _ => ∃ (l : Addr) (xs : List Str), vs = [.ref l] ∧ H l = some (.lst (xs.map V.str)) ∧ xs.Nodup ∧ xs.length ≤ 60 ∧ (∀ x ∈ xs, okName x = true) ∧ ∀ H', Same H H' → Q (.bl true) H'
def spStretchG : Sp := fun vs H Q _ => ∃ (l : Addr) (xs : List Str), vs = [.ref l] ∧ H l = some (.lst (xs.map V.str)) ∧ xs.Nodup ∧ 1 ≤ xs.length ∧ xs.length ≤ 24 ∧ (∀ x ∈ xs, okName x = true) ∧ ∀ H', Same H H' → Q (.bl true) H'
def spSwitchesIn : Sp := fun vs H Q _ => ∃ (A : LA) (S : LS), vs = [.ref A.p] ∧ LayAt L H A S ∧ S.Ok ∧ ∀ (H' : Hp) (p : Addr) (ys : List Str), Srt ys (swOf S) → Same H H' → H p = none → H' p = some (.lst (ys.map V.str)) → Q (.ref p) H'
def spBesideG : Sp := fun vs H Q _ => ∃ (a b : Addr) (xs ys : List Str), vs = [.ref a, .ref b] ∧ H a = some (.lst (xs.map V.str)) ∧ H b = some (.lst (ys.map V.str)) ∧ (∀ x ∈ xs, x ∈ ys) ∧ ∀ H', Same H H' → Q .non H'
def spHasG (f : LS → List Str) : Sp := fun vs H Q _ => ∃ (A : LA) (S : LS) (a : Addr) (xs : List Str), vs = [.ref A.p, .ref a] ∧ LayAt L H A S ∧ S.Ok ∧ H a = some (.lst (xs.map V.str)) ∧ (∀ x ∈ xs, x ∈ f S) ∧ ∀ H', Same H H' → Q .non H'
def spLeadsOf : Sp := fun vs H Q _ => ∃ (A : LA) (S : LS) (a : Addr) (sh : List Str), vs = [.ref A.p, .ref a] ∧ LayAt L H A S ∧ S.Ok ∧ H a = some (.lst (sh.map V.str)) ∧
  ∀ (H' : Hp) (p : Addr) (rs ls : List Str), Srt rs S.rooms → Srt ls (keys S.lines) → Same H H' → H p = none → LeadsAt H' p rs (leadsTo S sh ls) → Q (.ref p) H'
def spReached : Sp := fun vs H Q _ => ∃ (a b : Addr) (rs xs : List Str) (f : Str → List (Str × Str)), vs = [.ref a, .ref b] ∧ LeadsAt H a rs f ∧ H b = some (.lst (xs.map V.str)) ∧ xs.Nodup ∧ (∀ x ∈ xs, x ∈ rs) ∧ rs.length ≤ 24 ∧ (∀ r ∈ rs, ∀ p ∈ f r, p.2 ∈ rs) ∧
  ∀ (H' : Hp) (p : Addr) (zs ys : List Str), zs.Nodup → (∀ z, z ∈ zs ↔ Rch f xs z) → Srt ys zs → Same H H' → H p = none → H' p = some (.lst (ys.map V.str)) → Q (.ref p) H'
structure Asks (H : Hp) (A : LA) (S : LS) (a b : Addr) (sh xs : List Str) : Prop where
  lay : LayAt L H A S
  ok : S.Ok
  ha : H a = some (.lst (sh.map V.str))
  hb : H b = some (.lst (xs.map V.str))
  na : sh.Nodup
  nb : xs.Nodup
  la : sh.length ≤ 60
  lb : 1 ≤ xs.length
  sa : ∀ x ∈ sh, x ∈ swOf S
  sb : ∀ x ∈ xs, x ∈ S.rooms
def spCheckG : Sp := fun vs H Q _ => ∃ (A : LA) (S : LS) (a b : Addr) (sh xs : List Str), vs = [.ref A.p, .ref a, .ref b] ∧ Asks L H A S a b sh xs ∧ ∀ H', Same H H' → Q .non H'
def spSideOf : Sp := fun vs H Q _ => ∃ (A : LA) (S : LS) (a b : Addr) (sh xs : List Str), vs = [.ref A.p, .ref a, .ref b] ∧ Asks L H A S a b sh xs ∧
  ∀ (H' : Hp) (p : Addr) (ls zs ys : List Str), Srt ls (keys S.lines) → zs.Nodup → (∀ z, z ∈ zs ↔ Rch (leadsTo S sh ls) xs z) → Srt ys zs → Same H H' → H p = none → H' p = some (.lst (ys.map V.str)) → Q (.ref p) H'
theorem nodup_len {α : Type} [DecidableEq α] : ∀ {xs ys : List α}, xs.Nodup → (∀ x ∈ xs, x ∈ ys) → xs.length ≤ ys.length
  | [], _, _, _ => Nat.zero_le _
  | x :: t, ys, n, s => by
    obtain ⟨n1, n2⟩ := List.nodup_cons.mp n
    have m := s x (.head _)
    have ih := nodup_len (ys := ys.erase x) n2 fun y hy => (List.mem_erase_of_ne fun e : y = x => n1 (by rw [← e]; exact hy)).mpr (s y (.tail _ hy))
    rw [List.length_erase_of_mem m] at ih
    have := List.length_pos_of_mem m
    rw [List.length_cons]
    omega
theorem Asks.same {H H' : Hp} {A : LA} {S : LS} {a b : Addr} {sh xs : List Str} (h : Asks L H A S a b sh xs) (s : Same H H') : Asks L H' A S a b sh xs :=
  ⟨h.lay.same s, h.ok, s _ _ h.ha, s _ _ h.hb, h.na, h.nb, h.la, h.lb, h.sa, h.sb⟩
theorem swOf_sub {S : LS} {x : Str} (h : x ∈ swOf S) : x ∈ keys S.lines := by
  obtain ⟨e, m, rfl⟩ := List.mem_map.mp h
  exact List.mem_map_of_mem (List.mem_filter.mp m).1
end
end SM
namespace SM
open PySem PySem.Spec PyProof.Rows L2
theorem scan60 {α : Type} {xs : List α} (h : xs.length ≤ 60) : xs.length + 1 < scanBound := Nat.lt_of_le_of_lt (Nat.succ_le_succ h) (by decide +kernel)
end SM
namespace SM
open PySem PySem.Spec PyProof.Rows L2
theorem ix_tupK {X : Cx} {K : PySem.W.Frag} (h : X.K = K) : IxR X (rIxT K) := by
  subst h
  exact ix_tup
end SM
namespace SM
open PySem PySem.Spec PyProof.Rows L2
theorem look_mem' {α : Type} {tab : List (Str × α)} {k : Str} {a : α} (e : look tab k = some a) : (k, a) ∈ tab := look_mem e
theorem sw_iff {S : LS} (o : S.Ok) {z : Str} {e : LineV} (el : look S.lines z = some e) : z ∈ swOf S ↔ 0 < e.2.2 := by
  constructor
  · intro h
    obtain ⟨q, m, rfl⟩ := List.mem_map.mp h
    obtain ⟨m1, m2⟩ := List.mem_filter.mp m
    have w := (look_iff o.lN).mpr (show (q.1, q.2) ∈ S.lines from m1)
    rw [el] at w
    cases w
    exact of_decide_eq_true m2
  · intro h
    exact List.mem_map.mpr ⟨(z, e), List.mem_filter.mpr ⟨(look_iff o.lN).mp el, decide_eq_true h⟩, rfl⟩
theorem sw_nodup {S : LS} (o : S.Ok) : (swOf S).Nodup := (List.filter_sublist.map _).nodup o.lN
theorem rising_of : ∀ {l : List Str} {p : Str}, (p :: l).Pairwise leS → risingS p l = true
  | [], _, _ => rfl
  | x :: r, p, h => by
    obtain ⟨h1, h2⟩ := List.pairwise_cons.mp h
    show (!ltCps x.cps.toList p.cps.toList && risingS x r) = true
    rw [rising_of h2, show ltCps x.cps.toList p.cps.toList = false from h1 x (.head _)]
    rfl
theorem risingS_sub : ∀ {l : List Str}, l.Pairwise leS → sortedS l = true
  | [], _ => rfl
  | _ :: _, h => rising_of h
theorem sw_srt {S : LS} (o : S.Ok) {ls : List Str} (h : Srt ls (keys S.lines)) : Srt (ls.filter fun l => decide (l ∈ swOf S)) (swOf S) := by
  have nl : ls.Nodup := h.1.nodup_iff.mpr o.lN
  refine ⟨(List.perm_ext_iff_of_nodup (nl.filter _) (sw_nodup o)).mpr fun z => ?_, risingS_sub ((sorted_pw h.2).filter _)⟩
  rw [List.mem_filter]
  constructor
  · exact fun q => of_decide_eq_true q.2
  · exact fun q => ⟨h.1.mem_iff.mpr (swOf_sub q), decide_eq_true q⟩
end SM
namespace SM
open PySem PySem.Spec PyProof.Rows L2
theorem valV_none {g : Str → V} : ∀ {rs : List Str} {r : Str}, r ∉ rs → valV (rs.map fun r => ((Sum.inr r : Key), g r)) (Sum.inr r) = none
  | [], _, _ => rfl
  | s :: rs, r, m => by
    rw [List.map_cons, valV_neg fun z => m (by rw [← Sum.inr.inj z]; exact .head _)]
    exact valV_none fun w => m (.tail _ w)
end SM
namespace SM
open PySem PySem.Spec PyProof.Rows L2
section
variable {X : Cx}
/-- y = {k: v for ..}, y a name that no comprehension reads -/
theorem ps_setDc {i : Nat} {y : Str} {py : Pos} {kx vx tg iter : Expr} {ifs : List Expr} {scope : Scope} {own : List (Str × Nat)} {pos spos : Pos} {wi : TI} {g : TG} {tt : TT} {tk tv : TE} (hc : X.calm = true) (hN : X.N.Nodup) (hy : X.N[i]? = some y) (hyl : X.env.scope.names.lookup y = some .local)
    (hsw : swapsWith (.DictComp kx vx [⟨tg, iter, ifs, 0⟩] scope pos) (some (.Name y py)) spos.line X.env = pure true) (hi : PI X tg iter wi) (ok : BlkOk X.N X.env.scope scope own)
    (hg : ∀ (s : Shared) (H : Hp) (C : Addr) (cl : List (Str × Addr)) (fp : List Addr), PG (X.blk s H scope (compEnvC scope cl C X.env) fp) tg g) (ht : ∀ (s : Shared) (H : Hp) (C : Addr) (cl : List (Str × Addr)) (fp : List Addr), PTs (X.blk s H scope (compEnvC scope cl C X.env) fp) ifs tt)
    (hk : ∀ (s : Shared) (H : Hp) (C : Addr) (cl : List (Str × Addr)) (fp : List Addr), PE (X.blk s H scope (compEnvC scope cl C X.env) fp) kx tk)
    (he : ∀ (s : Shared) (H : Hp) (C : Addr) (cl : List (Str × Addr)) (fp : List Addr), PE (X.blk s H scope (compEnvC scope cl C X.env) fp) vx tv) (hs : ∀ x, foldedSetIterable iter X.env x = pure x := by intro _; rfl) :
    PS X (.Assign [.Name y py] (.DictComp kx vx [⟨tg, iter, ifs, 0⟩] scope pos) spos) (tAsg (tDc wi g tt tk tv (own.map (·.2))) (gName i)) := by
  refine ⟨fun pins s σ H D I h => ?_⟩
  rw [exec_Assign_Name_used _ _ _ _ hsw]
  refine wpAny_bind (wpAny_standAt (wpAny_bind ?_))
  show wpAny _ X.A (do let _ ← comprehension (.DictComp kx vx [⟨tg, iter, ifs, 0⟩] scope pos) scope X.env (firstIterPos [⟨tg, iter, ifs, 0⟩] pos) newDict false (eval iter X.env) (some (assign (.Name y py) X.env))) _ _ s
  have h : tDc wi g tt tk tv (own.map (·.2)) σ H (fun x H1 => gName i x σ H1 D.nx) := h
  refine wpAny_bind (thn (dc_core (Qf := fun _ s' => SP X pins D .next s') hc hN I hi ok hg ht hk he hs h fun L C s' m H' I' q hn f => ?_) fun _ s' hq => wpAny_pure (wpAny_pure hq))
  obtain ⟨f0, f1, f2, f3, f4, f5⟩ := f
  show wpAny _ _ (assign (.Name y py) X.env (.ref L)) _ _ _
  refine wpAny_assign_Name (store_ok2 (v := V.ref L) I' hN hy (.inl hyl) rfl (fun s2 I2 ⟨a, sb, ha⟩ => ⟨m, hn.sameBut sb ?_, fun h3 sb3 => ⟨_, H', I2.turned (t' := s2.toks) (fun b o hb e => (sb3.2 b hb).trans e) f0 f1 f3 f4 f5, q⟩⟩) (.inr hyl))
  rcases ha with z | z
  · rw [z]
    exact f1
  · exact fun e => f4 y a z e.symm
theorem swD_true {kx vx : Expr} {gs : List Comprehension} {scope : Scope} {pos py : Pos} {y : Str} {l : Nat} {env : Env} (hk : env.scope.kind = .function) (hy : env.scope.names.lookup y = some .local) (hl : (py.line == pos.line) = true)
    (ha : (scope.names.any fun (n, k) => n == y && (k == .local || k == .cell)) = false) : swapsWith (.DictComp kx vx gs scope pos) (some (.Name y py)) l env = pure true := by
  have ky : env.kindOf y = some .local := hy
  have hb : env.blockKind = .function := by unfold Env.blockKind; rw [hk]; rfl
  unfold swapsWith
  simp only [hb, ky, ha, Expr.pos, hl]
  rfl
end
end SM
namespace SM
open PySem
theorem lead_shut {S : LS} {sh : List Str} {r l : Str} (h : l ∈ sh) : lead S sh r l = none := by
  unfold lead
  cases look S.lines l with
  | none => rfl
  | some e => exact if_pos h
theorem lead_one {S : LS} {sh : List Str} {l : Str} {e : LineV} (el : look S.lines l = some e) (h : l ∉ sh) : lead S sh e.1 l = some (l, e.2.1) := by
  unfold lead
  rw [el]
  show (if l ∈ sh then none else if e.1 = e.1 then some (l, e.2.1) else _) = _
  rw [if_neg h, if_pos rfl]
theorem lead_other {S : LS} {sh : List Str} {l : Str} {e : LineV} (el : look S.lines l = some e) (h : l ∉ sh) (ne : e.1 ≠ e.2.1) : lead S sh e.2.1 l = some (l, e.1) := by
  unfold lead
  rw [el]
  show (if l ∈ sh then none else if e.1 = e.2.1 then some (l, e.2.1) else if e.2.1 = e.2.1 then some (l, e.1) else none) = _
  rw [if_neg h, if_neg ne, if_pos rfl]
theorem lead_off {S : LS} {sh : List Str} {r l : Str} {e : LineV} (el : look S.lines l = some e) (h1 : e.1 ≠ r) (h2 : e.2.1 ≠ r) : lead S sh r l = none := by
  unfold lead
  rw [el]
  show (if l ∈ sh then none else if e.1 = r then some (l, e.2.1) else if e.2.1 = r then some (l, e.1) else none) = _
  by_cases h : l ∈ sh
  · rw [if_pos h]
  · rw [if_neg h, if_neg h1, if_neg h2]
end SM
namespace SM
open PySem
theorem Paired.at {α β : Type} {R : α → β → Prop} : ∀ {xs : List α} {ys : List β}, Paired R xs ys → ∀ {i : Nat} {x : α}, xs[i]? = some x → ∃ y, ys[i]? = some y ∧ R x y
  | _, _, .nil, _, _, e => nomatch e
  | _, _, .cons h _, 0, _, e => ⟨_, rfl, by cases e; exact h⟩
  | _, _, .cons _ t, i + 1, _, e => Paired.at t (i := i) e
end SM
namespace SM
open PySem
theorem kit_self {K : PySem.W.Frag} {L : Addr} : PySem.W.kitOne K (.ref L) (.ref L) = some true := if_pos (beq_self_eq_true (Value.ref L))
end SM
/-! Part Z: what the reach laws draw. -/
namespace SM
open PySem PySem.Spec PyProof.Rows L2
theorem cutV_take (xs : List V) (i : Nat) : cutV xs none (some (i : Int)) = xs.take i := by
  unfold cutV
  rw [HT.sIx_none, HT.sIx_nat, List.drop_zero, Nat.sub_zero]
  rcases Nat.le_total i xs.length with h | h
  · rw [Nat.min_eq_left h]
  · rw [Nat.min_eq_right h, List.take_length, List.take_of_length_le h]
theorem cutV_drop (xs : List V) (i : Nat) : cutV xs (some (i : Int)) none = xs.drop i := by
  unfold cutV
  rw [HT.sIx_none, HT.sIx_nat]
  rcases Nat.le_total i xs.length with h | h
  · rw [Nat.min_eq_left h, List.take_of_length_le (by rw [List.length_drop]; exact Nat.le_refl _)]
  · rw [Nat.min_eq_right h, List.drop_of_length_le h, List.drop_of_length_le (Nat.le_refl _), List.take_nil]
def spNamesD : Sp := fun vs H Q _ => ∃ (p q : Addr) (n : Int), vs = [.ref p, .int n] ∧ Bag H p q ∧ 0 ≤ n ∧ n ≤ 110 ∧
  ∀ (a : Addr) (ys : List Str) (H' : Hp), H' a = some (.lst (ys.map V.str)) → ys.Nodup → ys.length ≤ n.toNat → (0 < n → 0 < ys.length) → (∀ y ∈ ys, okName y = true) → Bag H' p q → Keep [p] H H' → H a = none → Q (.ref a) H'
/-- two places below n -/
def spEndsL : Sp := fun vs H Q _ => ∃ (p q : Addr) (w n i : Int), vs = [.ref p, .int w, .int n, .int i] ∧ Bag H p q ∧ 0 < n ∧ n ≤ 24 ∧ 0 ≤ i ∧ i ≤ 1000 ∧
  ∀ (t : Addr) (a b : Int) (H' : Hp), H' t = some (.tup [.int a, .int b]) → 0 ≤ a → a < n → 0 ≤ b → b < n → Bag H' p q → Keep [p] H H' → Q (.ref t) H'
end SM
namespace SM
open PySem PySem.Spec PyProof.Rows L2
def spLinesR : Sp := fun vs H Q _ => ∃ (p q a b : Addr) (rs ns : List Str), vs = [.ref p, .ref a, .ref b] ∧ Bag H p q ∧ H a = some (.lst (rs.map V.str)) ∧ H b = some (.lst (ns.map V.str)) ∧ rs.Nodup ∧ 0 < rs.length ∧ rs.length ≤ 24 ∧ ns.Nodup ∧ ns.length ≤ 40 ∧
  ∀ (D : Addr) (H' : Hp) (kvs : List (Key × V)) (ls : List (Str × LineV)), H' D = some (.dK kvs) → Kr (LineG H') kvs ls → (keys ls).Nodup → (∀ x ∈ keys ls, x ∈ ns) → ls.length ≤ ns.length →
    (∀ e ∈ ls, e.2.1 ∈ rs ∧ e.2.2.1 ∈ rs ∧ e.2.1 ≠ e.2.2.1 ∧ okCost e.2.2.2 = true) → Bag H' p q → Keep [p] H H' → H D = none → Q (.ref D) H'
theorem atI_strs {rs : List Str} {v : Int} (h0 : 0 ≤ v) (h1 : v < rs.length) : ∃ z, rs[v.toNat]? = some z ∧ atI (rs.map V.str) v = some (.str z) := by
  have lt : v.toNat < rs.length := by omega
  refine ⟨rs[v.toNat], List.getElem?_eq_getElem lt, ?_⟩
  have e := atI_nat (xs := rs.map V.str) (j := v.toNat) (v := .str rs[v.toNat]) (by rw [List.getElem?_map, List.getElem?_eq_getElem lt]; rfl)
  rw [Int.toNat_of_nonneg h0] at e
  exact e
end SM
namespace SM
open PySem PySem.Spec PyProof.Rows L2
theorem Bag.nd {H : Hp} {p q D : Addr} {kvs : List (Key × V)} (B : Bag H p q) (h : H D = some (.dK kvs)) : p ≠ D ∧ q ≠ D := by
  obtain ⟨a, b, c, ns, B⟩ := B
  exact ⟨ne_of B.top h (by intro w; cases w), ne_of B.low h (by intro w; cases w)⟩
theorem Kr.line {G G' : Hp} {kvs : List (Key × V)} {ls : List (Str × LineV)} {ms : List Addr} (h : Kr (LineG G) kvs ls) (k : Keep ms G G') : Kr (LineG G') kvs ls := h.mono fun _ _ ⟨t, e, ht⟩ => ⟨t, e, k.tup _ _ ht⟩
end SM
namespace SM
open PySem PySem.Spec PyProof.Rows L2
theorem call_len_seqK {X : Cx} {K : PySem.W.Frag} (h : X.K = K) : CallR X (.builtin "len") (fun xs H Q => ∃ p ys, xs = [.ref p] ∧ (SqL K H p ys ∨ SqT K H p ys) ∧ Q (.int ys.length) H) := by
  subst h
  exact call_len_seq
theorem mergeK_new : ∀ {more kvs : List (Key × V)}, (more.map (·.1)).Nodup → (∀ p ∈ more, valV kvs p.1 = none) → mergeK kvs more = kvs ++ more
  | [], kvs, _, _ => (List.append_nil kvs).symm
  | x :: r, kvs, n, h => by
    obtain ⟨n1, n2⟩ := List.nodup_cons.mp n
    show mergeK (putK kvs x.1 x.2) r = kvs ++ x :: r
    rw [putK_new _ (h x (.head _)), mergeK_new n2 fun p m => ?_]
    · rw [List.append_assoc]
      rfl
    · have ne : x.1 ≠ p.1 := fun w => n1 (by show x.1 ∈ r.map (·.1); rw [w]; exact List.mem_map_of_mem m)
      have q := h p (.tail _ m)
      unfold valV at q ⊢
      rw [List.find?_append]
      cases e : kvs.find? (fun kv => decide (kv.1 = p.1)) with
      | none => simp [ne]
      | some v =>
        rw [e] at q
        cases q
/-- a world: what is to be laid -/
structure WAt (H : Hp) (m l d a b : Addr) (S : LS) : Prop where
  top : H m = some (.dK (mtop ⟨m, l, d, false⟩ a b))
  rm : H a = some (.lst (S.rooms.map V.str))
  ln : ∃ kvs, H l = some (.dK kvs) ∧ Kr (LineG H) kvs S.lines
  dr : ∃ kvs, H d = some (.dK kvs) ∧ Kr StrG kvs S.drains
  sc : H b = some (.lst (S.sources.map V.str))
  ok : S.Ok
  ne : 0 < S.rooms.length
  ap : ∀ x ∈ keys S.lines, x ∉ keys S.drains
  mne : m ≠ d ∧ m ≠ l
def spWorld : Sp := fun vs H Q _ => ∃ (p q : Addr), vs = [.ref p] ∧ Bag H p q ∧ ∀ (m l d a b : Addr) (S : LS) (H' : Hp), WAt H' m l d a b S → Bag H' p q → Keep [p] H H' → Q (.ref m) H'
theorem pickM {v : Int} (h0 : 0 ≤ v) (h1 : v < 4) : ∃ y t : Int, atI [V.int 1, V.int 2, V.int 8, V.int 24] v = some (.int y) ∧ atI [V.int 3, V.int 6, V.int 10, V.int 1] v = some (.int t) ∧ 1 ≤ y ∧ 1 ≤ t ∧ t ≤ 10 ∧ y + t ≤ 25 := by
  obtain rfl | rfl | rfl | rfl : v = 0 ∨ v = 1 ∨ v = 2 ∨ v = 3 := by omega
  · exact ⟨1, 3, rfl, rfl, by decide⟩
  · exact ⟨2, 6, rfl, rfl, by decide⟩
  · exact ⟨8, 10, rfl, rfl, by decide⟩
  · exact ⟨24, 1, rfl, rfl, by decide⟩
theorem pickC {v : Int} (h0 : 0 ≤ v) (h1 : v < 4) : ∃ y : Int, atI [V.int 1, V.int 2, V.int 3, V.int 40] v = some (.int y) ∧ 1 ≤ y ∧ y ≤ 40 := by
  obtain rfl | rfl | rfl | rfl : v = 0 ∨ v = 1 ∨ v = 2 ∨ v = 3 := by omega
  · exact ⟨1, rfl, by decide⟩
  · exact ⟨2, rfl, by decide⟩
  · exact ⟨3, rfl, by decide⟩
  · exact ⟨40, rfl, by decide⟩
theorem pickW {v : Int} (h0 : 0 ≤ v) (h1 : v < 4) : ∃ n : Nat, atI [V.int 0, V.int 2, V.int 5, V.int 12] v = some (.int (n : Int)) ∧ n ≤ 12 := by
  obtain rfl | rfl | rfl | rfl : v = 0 ∨ v = 1 ∨ v = 2 ∨ v = 3 := by omega
  · exact ⟨0, rfl, by decide⟩
  · exact ⟨2, rfl, by decide⟩
  · exact ⟨5, rfl, by decide⟩
  · exact ⟨12, rfl, by decide⟩
theorem pickS {v : Int} (h0 : 0 ≤ v) (h1 : v < 4) : ∃ y : Int, atI [V.int 1, V.int 3, V.int 6, V.int 40] v = some (.int y) ∧ 1 ≤ y ∧ y ≤ 40 := by
  obtain rfl | rfl | rfl | rfl : v = 0 ∨ v = 1 ∨ v = 2 ∨ v = 3 := by omega
  · exact ⟨1, rfl, by decide⟩
  · exact ⟨3, rfl, by decide⟩
  · exact ⟨6, rfl, by decide⟩
  · exact ⟨40, rfl, by decide⟩
end SM
namespace SM
open PySem PySem.Spec PyProof.Rows L2
theorem nodup_inr {ds : List (Str × Str)} (n : (keys ds).Nodup) : (ds.map ((fun kv => kv.1) ∘ fun d => ((Sum.inr d.1 : Key), V.str d.2))).Nodup := by
  rw [show (ds.map ((fun kv => kv.1) ∘ fun d => ((Sum.inr d.1 : Key), V.str d.2))) = (keys ds).map Sum.inr by rw [keys, List.map_map]; rfl]
  exact n.map _ fun _ _ h w => h (Sum.inr.inj w)
theorem dict_pairs {K : PySem.W.Frag} {H : Hp} : ∀ {ts : List Addr} {ds : List (Str × Str)}, Paired (fun t (d : Str × Str) => H t = some (.tup [.str d.1, .str d.2])) ts ds → Paired (fun p kv => SqT K H p [kV kv.1, kv.2]) ts (ds.map fun d => ((Sum.inr d.1 : Key), V.str d.2))
  | _, _, .nil => .nil
  | _, _, .cons h t => .cons (SqT.of h) (dict_pairs t)
end SM
namespace SM
open PySem PySem.Spec PyProof.Rows L2
theorem drains_kr : ∀ {ds : List (Str × Str)}, Kr StrG (ds.map fun d => ((Sum.inr d.1 : Key), V.str d.2)) ds
  | [] => .nil
  | _ :: _ => .cons ⟨rfl, rfl⟩ drains_kr
end SM
namespace SM
open PySem PySem.Spec PyProof.Rows L2
theorem Keep.unlock {ms : List Addr} {H G : Hp} {d : Addr} {kvs : List (Key × V)} {od : Obj} (h : H d = some (.dK kvs)) (k : Keep ms (upd H d (.frz od (.dK kvs))) G) (n : d ∉ ms) : Keep ms H (upd G d (.dK kvs)) := by
  have up : ∀ b u, H b = some u → b ≠ d → (upd H d (.frz od (.dK kvs))) b = some u := fun b u e ne => (upd_ne ne).trans e
  refine ⟨fun b u e nb => ?_, fun b xs e => ?_, fun b c x f e => ?_, fun b xs e f => ?_, fun b e => ?_⟩
  · by_cases z : b = d
    · subst z
      rw [upd_same, ← h]
      exact e
    · exact (upd_ne z).trans (k.out b u (up b u e z) nb)
  · have z : b ≠ d := ne_of e h (by intro w; cases w)
    exact (upd_ne z).trans (k.tup b xs (up b _ e z))
  · have z : b ≠ d := ne_of e h (by intro w; cases w)
    exact (upd_ne z).trans (k.ins b c x f (up b _ e z))
  · have z : b ≠ d := ne_of e h (by intro w; cases w)
    exact (upd_ne z).trans (k.flat b xs (up b _ e z) f)
  · by_cases z : b = d
    · rw [z, upd_same] at e
      cases e
    · rw [upd_ne z] at e
      have q := k.has b e
      rw [upd_ne z] at q
      exact q
theorem Keep.lifted {ms : List Addr} {H H1 G : Hp} (s : Same H H1) (f : ∀ b ∈ ms, H b = none) (k : Keep ms H1 G) : Same H G := fun b u e => k.out b u (s b u e) fun m => by
  rw [f b m] at e
  cases e
def spLaid (L : Addr) : Sp := fun vs H Q _ => ∃ (m l d a b : Addr) (S : LS), vs = [.ref m] ∧ WAt H m l d a b S ∧ ∀ (A : LA) (H' : Hp), LayAt L H' A S → Same H H' → (∀ x ∈ A.ms, H x = none) → Q (.ref A.p) H'
theorem WAt.same {H H' : Hp} {m l d a b : Addr} {S : LS} (h : WAt H m l d a b S) (s : Same H H') : WAt H' m l d a b S :=
  ⟨s _ _ h.top, s _ _ h.rm, (let ⟨k, x, y⟩ := h.ln; ⟨k, s _ _ x, y.mono fun _ _ ⟨t, e, w⟩ => ⟨t, e, s _ _ w⟩⟩), (let ⟨k, x, y⟩ := h.dr; ⟨k, s _ _ x, y⟩), s _ _ h.sc, h.ok, h.ne, h.ap, h.mne⟩
end SM
namespace SM
theorem okNew : (⟨[], [], [], []⟩ : LS).Ok := LS.new_ok
end SM
/-! Part Z2: switches, some of them, a stretch. -/
namespace SM
open PySem PySem.Spec PyProof.Rows L2
def spSwitchesL : Sp := fun vs H Q _ => ∃ (m l d a b : Addr) (S : LS), vs = [.ref m] ∧ WAt H m l d a b S ∧ ∀ (r : Addr) (H' : Hp), Same H H' → H r = none → H' r = some (.lst ((swOf S).map V.str)) → Q (.ref r) H'
def spSomeL : Sp := fun vs H Q _ => ∃ (p q a : Addr) (xs : List Str), vs = [.ref p, .ref a] ∧ Bag H p q ∧ H a = some (.lst (xs.map V.str)) ∧ xs.Nodup ∧ xs.length ≤ 64 ∧
  ∀ (r : Addr) (ys : List Str) (H' : Hp), H' r = some (.lst (ys.map V.str)) → ys.Nodup → (∀ y ∈ ys, y ∈ xs) → Bag H' p q → Keep [p] H H' → Q (.ref r) H'
def spStretchL : Sp := fun vs H Q _ => ∃ (p q m l d a b : Addr) (S : LS), vs = [.ref p, .ref m] ∧ Bag H p q ∧ WAt H m l d a b S ∧
  ∀ (r : Addr) (ys : List Str) (H' : Hp), H' r = some (.lst (ys.map V.str)) → ys.Nodup → 1 ≤ ys.length → (∀ y ∈ ys, y ∈ S.rooms) → Bag H' p q → Keep [p] H H' → Q (.ref r) H'
theorem pickZ {v : Int} (h0 : 0 ≤ v) (h1 : v < 4) : ∃ y : Int, atI [V.int 1, V.int 2, V.int 3, V.int 60] v = some (.int y) ∧ 1 ≤ y ∧ y ≤ 60 := by
  obtain rfl | rfl | rfl | rfl : v = 0 ∨ v = 1 ∨ v = 2 ∨ v = 3 := by omega
  · exact ⟨1, rfl, by decide⟩
  · exact ⟨2, rfl, by decide⟩
  · exact ⟨3, rfl, by decide⟩
  · exact ⟨60, rfl, by decide⟩
end SM
namespace SM
open PySem PySem.Spec PyProof.Rows L2
theorem WAt.keep {H H' : Hp} {m l d a b p q : Addr} {S : LS} (h : WAt H m l d a b S) (B : Bag H p q) (k : Keep [p] H H') : WAt H' m l d a b S :=
  ⟨k.out _ _ h.top (by simpa using (B.nd h.top).1.symm), k.flat _ _ h.rm (flat_strs _), (let ⟨kv, x, y⟩ := h.ln; ⟨kv, k.out _ _ x (by simpa using (B.nd x).1.symm), y.line k⟩), (let ⟨kv, x, y⟩ := h.dr; ⟨kv, k.out _ _ x (by simpa using (B.nd x).1.symm), y⟩), k.flat _ _ h.sc (flat_strs _), h.ok, h.ne, h.ap, h.mne⟩
end SM
/-! Part Z3: what is joined, by the law's own way. -/
namespace SM
open PySem PySem.Spec PyProof.Rows L2
inductive RchB (S : LS) (sh xs : List Str) : Str → Prop where
  | base {z : Str} : z ∈ xs → RchB S sh xs z
  | step {a b : Str} : RchB S sh xs a → Beside S sh a b → RchB S sh xs b
theorem RchB.closed {S : LS} {sh xs fs : List Str} (a : ∀ x ∈ xs, x ∈ fs) (c : ∀ z ∈ fs, ∀ b, Beside S sh z b → b ∈ fs) {z : Str} (h : RchB S sh xs z) : z ∈ fs := by
  induction h with
  | base m => exact a _ m
  | step _ m ih => exact c _ ih _ m
theorem rch_same {S : LS} (o : S.Ok) {sh ls xs : List Str} (al : ∀ l ∈ keys S.lines, l ∈ ls) {z : Str} : Rch (leadsTo S sh ls) xs z ↔ RchB S sh xs z := by
  constructor
  · intro h
    induction h with
    | base m => exact .base m
    | step _ m ih => exact .step ih ((mem_leads o al).mp ⟨_, m⟩)
  · intro h
    induction h with
    | base m => exact .base m
    | step _ m ih =>
      obtain ⟨l, w⟩ := (mem_leads o al).mpr m
      exact .step ih w
def spJoinedL : Sp := fun vs H Q _ => ∃ (m l d a b s r : Addr) (S : LS) (sh xs : List Str), vs = [.ref m, .ref s, .ref r] ∧ WAt H m l d a b S ∧ H s = some (.lst (sh.map V.str)) ∧ H r = some (.lst (xs.map V.str)) ∧ xs.Nodup ∧ (∀ x ∈ xs, x ∈ S.rooms) ∧
  ∀ (D : Addr) (H' : Hp) (kvs : List (Key × V)) (fs : List Str), H' D = some (.dK kvs) → Kr TrueG kvs (uT fs) → fs.Nodup → (∀ z ∈ fs, z ∈ S.rooms) → (∀ z, z ∈ fs ↔ RchB S sh xs z) → Same H H' → H D = none → Q (.ref D) H'
theorem true_kr : ∀ {xs : List Str}, Kr TrueG (xs.map fun z => ((Sum.inr z : Key), V.bl true)) (uT xs)
  | [] => .nil
  | _ :: _ => .cons ⟨rfl, rfl⟩ true_kr
theorem true_pairs {K : PySem.W.Frag} {H : Hp} : ∀ {ts : List Addr} {xs : List Str}, Paired (fun t z => H t = some (.tup [.str z, .bl true])) ts xs → Paired (fun p kv => SqT K H p [kV kv.1, kv.2]) ts (xs.map fun z => ((Sum.inr z : Key), V.bl true))
  | _, _, .nil => .nil
  | _, _, .cons h t => .cons (SqT.of h) (true_pairs t)
theorem nodup_true {xs : List Str} (n : xs.Nodup) : ((xs.map fun z => ((Sum.inr z : Key), V.bl true)).map (·.1)).Nodup := by
  rw [List.map_map]
  exact n.map _ fun _ _ h w => h (Sum.inr.inj w)
end SM
/-! Part Z4: live rooms and borders. -/
namespace SM
open PySem PySem.Spec PyProof.Rows L2
section
variable (L : Addr)
def spCheckShut : Sp := fun vs H Q _ => ∃ (A : LA) (S : LS) (a : Addr) (sh : List Str), vs = [.ref A.p, .ref a] ∧ LayAt L H A S ∧ S.Ok ∧ H a = some (.lst (sh.map V.str)) ∧ sh.Nodup ∧ (∀ x ∈ sh, x ∈ swOf S) ∧ ∀ H', Same H H' → Q .non H'
def spLive : Sp := fun vs H Q _ => ∃ (A : LA) (S : LS) (a : Addr) (sh : List Str), vs = [.ref A.p, .ref a] ∧ LayAt L H A S ∧ S.Ok ∧ H a = some (.lst (sh.map V.str)) ∧ sh.Nodup ∧ (∀ x ∈ sh, x ∈ swOf S) ∧
  ∀ (H' : Hp) (p : Addr) (ls zs ys : List Str), Srt ls (keys S.lines) → zs.Nodup → (∀ z, z ∈ zs ↔ Rch (leadsTo S sh ls) S.sources z) → Srt ys zs → Same H H' → H p = none → H' p = some (.lst (ys.map V.str)) → Q (.ref p) H'
/-- just one of the line's ends is among xs -/
def edgeB (S : LS) (xs : List Str) (l : Str) : Bool := match look S.lines l with
  | some e => !decide (V.bl (decide (e.1 ∈ xs)) = V.bl (decide (e.2.1 ∈ xs)))
  | none => false
def spBorder : Sp := fun vs H Q _ => ∃ (A : LA) (S : LS) (a : Addr) (xs : List Str), vs = [.ref A.p, .ref a] ∧ LayAt L H A S ∧ S.Ok ∧ H a = some (.lst (xs.map V.str)) ∧ xs.Nodup ∧ (∀ x ∈ xs, x ∈ S.rooms) ∧
  ∀ (H' : Hp) (p : Addr) (ls : List Str), Srt ls (keys S.lines) → Same H H' → H p = none → H' p = some (.lst ((ls.filter (edgeB S xs)).map V.str)) → Q (.ref p) H'
end
theorem edge_eq {S : LS} {xs : List Str} {l : Str} {e : LineV} (el : look S.lines l = some e) : edgeB S xs l = !decide (V.bl (decide (e.1 ∈ xs)) = V.bl (decide (e.2.1 ∈ xs))) := by
  unfold edgeB
  rw [el]
theorem Rch.mono {f : Str → List (Str × Str)} {xs ys : List Str} (s : ∀ x ∈ xs, x ∈ ys) {z : Str} (h : Rch f xs z) : Rch f ys z := by
  induction h with
  | base m => exact .base (s _ m)
  | step _ m ih => exact .step ih m
end SM
/-! Part Z5: edges, by the law's own way. -/
namespace SM
open PySem PySem.Spec PyProof.Rows L2
def spEdge : Sp := fun vs H Q _ => ∃ (m l d a b r : Addr) (S : LS) (xs : List Str), vs = [.ref m, .ref r] ∧ WAt H m l d a b S ∧ H r = some (.lst (xs.map V.str)) ∧ xs.length ≤ 64 ∧
  ∀ (H' : Hp) (p : Addr) (ls : List Str), Srt ls (keys S.lines) → Same H H' → H p = none → H' p = some (.lst ((ls.filter (edgeB S xs)).map V.str)) → Q (.ref p) H'
theorem rows_fine3 {xss : List (List Str)} (h : ∀ xs ∈ xss, xs.length ≤ 40 ∧ ∀ x ∈ xs, okName x = true) (l : xss.length ≤ 3) : Fine (rowsD xss) :=
  (Sm.lst (SmAll.map (k := 1) (w := 680) rowD fun xs hx => (names_sm (h xs hx).2).mono (Nat.le_refl _) (by have := (h xs hx).1; omega))).fine (by decide) (by rw [List.length_map]; omega)
theorem edge_len {S : LS} {xs : List Str} {l : Str} {e : LineV} (el : look S.lines l = some e) : edgeB S xs l = decide (([e.1, e.2.1].filter fun z => decide (z ∈ xs)).length = 1) := by
  rw [edge_eq el]
  by_cases h1 : e.1 ∈ xs <;> by_cases h2 : e.2.1 ∈ xs <;> simp [h1, h2]
theorem edge_shut {S : LS} (o : S.Ok) {sh fs : List Str} (c : ∀ z ∈ fs, ∀ b, Beside S sh z b → b ∈ fs) {l : Str} (h : edgeB S fs l = true) : l ∈ sh := by
  cases el : look S.lines l with
  | none =>
    unfold edgeB at h
    rw [el] at h
    cases h
  | some e =>
    rw [edge_eq el] at h
    refine Classical.byContradiction fun n => ?_
    have me := (look_iff o.lN).mp el
    have iff : e.1 ∈ fs ↔ e.2.1 ∈ fs := ⟨fun w => c _ w _ ⟨_, me, n, .inl ⟨rfl, rfl⟩⟩, fun w => c _ w _ ⟨_, me, n, .inr ⟨rfl, rfl⟩⟩⟩
    rw [decide_eq_decide.mpr iff, decide_eq_true rfl] at h
    cases h
theorem edge_same {S : LS} {xs ys : List Str} (e : ∀ z, z ∈ xs ↔ z ∈ ys) : edgeB S xs = edgeB S ys := by
  funext l
  cases el : look S.lines l with
  | none =>
    unfold edgeB
    rw [el]
  | some q => rw [edge_eq el, edge_eq el, decide_eq_decide.mpr (e q.1), decide_eq_decide.mpr (e q.2.1)]
theorem edge_other {S : LS} (o : S.Ok) {xs ys : List Str} (e : ∀ z, z ∈ ys ↔ (z ∈ S.rooms ∧ z ∉ xs)) : edgeB S ys = edgeB S xs := by
  funext l
  cases el : look S.lines l with
  | none =>
    unfold edgeB
    rw [el]
  | some q =>
    obtain ⟨i1, i2, _⟩ := o.lI _ ((look_iff o.lN).mp el)
    rw [edge_eq el, edge_eq el]
    have h1 : q.1 ∈ ys ↔ q.1 ∉ xs := (e q.1).trans ⟨fun w => w.2, fun w => ⟨i1, w⟩⟩
    have h2 : q.2.1 ∈ ys ↔ q.2.1 ∉ xs := (e q.2.1).trans ⟨fun w => w.2, fun w => ⟨i2, w⟩⟩
    by_cases a : q.1 ∈ xs <;> by_cases b : q.2.1 ∈ xs <;> simp [h1, h2, a, b]
end SM
/-! Part W: parts, what is wet when all has settled, what spills. -/
namespace SM
open PySem PySem.Spec PyProof.Rows L2
theorem Beside.symm {S : LS} {sh : List Str} {a b : Str} (h : Beside S sh a b) : Beside S sh b a := by
  obtain ⟨e, m, n, h⟩ := h
  exact ⟨e, m, n, h.elim (fun w => .inr ⟨w.2, w.1⟩) fun w => .inl ⟨w.2, w.1⟩⟩
theorem RchB.join {S : LS} {sh xs : List Str} {a b : Str} (h : RchB S sh xs a) (k : RchB S sh [a] b) : RchB S sh xs b := by
  induction k with
  | base m => rw [List.mem_singleton.mp m]; exact h
  | step _ m ih => exact .step ih m
theorem RchB.refl {S : LS} {sh : List Str} {a : Str} : RchB S sh [a] a := .base (.head _)
theorem RchB.symm {S : LS} {sh : List Str} {a b : Str} (h : RchB S sh [a] b) : RchB S sh [b] a := by
  induction h with
  | base m => rw [List.mem_singleton.mp m]; exact .refl
  | step _ m ih => exact RchB.join (.step .refl m.symm) ih
theorem RchB.from {S : LS} {sh xs : List Str} {z : Str} (h : RchB S sh xs z) : ∃ x ∈ xs, RchB S sh [x] z := by
  induction h with
  | base m => exact ⟨_, m, .refl⟩
  | step _ m ih =>
    obtain ⟨x, mx, k⟩ := ih
    exact ⟨x, mx, .step k m⟩
theorem RchB.to {S : LS} {sh xs : List Str} {x z : Str} (m : x ∈ xs) (h : RchB S sh [x] z) : RchB S sh xs z := RchB.join (.base m) h
theorem RchB.rooms {S : LS} (o : S.Ok) {sh xs : List Str} (s : ∀ x ∈ xs, x ∈ S.rooms) {z : Str} (h : RchB S sh xs z) : z ∈ S.rooms := by
  refine RchB.closed s (fun a _ b hb => ?_) h
  obtain ⟨e, me, _, hb⟩ := hb
  obtain ⟨i1, i2, _⟩ := o.lI e me
  rcases hb with ⟨_, w⟩ | ⟨_, w⟩
  · rw [← w]
    exact i2
  · rw [← w]
    exact i1
open Classical in
/-- the rooms of rs that are joined with r -/
noncomputable def clsOf (S : LS) (sh rs : List Str) (r : Str) : List Str := rs.filter fun z => decide (RchB S sh [r] z)
noncomputable def isF (S : LS) (sh rs : List Str) (r : Str) : Bool := decide ((clsOf S sh rs r).head? = some r)
noncomputable def partsOf (S : LS) (sh rs : List Str) : List (List Str) := (rs.filter (isF S sh rs)).map (clsOf S sh rs)
section
variable {S : LS} {sh rs : List Str}
theorem mem_cls {r z : Str} : z ∈ clsOf S sh rs r ↔ z ∈ rs ∧ RchB S sh [r] z := by
  unfold clsOf
  rw [List.mem_filter]
  simp
theorem cls_same {a b : Str} (h : RchB S sh [a] b) : clsOf S sh rs a = clsOf S sh rs b := by
  unfold clsOf
  refine List.filter_congr fun z _ => ?_
  have e : RchB S sh [a] z ↔ RchB S sh [b] z := ⟨fun w => RchB.join h.symm w, fun w => RchB.join h w⟩
  simp [e]
theorem cls_nodup (n : rs.Nodup) {r : Str} : (clsOf S sh rs r).Nodup := n.filter _
theorem cls_sorted (h : sortedS rs = true) {r : Str} : sortedS (clsOf S sh rs r) = true := risingS_sub ((sorted_pw h).filter _)
/-- what is told sorted of the rooms that are joined with r is this -/
theorem cls_one (o : S.Ok) (h : Srt rs S.rooms) {r : Str} (mr : r ∈ S.rooms) {ys zs : List Str} (sy : Srt ys zs) (nz : zs.Nodup) (iff : ∀ z, z ∈ zs ↔ RchB S sh [r] z) : ys = clsOf S sh rs r := by
  have n : rs.Nodup := h.1.nodup_iff.mpr o.rN
  refine Srt.same sy ⟨List.Perm.refl _, cls_sorted h.2⟩ nz (cls_nodup n) fun z => (iff z).trans ?_
  rw [mem_cls]
  exact ⟨fun w => ⟨h.1.mem_iff.mpr (RchB.rooms o (by simpa using mr) w), w⟩, fun w => w.2⟩
theorem first_iff (n : rs.Nodup) {i : Nat} {r : Str} (e : rs[i]? = some r) : isF S sh rs r = true ↔ ∀ w ∈ rs.take i, ¬ RchB S sh [w] r := by
  have hi := (List.getElem?_eq_some_iff.mp e).1
  have e1 : rs = rs.take i ++ r :: rs.drop (i + 1) := by
    have := List.drop_eq_getElem_cons hi
    rw [(List.getElem?_eq_some_iff.mp e).2] at this
    rw [← this, List.take_append_drop]
  have e2 : clsOf S sh rs r = clsOf S sh (rs.take i) r ++ clsOf S sh (r :: rs.drop (i + 1)) r := by
    unfold clsOf
    rw [← List.filter_append, ← e1]
  have e3 : clsOf S sh (r :: rs.drop (i + 1)) r = r :: clsOf S sh (rs.drop (i + 1)) r := by
    unfold clsOf
    rw [List.filter_cons, if_pos (by simpa using RchB.refl)]
  unfold isF
  rw [decide_eq_true_iff, e2, e3]
  constructor
  · intro h w mw hw
    have mc : w ∈ clsOf S sh (rs.take i) r := mem_cls.mpr ⟨mw, hw.symm⟩
    cases hc : clsOf S sh (rs.take i) r with
    | nil => rw [hc] at mc; cases mc
    | cons x t =>
      rw [hc] at h
      have ex : x = r := Option.some.inj h
      have mx : x ∈ rs.take i := (mem_cls (r := r)).mp (by rw [hc]; exact .head _) |>.1
      rw [ex] at mx
      rw [e1] at n
      exact (List.nodup_append.mp n).2.2 r mx r (.head _) rfl
  · intro h
    have : clsOf S sh (rs.take i) r = [] := by
      refine List.eq_nil_iff_forall_not_mem.mpr fun w mw => ?_
      obtain ⟨m, k⟩ := mem_cls.mp mw
      exact h w m k.symm
    rw [this]
    rfl
/-- a room's own part -/
theorem part_of (n : rs.Nodup) {z : Str} (mz : z ∈ rs) : clsOf S sh rs z ∈ partsOf S sh rs := by
  have mc : z ∈ clsOf S sh rs z := mem_cls.mpr ⟨mz, .refl⟩
  cases hc : clsOf S sh rs z with
  | nil => rw [hc] at mc; cases mc
  | cons h t =>
    obtain ⟨m, k⟩ := (mem_cls (r := z)).mp (by rw [hc]; exact .head _ : h ∈ clsOf S sh rs z)
    have e : clsOf S sh rs h = h :: t := by rw [← cls_same k, hc]
    refine List.mem_map.mpr ⟨h, List.mem_filter.mpr ⟨m, ?_⟩, e⟩
    unfold isF
    rw [e]
    exact decide_eq_true rfl
theorem part_is {p : List Str} (h : p ∈ partsOf S sh rs) : ∃ r, r ∈ rs ∧ p = clsOf S sh rs r ∧ p.head? = some r := by
  obtain ⟨r, mr, rfl⟩ := List.mem_map.mp h
  obtain ⟨m, f⟩ := List.mem_filter.mp mr
  unfold isF at f
  exact ⟨r, m, rfl, of_decide_eq_true f⟩
theorem part_own {p : List Str} (h : p ∈ partsOf S sh rs) {z : Str} (mz : z ∈ p) : p = clsOf S sh rs z := by
  obtain ⟨r, m, rfl, _⟩ := part_is h
  exact cls_same (mem_cls.mp mz).2
theorem parts_nodup (n : rs.Nodup) : (partsOf S sh rs).flatten.Nodup := by
  refine List.pairwise_flatten.mpr ⟨fun p m => ?_, ?_⟩
  · obtain ⟨r, _, rfl, _⟩ := part_is m
    exact cls_nodup n
  · unfold partsOf
    rw [List.pairwise_map]
    refine (n.filter _).imp_of_mem fun {a b} ha hb ne => ?_
    intro z za z2 zb ez
    subst ez
    have fa := (List.mem_filter.mp ha).2
    have fb := (List.mem_filter.mp hb).2
    unfold isF at fa fb
    have e : clsOf S sh rs a = clsOf S sh rs b := by rw [cls_same (mem_cls.mp za).2, cls_same (mem_cls.mp zb).2]
    have ha' := of_decide_eq_true fa
    have hb' := of_decide_eq_true fb
    rw [e, hb'] at ha'
    exact ne (Option.some.inj ha').symm
theorem parts_mem (n : rs.Nodup) {z : Str} : z ∈ (partsOf S sh rs).flatten ↔ z ∈ rs := by
  rw [List.mem_flatten]
  constructor
  · rintro ⟨p, mp, mz⟩
    obtain ⟨r, _, rfl, _⟩ := part_is mp
    exact (mem_cls.mp mz).1
  · exact fun m => ⟨_, part_of n m, mem_cls.mpr ⟨m, .refl⟩⟩
theorem parts_len : (partsOf S sh rs).length ≤ rs.length := by
  unfold partsOf
  rw [List.length_map]
  exact List.length_filter_le _ _
theorem parts_heads (h : sortedS rs = true) : (partsOf S sh rs).map (fun p => p.head?) = (rs.filter (isF S sh rs)).map some ∧ sortedS (rs.filter (isF S sh rs)) = true := by
  refine ⟨?_, risingS_sub ((sorted_pw h).filter _)⟩
  unfold partsOf
  rw [List.map_map]
  refine List.map_congr_left fun r m => ?_
  have f := (List.mem_filter.mp m).2
  unfold isF at f
  exact of_decide_eq_true f
end
/-! ### what is wet -/
def meetB (xs ys : List Str) : Bool := xs.any fun z => decide (z ∈ ys)
def wetB (src dr we p : List Str) : Bool := if meetB p src = true then true else if meetB p dr = true then false else meetB p we
theorem meet_iff {xs ys : List Str} : meetB xs ys = true ↔ ∃ z ∈ xs, z ∈ ys := by
  unfold meetB
  rw [List.any_eq_true]
  exact ⟨fun ⟨z, a, b⟩ => ⟨z, a, of_decide_eq_true b⟩, fun ⟨z, a, b⟩ => ⟨z, a, decide_eq_true b⟩⟩
theorem meet_same {xs ys zs : List Str} (e : ∀ z, z ∈ ys ↔ z ∈ zs) : meetB xs ys = meetB xs zs := by
  rw [Bool.eq_iff_iff, meet_iff, meet_iff]
  exact ⟨fun ⟨z, a, b⟩ => ⟨z, a, (e z).mp b⟩, fun ⟨z, a, b⟩ => ⟨z, a, (e z).mpr b⟩⟩
theorem wet_same {s1 s2 d1 d2 w1 w2 p : List Str} (a : ∀ z, z ∈ s1 ↔ z ∈ s2) (b : ∀ z, z ∈ d1 ↔ z ∈ d2) (c : ∀ z, z ∈ w1 ↔ z ∈ w2) : wetB s1 d1 w1 p = wetB s2 d2 w2 p := by
  unfold wetB
  rw [meet_same a, meet_same b, meet_same c]
def roomOf (S : LS) (d : Str) : Str := (look S.drains d).getD ""
noncomputable def settledOf (S : LS) (sh op we rs : List Str) : List Str := ((partsOf S sh rs).filter (wetB S.sources (op.map (roomOf S)) we)).flatten
theorem settled_nodup {S : LS} {sh op we rs : List Str} (n : rs.Nodup) : (settledOf S sh op we rs).Nodup := by
  obtain ⟨a, b⟩ := List.pairwise_flatten.mp (parts_nodup (S := S) (sh := sh) n)
  exact List.pairwise_flatten.mpr ⟨fun l m => a l (List.mem_filter.mp m).1, b.filter _⟩
theorem settled_mem {S : LS} {sh op we rs : List Str} (n : rs.Nodup) {z : Str} : z ∈ settledOf S sh op we rs ↔ z ∈ rs ∧ wetB S.sources (op.map (roomOf S)) we (clsOf S sh rs z) = true := by
  unfold settledOf
  rw [List.mem_flatten]
  constructor
  · rintro ⟨p, mp, mz⟩
    obtain ⟨m, w⟩ := List.mem_filter.mp mp
    rw [part_own m mz] at w mz
    exact ⟨(mem_cls.mp mz).1, w⟩
  · rintro ⟨m, w⟩
    exact ⟨_, List.mem_filter.mpr ⟨part_of n m, w⟩, mem_cls.mpr ⟨m, .refl⟩⟩
open Classical in
noncomputable def spillOf (S : LS) (sh op : List Str) : List Str := op.filter fun d => decide (RchB S sh S.sources (roomOf S d))
/-- what spills is wet, of the open drains -/
theorem spill_wet {S : LS} (o : S.Ok) {sh op we rs : List Str} (sr : Srt rs S.rooms) {d : Str} (md : d ∈ op) (dk : roomOf S d ∈ S.rooms) : (roomOf S d ∈ settledOf S sh op we rs) ↔ d ∈ spillOf S sh op := by
  have n : rs.Nodup := sr.1.nodup_iff.mpr o.rN
  have mr := sr.1.mem_iff.mpr dk
  rw [settled_mem n]
  unfold spillOf
  rw [List.mem_filter]
  have hd : meetB (clsOf S sh rs (roomOf S d)) (op.map (roomOf S)) = true := meet_iff.mpr ⟨roomOf S d, mem_cls.mpr ⟨mr, .refl⟩, List.mem_map_of_mem md⟩
  unfold wetB
  rw [hd]
  have k : meetB (clsOf S sh rs (roomOf S d)) S.sources = true ↔ RchB S sh S.sources (roomOf S d) := by
    rw [meet_iff]
    constructor
    · rintro ⟨z, a, b⟩
      exact .to b (mem_cls.mp a).2.symm
    · intro h
      obtain ⟨x, mx, kx⟩ := h.from
      exact ⟨x, mem_cls.mpr ⟨sr.1.mem_iff.mpr (o.sI x mx), kx.symm⟩, mx⟩
  constructor
  · rintro ⟨_, w⟩
    refine ⟨md, ?_⟩
    by_cases c : meetB (clsOf S sh rs (roomOf S d)) S.sources = true
    · simpa using k.mp c
    · rw [if_neg c] at w
      cases w
  · rintro ⟨_, w⟩
    exact ⟨mr, by rw [if_pos (k.mpr (by simpa using w))]⟩
section
variable (L : Addr)
def spPartsOf : Sp := fun vs H Q _ => ∃ (A : LA) (S : LS) (a : Addr) (sh : List Str), vs = [.ref A.p, .ref a] ∧ LayAt L H A S ∧ S.Ok ∧ H a = some (.lst (sh.map V.str)) ∧ sh.Nodup ∧ (∀ x ∈ sh, x ∈ swOf S) ∧
  ∀ (H' : Hp) (p : Addr) (rs : List Str) (gs : List Addr), Srt rs S.rooms → Same H H' → H p = none → H' p = some (.lst (gs.map V.ref)) → Lists H' gs (partsOf S sh rs) → Q (.ref p) H'
def spMeet : Sp := fun vs H Q _ => ∃ (a b : Addr) (xs ys : List Str), vs = [.ref a, .ref b] ∧ H a = some (.lst (xs.map V.str)) ∧ H b = some (.lst (ys.map V.str)) ∧ xs.length ≤ 900 ∧ ∀ H', Same H H' → Q (.bl (meetB xs ys)) H'
def spIsWet : Sp := fun vs H Q _ => ∃ (p a b c : Addr) (xs s d w : List Str), vs = [.ref p, .ref a, .ref b, .ref c] ∧ H p = some (.lst (xs.map V.str)) ∧ H a = some (.lst (s.map V.str)) ∧ H b = some (.lst (d.map V.str)) ∧ H c = some (.lst (w.map V.str)) ∧ xs.length ≤ 900 ∧ ∀ H', Same H H' → Q (.bl (wetB s d w xs)) H'
structure Asks3 (H : Hp) (A : LA) (S : LS) (a b : Addr) (sh op : List Str) : Prop where
  lay : LayAt L H A S
  ok : S.Ok
  ha : H a = some (.lst (sh.map V.str))
  hb : H b = some (.lst (op.map V.str))
  na : sh.Nodup
  nb : op.Nodup
  sa : ∀ x ∈ sh, x ∈ swOf S
  sb : ∀ x ∈ op, x ∈ keys S.drains
theorem Asks3.same {H H' : Hp} {A : LA} {S : LS} {a b : Addr} {sh op : List Str} (h : Asks3 L H A S a b sh op) (s : Same H H') : Asks3 L H' A S a b sh op :=
  ⟨h.lay.same s, h.ok, s _ _ h.ha, s _ _ h.hb, h.na, h.nb, h.sa, h.sb⟩
theorem Asks3.la {H : Hp} {A : LA} {S : LS} {a b : Addr} {sh op : List Str} (h : Asks3 L H A S a b sh op) : sh.length ≤ 40 := by
  have := nodup_len h.na fun x m => swOf_sub (h.sa x m)
  have h2 : (keys S.lines).length ≤ 40 := by rw [keys, List.length_map]; exact h.ok.lL
  omega
theorem Asks3.lb {H : Hp} {A : LA} {S : LS} {a b : Addr} {sh op : List Str} (h : Asks3 L H A S a b sh op) : op.length ≤ 12 := by
  have := nodup_len h.nb h.sb
  have h2 : (keys S.drains).length ≤ 12 := by rw [keys, List.length_map]; exact h.ok.dL
  omega
def spSettled : Sp := fun vs H Q _ => ∃ (A : LA) (S : LS) (a b c : Addr) (sh op we : List Str), vs = [.ref A.p, .ref a, .ref b, .ref c] ∧ Asks3 L H A S a b sh op ∧ H c = some (.lst (we.map V.str)) ∧ we.Nodup ∧ (∀ x ∈ we, x ∈ S.rooms) ∧
  ∀ (H' : Hp) (p : Addr) (rs ys : List Str), Srt rs S.rooms → Srt ys (settledOf S sh op we rs) → Same H H' → H p = none → H' p = some (.lst (ys.map V.str)) → Q (.ref p) H'
def spSpilling : Sp := fun vs H Q _ => ∃ (A : LA) (S : LS) (a b : Addr) (sh op : List Str), vs = [.ref A.p, .ref a, .ref b] ∧ Asks3 L H A S a b sh op ∧
  ∀ (H' : Hp) (p : Addr) (ys : List Str), Srt ys (spillOf S sh op) → Same H H' → H p = none → H' p = some (.lst (ys.map V.str)) → Q (.ref p) H'
end
def spPartsL : Sp := fun vs H Q _ => ∃ (m l d a b s : Addr) (S : LS) (sh : List Str), vs = [.ref m, .ref s] ∧ WAt H m l d a b S ∧ H s = some (.lst (sh.map V.str)) ∧
  ∀ (H' : Hp) (p : Addr) (rs : List Str) (gs : List Addr), Srt rs S.rooms → Same H H' → H p = none → H' p = some (.lst (gs.map V.ref)) → Lists H' gs (partsOf S sh rs) → Q (.ref p) H'
def spSettledL : Sp := fun vs H Q _ => ∃ (m l d a b s o w : Addr) (S : LS) (sh op we : List Str), vs = [.ref m, .ref s, .ref o, .ref w] ∧ WAt H m l d a b S ∧ H s = some (.lst (sh.map V.str)) ∧ H o = some (.lst (op.map V.str)) ∧ H w = some (.lst (we.map V.str)) ∧ (∀ x ∈ op, x ∈ keys S.drains) ∧ op.length ≤ 64 ∧
  ∀ (H' : Hp) (p : Addr) (rs ys : List Str), Srt rs S.rooms → Srt ys (settledOf S sh op we rs) → Same H H' → H p = none → H' p = some (.lst (ys.map V.str)) → Q (.ref p) H'
theorem uT_app (xs ys : List Str) : uT (xs ++ ys) = uT xs ++ uT ys := List.map_append
theorem Kr.app {α : Type} {G : V → α → Prop} : ∀ {k1 k2 : List (Key × V)} {t1 t2 : List (Str × α)}, Kr G k1 t1 → Kr G k2 t2 → Kr G (k1 ++ k2) (t1 ++ t2)
  | _, _, _, _, .nil, k => k
  | _, _, _, _, .cons h t, k => .cons h (Kr.app t k)
/-- one dict of names, and another one put behind it -/
theorem merge_names {k1 k2 : List (Key × V)} {xs ys : List Str} (h : Kr TrueG k1 (uT xs)) (k : Kr TrueG k2 (uT ys)) (n : ys.Nodup) (d : ∀ y ∈ ys, y ∉ xs) : mergeK k1 k2 = k1 ++ k2 ∧ Kr TrueG (k1 ++ k2) (uT (xs ++ ys)) := by
  refine ⟨mergeK_new ?_ ?_, ?_⟩
  · rw [k.uT_names]
    exact n.map _ fun _ _ h w => h (Sum.inr.inj w)
  · intro p m
    have mp : p.1 ∈ k2.map (·.1) := List.mem_map_of_mem m
    rw [k.uT_names] at mp
    obtain ⟨y, my, e⟩ := List.mem_map.mp mp
    rw [← e]
    exact h.no (uT_none.mpr (d y my))
  · rw [uT_app]
    exact h.app k
/-! ### a walk over a list, of any body -/
theorem lw_list {K : PySem.W.Frag} {a : Addr} {xs : List V} {B : V → Hp → (Hp → Prop) → Prop} {H0 : Hp} {Qd : Hp → Prop} (Pv : Nat → Hp → Prop) (h0 : Pv 0 H0) (hl : ∀ i H, i ≤ xs.length → Pv i H → SqL K H a xs)
    (hs : ∀ i x H, xs[i]? = some x → Pv i H → B x H (Pv (i + 1))) (hd : ∀ H, Pv xs.length H → Qd H) :
    ∃ W : Nat → Nat → Hp → Prop, (∃ m, W 0 m H0) ∧ ∀ i m H, W i m H →
      ((Itl K a).stop i H ∧ Qd H) ∨ ((Itl K a).go i H ∧ ∃ Nx : Hp → Prop, (∀ H', Nx H' → ∃ m', m' < m ∧ W (i + 1) m' H') ∧ ∀ x H', (Itl K a).yld i H x H' → B x H' Nx) := by
  refine ⟨fun i m H => m = xs.length - i ∧ i ≤ xs.length ∧ Pv i H, ⟨xs.length, by simp, Nat.zero_le _, h0⟩, ?_⟩
  rintro i m H ⟨rfl, hi, p⟩
  have q := hl i H hi p
  by_cases hlt : i < xs.length
  · refine .inr ⟨⟨xs, xs[i], q, by simp [hlt]⟩, Pv (i + 1), fun H' p' => ⟨xs.length - (i + 1), by omega, rfl, hlt, p'⟩, fun x H' y => ?_⟩
    obtain ⟨e, y⟩ := y
    subst e
    exact hs i x _ (y xs q) p
  · have e : i = xs.length := by omega
    subst e
    exact .inl ⟨⟨xs, q, Nat.le_refl _⟩, hd H p⟩
theorem pi_listK {X : Cx} {K : PySem.W.Frag} {tg l : Expr} {tl : TE} (e : X.K = K) (hl : PE X l tl) : PI X tg l (iList K tl) := by
  subst e
  exact pi_list hl
theorem call_isiK {X : Cx} {K : PySem.W.Frag} (e : X.K = K) : CallR X (.builtin "isinstance") (rIsi K) := by
  subst e
  exact call_isi
theorem op_neDK {X : Cx} {K : PySem.W.Frag} (e : X.K = K) (hu : X.A.units + 64 < cLine) : OpR X (compareOp .NotEq) (rNeD K) := by
  subst e
  exact op_neD hu
theorem op_eqDK {X : Cx} {K : PySem.W.Frag} (e : X.K = K) (hu : X.A.units + 64 < cLine) : OpR X (compareOp .Eq) (rEqD K) := by
  subst e
  exact op_eqD hu
theorem names_self {ys : List Str} (h : ∀ y ∈ ys, okName y = true) : PyData.eqv (.list (ys.map PyData.str)) (.list (ys.map PyData.str)) = true := eqv_self _ (names_sm h).lay
theorem atI_head {r : Str} {t : List Str} : atI ((r :: t).map V.str) 0 = some (.str r) := by
  obtain ⟨z, ez, az⟩ := atI_strs (rs := r :: t) (v := 0) (Int.le_refl _) (by rw [List.length_cons]; omega)
  cases ez
  exact az
theorem cut_head {r : Str} {t : List Str} : cutV ((r :: t).map V.str) none (some 1) = [V.str r] := (cutV_take _ 1).trans rfl
theorem rows_nil5 : Fine (rowsD [[], [], [], [], []]) :=
  (Sm.lst (SmAll.map (k := 1) (w := 17) rowD fun xs hx => by
    have e : xs = [] := by simpa using hx
    rw [e]
    exact (names_sm (ys := []) (fun y h => by cases h)).mono (Nat.le_refl _) (by decide))).fine (by decide) (by decide)
theorem srt_nil {ys : List Str} (h : Srt ys []) : ys = [] := List.Perm.eq_nil h.1
theorem Rch.none {f : Str → List (Str × Str)} {z : Str} (h : Rch f [] z) : False := by
  induction h with
  | base m => cases m
  | step _ _ ih => exact ih
end SM
/-! Part W11: the set of any list of texts; names and layouts that are asked for, of any kind. -/
namespace SM
open PySem PySem.Spec PyProof.Rows
section
variable {prog : Program} {w : World} {A : Around} {E : Value → Shared → Prop} {s : Shared}
/-- one text more, or once more -/
theorem addAny {a : Addr} {zs : List Str} {z : Str} {t : Tok} {Q : Bool → Shared → Prop} (x : TextSet prog w s.heap a zs) (room : zs.length + 1 < scanBound)
    (h : ∀ b h', Heap.SameBut a s.heap h' → TextSet prog w h' a (if z ∈ zs then zs else zs ++ [z]) → Q b { s with heap := h', toks := s.toks + 1 }) :
    wpAny (model prog w) A (holding [Value.str z t] (setAdd a (.str z t))) Q E s := by
  refine wpAny_holding (wpAny_holding (wpAny_bind (wpAny_pyHash_str
    (wpAny_setAddHashed_of (knd := PySem.strKind prog w) (k := z) (s := { s with toks := s.toks + 1 }) (strKind_is _ _ _ _) rfl x room fun h' sb y => h _ h' sb ?_))))
  by_cases q : z ∈ zs
  · rw [if_pos q]
    refine SetOf_congr y (fun k => ?_) (by rw [decide_eq_true q]; rfl)
    rw [← Bool.decide_or]
    exact decide_eq_decide.mpr ⟨fun o => o.elim id fun e => e ▸ q, .inl⟩
  · rw [if_neg q]
    refine SetOf_congr y (fun k => ?_) (by rw [decide_eq_false q, List.length_append]; rfl)
    rw [← Bool.decide_or]
    exact decide_eq_decide.mpr (by rw [List.mem_append, List.mem_singleton])
/-- zs: what was met, each once -/
structure OnceOf (zs met : List Str) : Prop where
  nd : zs.Nodup
  mem : ∀ k, k ∈ zs ↔ k ∈ met
  len : zs.length ≤ met.length
theorem OnceOf.step {zs met : List Str} {z : Str} (o : OnceOf zs met) : OnceOf (if z ∈ zs then zs else zs ++ [z]) (met ++ [z]) := by
  by_cases q : z ∈ zs
  · rw [if_pos q]
    refine ⟨o.nd, fun k => ?_, by rw [List.length_append]; exact Nat.le_trans o.len (Nat.le_add_right _ _)⟩
    rw [List.mem_append, List.mem_singleton, ← o.mem]
    exact ⟨.inl, fun h => h.elim id fun e => e ▸ q⟩
  · rw [if_neg q]
    refine ⟨List.nodup_append.mpr ⟨o.nd, by simp, fun a ha b hb e => q (by rw [← List.mem_singleton.mp hb, ← e]; exact ha)⟩, fun k => ?_, ?_⟩
    · rw [List.mem_append, List.mem_append, List.mem_singleton, o.mem]
    · rw [List.length_append, List.length_append]
      exact Nat.succ_le_succ o.len
variable {R : Result → Shared → Prop} {I : Addr} {fp wr : List Addr} {G : Array GenState → Array GenState → Prop} {n : Nat} {P : Nat → Value → Prop} {St : Nat → Shared → Prop}
theorem textsLoopA (W : WalksS prog w A.in1 I fp wr G n P St) {b : Addr} (out : b ∉ fp) {all : List Str} (ln : all.length = n) (room : n + 1 < scanBound) (hv : ∀ i v, P i v → ∃ z t, all[i]? = some z ∧ v = .str z t) :
    ∀ (left met zs : List Str), all = met ++ left → OnceOf zs met → ∀ s : Shared, St met.length s → TextSet prog w s.heap b zs →
      (∀ s' ys, Moved (b :: wr) G s s' → OnceOf ys all → TextSet prog w s'.heap b ys → R (.ok (.ret .none)) s') →
      codeAny (model prog w) A (.builtin "set.update.loop" ⟨[.ref b, .ref I], []⟩) R s
  | [], met, zs, e, oz, s, st, x, k => by
    rw [List.append_nil] at e
    subst e
    rw [ln] at st
    refine codeAny_builtin F.entry_set_update_loop (by
      rw [Around.under_plainId F.plain_set_update_loop]
      exact wpAny_bind (W.done s _ _ st fun s' mv => wpAny_pure (k s' zs (mv.mono fun c hc => .tail _ hc) oz (x.off fun o => mv.heap b o fun z => out (W.sub b z)))))
  | z :: left, met, zs, e, oz, s, st, x, k => by
    have at_ : all[met.length]? = some z := by
      rw [e, List.getElem?_append_right (Nat.le_refl _), Nat.sub_self]
      rfl
    have lt : met.length < n := by
      rw [← ln]
      exact (List.getElem?_eq_some_iff.mp at_).1
    have e2 : all = (met ++ [z]) ++ left := by
      rw [e, List.append_assoc]
      rfl
    have zl := oz.len
    refine codeAny_builtin F.entry_set_update_loop (by
      rw [Around.under_plainId F.plain_set_update_loop]
      refine wpAny_bind (W.item met.length s _ _ lt st fun v s1 pv st1 mv => ?_)
      obtain ⟨z', t, ez, rfl⟩ := hv _ v pv
      rw [at_] at ez
      cases ez
      have x1 := x.off fun o => mv.heap b o fun c => out (W.sub b c)
      refine wpAny_bind (addAny x1 (by omega) fun _ h' sb x2 => ?_)
      have st2 := W.frame _ s1 h' (s1.toks + 1) st1 (Nat.le_succ _) fun c hc o eo => (sb.2 c fun q => out (q ▸ hc)).trans eo
      refine wpAny_pure ⟨plainId_quiet F.plain_set_update_loop _, textsLoopA W out ln room hv left (met ++ [z]) _ e2 oz.step _ (by rw [List.length_append]; exact st2) x2 fun s3 ys mv3 o3 x3 => k s3 ys ?_ o3 x3⟩
      refine Moved.trans W.gtrans ((mv.mono fun c hc => .tail _ hc).then_heap (Nat.le_succ _) fun c o hc eo => ?_) mv3
      exact (sb.2 c fun q => hc (q ▸ .head _)).trans eo)
end
section
variable {prog : Program} {w : World} {A : Around} {E : Value → Shared → Prop} {s : Shared}
theorem fillTextsA {l : Addr} {items : Array Value} {all : List Str} (calm : A.handled = none) (led : Bool) (hl : s.heap.IsList l items) (hi : StrsAre items.toList all) (room : all.length + 1 < scanBound) {R : Result → Shared → Prop}
    (k : ∀ h' tk ys, OnceOf ys all → TextSet prog w h' s.heap.objs.size ys → (∀ b o, s.heap.get? b = some o → h'.get? b = some o) → R (.ok (.ret .none)) { s with heap := h', toks := tk }) :
    codeAny (model prog w) A (.call (.builtin "set.__init__") ⟨[.ref s.heap.objs.size, .ref l], []⟩) R { s with heap := s.heap.push (bareSet led) } := by
  have top : (s.heap.push (bareSet led)).get? s.heap.objs.size = some (bareSet led) := Heap.get?_push_size _ rfl
  have ty : Shared.TypeIs { s with heap := s.heap.push (bareSet led) } (.ref s.heap.objs.size) "set" := ⟨_, top, rfl⟩
  have ll : l < s.heap.objs.size := let ⟨_, e, _⟩ := hl; Heap.lt_size e
  have hl1 := hl.push (bareSet led)
  obtain ⟨ol, hol, hcl, nl, hdl⟩ := id hl1
  obtain ⟨oc, od, oa, os'⟩ := ol
  simp only at hcl hdl
  subst hcl
  subst hdl
  refine codeAny_call_builtin PySem.F.called_set.init.plain PySem.F.entry_set_init (check_set_init_1 ty ?_)
  have a1 := PySem.F.sub_list_set
  have a2 := PySem.F.sub_list_frozenset
  have a3 : (Value.type "list" == Value.type "dict") = false := by decide
  unfold Builtin.«set.__init__» noKeywords Builtin.Frozenset.updateFrom
  generalize it : pyIter = iter
  wp_walk
  subst it
  refine wpAny_pyIter_list hl1 (wpAny_bind (wpAny_runValue ?_))
  have big : s.heap.objs.size < (s.heap.push (bareSet led)).objs.size := by
    rw [Heap.size_push]
    exact Nat.lt_succ_self _
  have far : l ≠ (s.heap.push (bareSet led)).objs.size := Nat.ne_of_lt (Nat.lt_trans ll big)
  have W := (Walks.list (prog := prog) (w := w) (A := A.in1.in1) (by simp [calm]) _ l far items).toS
  refine textsLoopA W (b := s.heap.objs.size) (fun m => ?_) ?_ ?_ (fun i v pv => ?_) all [] [] rfl ⟨List.nodup_nil, fun _ => Iff.rfl, Nat.le_refl _⟩ _ ⟨⟨_, Heap.get?_push_size _ rfl, rfl, rfl⟩, hl1.push _⟩ ?_ fun s' ys mv oy x => ?_
  · rcases List.mem_cons.mp m with e | m
    · exact absurd e (Nat.ne_of_lt big)
    · exact absurd (List.mem_singleton.mp m) (Nat.ne_of_gt ll)
  · show all.length = _
    rw [texts_len hi, Array.length_toList]
  · rw [texts_len hi, Array.length_toList] at room
    exact room
  · exact texts_get hi (by rw [Array.getElem?_toList]; exact pv)
  · have e := Heap.get?_push_of_some { cls := .type "list_iterator", data := .fields #[.ref l, .int 0 0] } top
    exact SetOf_congr ((setObjOf_fresh (knd := PySem.strKind prog w) led).setOf e (by decide)) (fun k => (decide_eq_false (fun m => nomatch m)).symm) rfl
  · obtain ⟨h', g', d', tk, o'⟩ := s'
    obtain rfl : g' = s.gens := mv.gens
    obtain rfl : d' = s.drawn := mv.drawn
    obtain rfl : o' = s.os := mv.os
    refine wpAny_pure (wpAny_pure (k h' tk ys oy x fun b o e => mv.heap b o (fun m => ?_) (Heap.get?_push_of_some _ (Heap.get?_push_of_some _ e))))
    have lt := Heap.lt_size e
    rcases List.mem_cons.mp m with q | m
    · exact Nat.ne_of_lt lt q
    · exact Nat.ne_of_lt (Nat.lt_trans lt big) (List.mem_singleton.mp m)
/-- set(xs), xs any list of texts -/
theorem setTextsA {l : Addr} {items : Array Value} {all : List Str} {Q : Value → Shared → Prop} (calm : A.handled = none) (hl : s.heap.IsList l items) (hi : StrsAre items.toList all) (room : all.length + 1 < scanBound)
    (k : ∀ h' tk ys, OnceOf ys all → TextSet prog w h' s.heap.objs.size ys → (∀ b o, s.heap.get? b = some o → h'.get? b = some o) → Q (.ref s.heap.objs.size) { s with heap := h', toks := tk }) :
    wpAny (model prog w) A (call (.type "set") [.ref l]) Q E s := by
  obtain ⟨c, tl, p1⟩ := PySem.F.called_set.mro
  have p2 := PySem.F.called_set.made
  have p3 := PySem.F.called_set.sub
  have p4 := PySem.F.called_set.notType
  have p5 := PySem.F.called_set.canCreate
  have p6 := PySem.F.typeCall_set_1 (.ref l)
  have p7 := PySem.F.called_set.init.lookup
  refine wpAny_call (codeAny_of_tree (wpAny_pure ⟨Code.quiet_builtin _ (by decide +kernel), codeAny_builtin PySem.F.entry_type_call (by
    rw [Around.under_plain (weight_type_call_type "set" [.ref l] []) rfl]
    repeat (any_goals (first | assumption | wp_step))
    refine codeAny_mono (code_set_new_1 (.ref l) (E := E) (Q₁ := fun o u => ∃ led, o = .ref s.heap.objs.size ∧ u = { s with heap := s.heap.push (bareSet led) }) fun led => ⟨led, rfl, rfl⟩) fun r u hr => ?_
    match r, hr with
    | .error _, hr => exact hr
    | .ok (.ret _), ⟨led, e1, e2⟩ =>
      subst e1 e2
      have ty : Shared.TypeIs { s with heap := s.heap.push (bareSet led) } (.ref s.heap.objs.size) "set" := ⟨_, Heap.get?_push_size _ rfl, rfl⟩
      have p8 := PySem.F.called_set.init.bind (.ref s.heap.objs.size)
      repeat (any_goals (first | assumption | wp_step))
      refine fillTextsA (by simp [calm]) led hl hi room fun h' tk ys oy x old => ?_
      repeat (any_goals (first | assumption | wp_step))
      exact k h' tk ys oy x old
    | .ok .next, hr => exact hr.elim
    | .ok .brk, hr => exact hr.elim
    | .ok .cont, hr => exact hr.elim)⟩))
end
end SM
namespace SM
open PySem PySem.Spec PyProof.Rows L2
section
variable {X : Cx}
/-- len(set(xs)), xs a list of texts -/
def tLenSetA (K : PySem.W.Frag) (ta : TE) : TE := fun σ H Q => ta σ H fun x H1 => ∃ l, ∃ xs : List Str, x = .ref l ∧ SqL K H1 l (xs.map V.str) ∧ xs.length + 1 < scanBound ∧ ∀ ys, OnceOf ys xs → Q (.int ys.length) H1
theorem pe_lenSetA {a : Expr} {ta : TE} {p p2 q pos : Pos} (hc : X.calm = true) (hg : Gl X "len") (hm : X.mg "len" = none) (hg2 : Gl X "set") (hm2 : X.mg "set" = none) (ha : PE X a ta)
    (na : starEach [a] X.env = (false, eval a X.env) :: starEach [] X.env := by rfl) : PE X (.Call (.Name "len" p) [.Call (.Name "set" p2) [a] [] q] [] pos) (tLenSetA X.K ta) := by
  refine ⟨fun pins s σ H Q I h => Call_ (ld_blt I hg hm boot_len ?_)⟩
  refine PyProof.Rows.callWith_builtin1 (PyProof.Rows.args_cons ?_ rfl) rfl rfl
  refine Call_ (ld_blt I hg2 hm2 boot_set (PyProof.Rows.callWith_type1 (PyProof.Rows.args_cons (thn (ha.run pins s σ H _ I h) fun v s1 ⟨x, H1, I1, r1, q1⟩ => PyProof.Rows.args_nil ?_) na) na rfl))
  obtain ⟨l, xs, rfl, hq, room, q1⟩ := q1
  cases r1
  obtain ⟨its, r, pl, hz⟩ := I1.list hq
  refine setTextsA (I1.ok.hd hc) pl.isList (strsAre_of r) room fun h' tk ys oy hS old => PyProof.Rows.args_nil ?_
  obtain ⟨o, es, ep, t, ho, hex, hd, _, _, _, hf, hn⟩ := hS
  have I2 : Inv X pins σ H1 { s1 with heap := h', toks := tk } := I1.kept old
  have ol := oy.len
  exact call_len_set ho hex hd hf (by
    rw [List.length_map] at hz
    have : sizeLine < 9223372036854775808 := by decide +kernel
    rw [hn]
    omega) ⟨.int ys.length, H1, I2.tok _, ⟨_, by rw [hn]⟩, q1 ys oy⟩
end
/-- once each and as many: no two alike -/
theorem OnceOf.nodup : ∀ {ys xs : List Str}, OnceOf ys xs → ys.length = xs.length → xs.Nodup := by
  intro ys xs o e
  induction xs generalizing ys with
  | nil => exact List.nodup_nil
  | cons x t ih =>
    by_cases m : x ∈ t
    · have le := nodup_len o.nd (ys := t) fun k hk => by
        rcases List.mem_cons.mp ((o.mem k).mp hk) with z | z
        · rw [z]
          exact m
        · exact z
      rw [e, List.length_cons] at le
      omega
    · have mx : x ∈ ys := (o.mem x).mpr (.head _)
      refine List.nodup_cons.mpr ⟨m, ih (ys := ys.erase x) ⟨o.nd.erase x, fun k => ?_, ?_⟩ ?_⟩
      · rw [o.nd.mem_erase_iff, o.mem, List.mem_cons]
        constructor
        · rintro ⟨a, b | b⟩
          · exact absurd b a
          · exact b
        · exact fun h => ⟨fun z => m (by rw [← z]; exact h), .inr h⟩
      · rw [List.length_erase_of_mem mx, e, List.length_cons]
        exact Nat.le_refl _
      · rw [List.length_erase_of_mem mx, e, List.length_cons]
        rfl
theorem OnceOf.self {ys xs : List Str} (o : OnceOf ys xs) (n : xs.Nodup) : ys.length = xs.length :=
  Nat.le_antisymm o.len (nodup_len n fun k hk => (o.mem k).mpr hk)
/-- is it a list of names: b -/
inductive NmsQ (K : PySem.W.Frag) (H : Hp) : V → Bool → Prop where
  | no {v : V} {t : Value} (ty : TyX K H v t) (h : PySem.W.kitOne K t (.type "list") = some false) : NmsQ K H v false
  | long {l : Addr} {xs : List V} (h : H l = some (.lst xs)) (n : 60 < xs.length) : NmsQ K H (.ref l) false
  | bad {l : Addr} {xs : List V} {bs : List Bool} (h : H l = some (.lst xs)) (n : xs.length ≤ 60) (q : Paired (NameQ K H) xs bs) (f : bs.all id = false) : NmsQ K H (.ref l) false
  | txt {l : Addr} {xs : List Str} (h : H l = some (.lst (xs.map V.str))) (n : xs.length ≤ 60) (g : ∀ x ∈ xs, okName x = true) : NmsQ K H (.ref l) (decide xs.Nodup)
def spAreNamesQ (K : PySem.W.Frag) : Sp := fun vs H Q _ => ∃ (v : V) (b : Bool), vs = [v] ∧ NmsQ K H v b ∧ ∀ H', Same H H' → Q (.bl b) H'
/-- the first of xs that is not of ys -/
def firstOut (xs ys : List Str) : Option Str := xs.find? fun x => !decide (x ∈ ys)
theorem firstOut_congr {xs ys zs : List Str} (h : ∀ x, x ∈ ys ↔ x ∈ zs) : firstOut xs ys = firstOut xs zs := by
  unfold firstOut
  congr 1
  funext x
  rw [decide_eq_decide.mpr (h x)]
theorem firstOut_take {xs ys : List Str} {i : Nat} {z : Str} (e : xs[i]? = some z) (h : ∀ x ∈ xs.take i, x ∈ ys) (n : z ∉ ys) : firstOut xs ys = some z := by
  have s : xs = xs.take i ++ z :: xs.drop (i + 1) := by
    have lt := (List.getElem?_eq_some_iff.mp e).1
    have g := (List.getElem?_eq_some_iff.mp e).2
    rw [← g, ← List.drop_eq_getElem_cons lt, List.take_append_drop]
  unfold firstOut
  rw [s, List.find?_append]
  have a : (xs.take i).find? (fun x => !decide (x ∈ ys)) = none := List.find?_eq_none.mpr fun x hx => by simp [h x hx]
  rw [a, List.find?_cons, decide_eq_false n]
  rfl
theorem firstOut_none {xs ys : List Str} (h : ∀ x ∈ xs, x ∈ ys) : firstOut xs ys = none := List.find?_eq_none.mpr fun x hx => by simp [h x hx]
def spBesideQ (C : Nat → Addr) : Sp := fun vs H Q E => ∃ (a b : Addr) (xs ys : List Str), vs = [.ref a, .ref b] ∧ H a = some (.lst (xs.map V.str)) ∧ H b = some (.lst (ys.map V.str)) ∧ (∀ z, firstOut xs ys = some z → Ref C 2 (.str z) H E) ∧ (firstOut xs ys = none → ∀ H', Same H H' → Q .non H')
def spNoSwitchQ (C : Nat → Addr) (L : Addr) : Sp := fun vs H Q E => ∃ (A : LA) (S : LS) (a : Addr) (xs : List Str), vs = [.ref A.p, .ref a] ∧ LayAt L H A S ∧ S.Ok ∧ H a = some (.lst (xs.map V.str)) ∧ (∀ z, firstOut xs (swOf S) = some z → Ref C 2 (.str z) H E) ∧ (firstOut xs (swOf S) = none → ∀ H', Same H H' → Q .non H')
def costIn (S : LS) (x : Str) : Int := ((look S.lines x).map fun e => e.2.2).getD 0
def costs (S : LS) (xs : List Str) : Int := (xs.map (costIn S)).sum
/-- what is answered of x, y: 0 Wrong, 2 Lacks, 9 told -/
inductive AskQ (K : PySem.W.Frag) (L : Addr) (H : Hp) : V → V → Nat → V → Prop where
  | lay {x y : V} {t : Value} (ty : TyX K H x t) (h : PySem.W.kitOne K t (.ref L) = some false) : AskQ K L H x y 0 (.int 0)
  | nam {A : LA} {S : LS} {y : V} (lay : LayAt L H A S) (q : NmsQ K H y false) : AskQ K L H (.ref A.p) y 0 (.int 1)
  | lacks {A : LA} {S : LS} {l : Addr} {xs : List Str} {z : Str} (lay : LayAt L H A S) (ok : S.Ok) (hl : H l = some (.lst (xs.map V.str))) (nd : xs.Nodup) (n : xs.length ≤ 60) (g : ∀ x ∈ xs, okName x = true) (f : firstOut xs (swOf S) = some z) : AskQ K L H (.ref A.p) (.ref l) 2 (.str z)
  | told {A : LA} {S : LS} {l : Addr} {xs : List Str} (lay : LayAt L H A S) (ok : S.Ok) (hl : H l = some (.lst (xs.map V.str))) (nd : xs.Nodup) (n : xs.length ≤ 60) (g : ∀ x ∈ xs, okName x = true) (f : firstOut xs (swOf S) = none) : AskQ K L H (.ref A.p) (.ref l) 9 (.int (costs S xs))
def spCostOf (K : PySem.W.Frag) (C : Nat → Addr) (L : Addr) : Sp := fun vs H Q E => ∃ (x y : V) (n : Nat) (v : V), vs = [x, y] ∧ AskQ K L H x y n v ∧ (n ≠ 9 → Ref C n v H E) ∧ (n = 9 → ∀ H', Same H H' → Q v H')
def wordQ : Nat → Str
  | 0 => "Wrong"
  | 2 => "Lacks"
  | _ => "told"
def spSaidQ (K : PySem.W.Frag) (L : Addr) : Sp := fun vs H Q _ => ∃ (x y : V) (n : Nat) (v : V), vs = [x, y] ∧ AskQ K L H x y n v ∧ ∀ (H' : Hp) (t : Addr), Same H H' → H' t = some (.tup [.str (wordQ n), v]) → Q (.ref t) H'
def spClassQ (C : Nat → Addr) : Addr → Value → Option Addr → Sp := fun a c d vs H Q _ => ∃ (n : Nat) (v : V) (dd : Addr), (n = 0 ∨ n = 2) ∧ c = .ref (C n) ∧ d = some dd ∧ H dd = some (.xd [(fldN n, v)]) ∧ vs = [.ref a] ∧
  ∀ (H' : Hp) (t : Addr), Same H H' → H' t = some (.tup [.str (wordQ n), v]) → Q (.ref t) H'
/-- a built-in's instance is no layout -/
theorem kit_own {K : PySem.W.Frag} {L : Addr} (c : Cls K L) (ty : PySem.W.typeIn K (.ref L) = some (.type "type")) {T : String} {l : List Value} (h : PySem.fastBuiltinMro T = some l) (n : l.contains (Value.ref L) = false) : PySem.W.kitOne K (.type T) (.ref L) = some false := by
  have sm : (PySem.W.clsIn K L).isSome = true := by
    have := c.hd
    unfold PySem.W.hasDictIn at this
    cases e : PySem.W.clsIn K L with
    | none => rw [e] at this; cases this
    | some _ => rfl
  show (if (Value.type T == Value.ref L) = true then some true else PySem.W.kitCls K (.type T) (.ref L)) = _
  rw [if_neg (fun z => Bool.noConfusion z)]
  show (if ((PySem.W.clsIn K L).isSome && PySem.W.typeIn K (.ref L) == some (.type "type")) = true then PySem.W.subIn K (.type T) (.ref L) else none) = _
  rw [sm, ty, if_pos (by decide)]
  show (PySem.fastBuiltinMro T).map _ = _
  rw [h]
  exact congrArg some n
end SM
/-! Part W12: what the laws of costs draw. -/
namespace SM
open PySem PySem.Spec PyProof.Rows L2
def withX : List Str := lettersL.cps.toList.map fun c => (⟨#[c]⟩ : Str) ++ "x"
def withY : List Str := lettersL.cps.toList.map fun c => ("y" : Str) ++ (⟨#[c]⟩ : Str)
theorem withXY_ok : ∀ z ∈ withX ++ withY, okName z = true := by
  have h : (withX ++ withY).all okName = true := by decide +kernel
  exact fun z m => List.all_eq_true.mp h z m
theorem withX_take (i : Nat) : (lettersL.cps.toList.take i).map (fun c => (⟨#[c]⟩ : Str) ++ "x") = withX.take i := (List.map_take ..)
theorem withY_take (i : Nat) : (lettersL.cps.toList.take i).map (fun c => ("y" : Str) ++ (⟨#[c]⟩ : Str)) = withY.take i := (List.map_take ..)
theorem base49 : (withX ++ withY.take 23).Nodup := by decide +kernel
theorem base49_len : (withX ++ withY.take 23).length = 49 := by decide +kernel
def spNamesE : Sp := fun vs H Q _ => ∃ (p q : Addr) (n : Int), vs = [.ref p, .int n] ∧ Bag H p q ∧ 0 ≤ n ∧ n ≤ 40 ∧
  ∀ (a : Addr) (ys : List Str) (H' : Hp), H' a = some (.lst (ys.map V.str)) → ys.Nodup → ys.length = n.toNat → (∀ y ∈ ys, okName y = true) → Bag H' p q → Keep [p] H H' → H a = none → Q (.ref a) H'
def spEndsM : Sp := fun vs H Q _ => ∃ (p q : Addr) (w n i : Int), vs = [.ref p, .int n, .int w, .int i] ∧ Bag H p q ∧ 0 < n ∧ n ≤ 24 ∧ 0 ≤ i ∧ i ≤ 1000 ∧
  ∀ (t : Addr) (a b : Int) (H' : Hp), H' t = some (.tup [.int a, .int b]) → 0 ≤ a → a < n → 0 ≤ b → b < n → Bag H' p q → Keep [p] H H' → Q (.ref t) H'
def spCostM : Sp := fun vs H Q _ => ∃ (p q : Addr) (c : Int), vs = [.ref p, .int c] ∧ Bag H p q ∧ ∀ (m : Int) (H' : Hp), okCost m = true → Bag H' p q → Keep [p] H H' → Q (.int m) H'
def spSomeM : Sp := fun vs H Q _ => ∃ (p q a : Addr) (xs : List Str) (n : Int), vs = [.ref p, .ref a, .int n] ∧ Bag H p q ∧ H a = some (.lst (xs.map V.str)) ∧ (∀ x ∈ xs, okName x = true) ∧ xs.length ≤ 64 ∧ 0 ≤ n ∧ n ≤ 100 ∧
  ∀ (b : Addr) (ys : List Str) (H' : Hp), H' b = some (.lst (ys.map V.str)) → ys.Nodup → (∀ y ∈ ys, y ∈ xs) → Bag H' p q → Keep [p] H H' → H b = none → Q (.ref b) H'
def spSizeM : Sp := fun vs H Q _ => ∃ (p q : Addr), vs = [.ref p] ∧ Bag H p q ∧ ∀ (t : Addr) (a b : Int) (H' : Hp), H' t = some (.tup [.int a, .int b]) → 1 ≤ a → a ≤ 24 → 0 ≤ b → b ≤ 40 → Bag H' p q → Keep [p] H H' → Q (.ref t) H'
theorem okc {m : Int} (h0 : 0 ≤ m) (h1 : m ≤ 99) : okCost m = true := by
  unfold okCost
  rw [decide_eq_true h0, decide_eq_true h1]
  rfl
theorem Bag.ap {H : Hp} {p q D : Addr} (B : Bag H p q) (h : H D = none) : p ≠ D ∧ q ≠ D := ⟨fun w => B.there.1 (by rw [w]; exact h), fun w => B.there.2 (by rw [w]; exact h)⟩
end SM
/-! Part W13: the works of the laws of costs. -/
namespace SM
open PySem PySem.Spec PyProof.Rows L2
def ktop (c a l b : Addr) : List (Key × V) := [(Sum.inr "rooms", .ref c), (Sum.inr "drawn", .ref a), (Sum.inr "lines", .ref l), (Sum.inr "sources", .ref b)]
theorem kn1 : ¬ (Sum.inr ("rooms" : Str) : Key) = Sum.inr ("drawn" : Str) := by decide +kernel
theorem kn2 : ¬ (Sum.inr ("rooms" : Str) : Key) = Sum.inr ("lines" : Str) := by decide +kernel
theorem kn3 : ¬ (Sum.inr ("rooms" : Str) : Key) = Sum.inr ("sources" : Str) := by decide +kernel
theorem kn4 : ¬ (Sum.inr ("drawn" : Str) : Key) = Sum.inr ("lines" : Str) := by decide +kernel
theorem kn5 : ¬ (Sum.inr ("drawn" : Str) : Key) = Sum.inr ("sources" : Str) := by decide +kernel
theorem kn6 : ¬ (Sum.inr ("lines" : Str) : Key) = Sum.inr ("sources" : Str) := by decide +kernel
section
variable (c a l b : Addr)
theorem ktop_r : valV (ktop c a l b) (Sum.inr "rooms") = some (.ref c) := by rw [ktop, valV_pos rfl]
theorem ktop_d : valV (ktop c a l b) (Sum.inr "drawn") = some (.ref a) := by rw [ktop, valV_neg kn1, valV_pos rfl]
theorem ktop_l : valV (ktop c a l b) (Sum.inr "lines") = some (.ref l) := by rw [ktop, valV_neg kn2, valV_neg kn4, valV_pos rfl]
theorem ktop_s : valV (ktop c a l b) (Sum.inr "sources") = some (.ref b) := by rw [ktop, valV_neg kn3, valV_neg kn5, valV_neg kn6, valV_pos rfl]
theorem ktop_merge : mergeK [] (ktop c a l b) = ktop c a l b := by
  refine (mergeK_new (kvs := []) ?_ fun _ _ => rfl).trans (List.nil_append _)
  show ([Sum.inr ("rooms" : Str), Sum.inr ("drawn" : Str), Sum.inr ("lines" : Str), Sum.inr ("sources" : Str)] : List Key).Nodup
  decide +kernel
end
structure WK (H : Hp) (m c a l b : Addr) (S : LS) : Prop where
  top : H m = some (.dK (ktop c a l b))
  dn : H a = some (.lst (S.rooms.map V.str))
  rm : ∃ ys, Srt ys S.rooms ∧ H c = some (.lst (ys.map V.str))
  ln : ∃ kvs, H l = some (.dK kvs) ∧ Kr (LineG H) kvs S.lines
  sc : H b = some (.lst (S.sources.map V.str))
  ss : sortedS S.sources = true
  ok : S.Ok
  ne : 0 < S.rooms.length
  dr : S.drains = []
  mne : m ≠ l
theorem WK.same {H H' : Hp} {m c a l b : Addr} {S : LS} (h : WK H m c a l b S) (s : Same H H') : WK H' m c a l b S :=
  ⟨s _ _ h.top, s _ _ h.dn, (let ⟨y, p, q⟩ := h.rm; ⟨y, p, s _ _ q⟩), (let ⟨k, x, y⟩ := h.ln; ⟨k, s _ _ x, y.mono fun _ _ ⟨t, e, w⟩ => ⟨t, e, s _ _ w⟩⟩), s _ _ h.sc, h.ss, h.ok, h.ne, h.dr, h.mne⟩
theorem WK.keep {H H' : Hp} {m c a l b : Addr} {S : LS} {ms : List Addr} (h : WK H m c a l b S) (k : Keep ms H H') (n1 : m ∉ ms) (n2 : l ∉ ms) : WK H' m c a l b S :=
  ⟨k.out _ _ h.top n1, k.flat _ _ h.dn (flat_strs _), (let ⟨y, p, q⟩ := h.rm; ⟨y, p, k.flat _ _ q (flat_strs _)⟩), (let ⟨kk, x, y⟩ := h.ln; ⟨kk, k.out _ _ x n2, y.line k⟩), k.flat _ _ h.sc (flat_strs _), h.ss, h.ok, h.ne, h.dr, h.mne⟩
theorem WK.bag {H H' : Hp} {p q m c a l b : Addr} {S : LS} (h : WK H m c a l b S) (B : Bag H p q) (k : Keep [p] H H') : WK H' m c a l b S := by
  obtain ⟨kv, e, _⟩ := h.ln
  exact h.keep k (by simpa using (B.nd h.top).1.symm) (by simpa using (B.nd e).1.symm)
def spWorksM : Sp := fun vs H Q _ => ∃ (p q : Addr) (n k : Int), vs = [.ref p, .int n, .int k] ∧ Bag H p q ∧ 1 ≤ n ∧ n ≤ 24 ∧ 0 ≤ k ∧ k ≤ 40 ∧ ∀ (m c a l b : Addr) (S : LS) (H' : Hp), WK H' m c a l b S → Bag H' p q → Keep [p] H H' → Q (.ref m) H'
def spLaidM (L : Addr) : Sp := fun vs H Q _ => ∃ (m c a l b : Addr) (S : LS), vs = [.ref m] ∧ WK H m c a l b S ∧ ∀ (A : LA) (H' : Hp), LayAt L H' A S → Same H H' → (∀ x ∈ A.ms, H x = none) → Q (.ref A.p) H'
theorem pick6 {v : Int} (h0 : 0 ≤ v) (h1 : v < 6) : ∃ y : Int, atI [V.int 1, V.int 1, V.int 2, V.int 3, V.int 0, V.int 12] v = some (.int y) ∧ 0 ≤ y ∧ y ≤ 12 := by
  obtain rfl | rfl | rfl | rfl | rfl | rfl : v = 0 ∨ v = 1 ∨ v = 2 ∨ v = 3 ∨ v = 4 ∨ v = 5 := by omega
  · exact ⟨1, rfl, by decide⟩
  · exact ⟨1, rfl, by decide⟩
  · exact ⟨2, rfl, by decide⟩
  · exact ⟨3, rfl, by decide⟩
  · exact ⟨0, rfl, by decide⟩
  · exact ⟨12, rfl, by decide⟩
end SM
/-! Part W14: what is due of the costs; turned lines, wrong arguments. -/
namespace SM
open PySem PySem.Spec PyProof.Rows L2
def outN (S : LS) (xs : List Str) : Nat := match firstOut xs (swOf S) with
  | some _ => 2
  | none => 9
def outV (S : LS) (xs : List Str) : V := match firstOut xs (swOf S) with
  | some z => .str z
  | none => .int (costs S xs)
def spDueM : Sp := fun vs H Q _ => ∃ (m c a l b x : Addr) (S : LS) (xs : List Str), vs = [.ref m, .ref x] ∧ WK H m c a l b S ∧ H x = some (.lst (xs.map V.str)) ∧ ∀ (H' : Hp) (t : Addr), Same H H' → H' t = some (.tup [.str (wordQ (outN S xs)), outV S xs]) → Q (.ref t) H'
def spAskedM : Sp := fun vs H Q _ => ∃ (p q m c a l b : Addr) (S : LS), vs = [.ref p, .ref m] ∧ Bag H p q ∧ WK H m c a l b S ∧
  ∀ (x : Addr) (ys : List Str) (H' : Hp), H' x = some (.lst (ys.map V.str)) → ys.Nodup → (∀ y ∈ ys, y ∈ swOf S) → Bag H' p q → Keep [p] H H' → H x = none → Q (.ref x) H'
theorem swOf_len {S : LS} (o : S.Ok) : (swOf S).length ≤ 40 := by
  unfold swOf keys
  rw [List.length_map]
  exact Nat.le_trans (List.length_filter_le _ _) o.lL
theorem swOf_ok {S : LS} (o : S.Ok) : ∀ x ∈ swOf S, okName x = true := fun x m => o.lG x (swOf_sub m)
theorem costIn_of {S : LS} {z : Str} {e : LineV} (h : look S.lines z = some e) : costIn S z = e.2.2 := by
  unfold costIn
  rw [h]
  rfl
theorem costs_snoc (S : LS) (xs : List Str) (z : Str) : costs S (xs ++ [z]) = costs S xs + costIn S z := by
  unfold costs
  rw [List.map_append, List.sum_append]
  simp
theorem outN_some {S : LS} {xs : List Str} {z : Str} (h : firstOut xs (swOf S) = some z) : outN S xs = 2 := by
  unfold outN
  rw [h]
theorem outV_some {S : LS} {xs : List Str} {z : Str} (h : firstOut xs (swOf S) = some z) : outV S xs = .str z := by
  unfold outV
  rw [h]
theorem outN_none {S : LS} {xs : List Str} (h : firstOut xs (swOf S) = none) : outN S xs = 9 := by
  unfold outN
  rw [h]
theorem outV_none {S : LS} {xs : List Str} (h : firstOut xs (swOf S) = none) : outV S xs = .int (costs S xs) := by
  unfold outV
  rw [h]
def LS.withD (S : LS) (D : List (Str × Str)) : LS := { S with drains := D }
/-- what stands in a law of costs -/
structure StQ (L : Addr) (H : Hp) (p q m c a l b : Addr) (A : LA) (S : LS) (D : List (Str × Str)) : Prop where
  bag : Bag H p q
  wk : WK H m c a l b S
  lay : LayAt L H A (S.withD D)
  ok : (S.withD D).Ok
  ap : ∀ x ∈ keys S.lines, x ∉ keys D
  am : m ∉ A.ms ∧ l ∉ A.ms
def spTurnedM (L : Addr) : Sp := fun vs H Q _ => ∃ (p q m c a l b : Addr) (A : LA) (S : LS) (D : List (Str × Str)) (z : Str), vs = [.ref p, .ref A.p, .ref m, .str z] ∧ StQ L H p q m c a l b A S D ∧ okName z = true ∧
  ∀ (S' : LS) (H' : Hp), StQ L H' p q m c a l b A S' D → Keep (p :: l :: A.ms) H H' → S'.rooms = S.rooms → S'.sources = S.sources → Q .non H'
def spOddM (K : PySem.W.Frag) : Sp := fun vs H Q _ => ∃ (p q x : Addr) (xs : List Str), vs = [.ref p, .ref x] ∧ Bag H p q ∧ H x = some (.lst (xs.map V.str)) ∧ (∀ y ∈ xs, okName y = true) ∧ xs.length ≤ 50 ∧
  ∀ (v : V) (H' : Hp), NmsQ K H' v false → Bag H' p q → Keep [p] H H' → TyK K H H' → Q v H'
def spWrongM (L : Addr) : Sp := fun vs H Q _ => ∃ (p q x : Addr) (A : LA) (S : LS) (xs : List Str), vs = [.ref p, .ref A.p, .ref x] ∧ Bag H p q ∧ LayAt L H A S ∧ p ∉ A.ms ∧ H x = some (.lst (xs.map V.str)) ∧ (∀ y ∈ xs, okName y = true) ∧ xs.length ≤ 50 ∧
  ∀ (H' : Hp), Bag H' p q → Keep [p] H H' → Q (.bl true) H'
theorem pick3 {v : Int} (h0 : 1 ≤ v) (h1 : v < 4) : ∃ y : Int, atI [V.int 0, V.int 3, V.int 12] (v - 1) = some (.int y) ∧ 0 ≤ y ∧ y ≤ 12 := by
  obtain rfl | rfl | rfl : v = 1 ∨ v = 2 ∨ v = 3 := by omega
  · exact ⟨0, rfl, by decide⟩
  · exact ⟨3, rfl, by decide⟩
  · exact ⟨12, rfl, by decide⟩
end SM
/-! Part W15: list(text); odd lists. -/
namespace SM
open PySem PySem.Spec PyProof.Rows L2
theorem vals_pt : ∀ {xs : List V} {us : List Value}, xs.length = us.length → (∀ (j : Nat) (v : Value), us[j]? = some v → ∃ x, xs[j]? = some x ∧ RelV x v) → Vals xs us
  | [], [], _, _ => .nil
  | [], _ :: _, l, _ => by cases l
  | _ :: _, [], l, _ => by cases l
  | x :: xs, u :: us, l, h => by
    obtain ⟨y, e, r⟩ := h 0 u rfl
    cases e
    exact .cons r (vals_pt (Nat.succ.inj l) fun j v e => h (j + 1) v e)
def signsOf (z : Str) : List Str := z.cps.toList.map fun c => (⟨#[c]⟩ : Str)
theorem call_listStr {X : Cx} (hc : X.calm = true) : CallR X (.type "list") (fun xs H Q => ∃ z : Str, xs = [.str z] ∧ z.cps.size ≤ sizeLine ∧ ∀ l, H l = none → Q (.ref l) (upd H l (.lst ((signsOf z).map V.str)))) := by
  intro pins s σ H xs us Q I r h
  obtain ⟨z, rfl, hz, q⟩ := h
  obtain ⟨u, rfl, t, rfl⟩ := vals1 r
  refine PySem.call_list_str (I.ok.hd hc) z t (hn := hz) fun h' tk acc' c' hk hS' hacc => ?_
  refine ⟨.ref s.heap.objs.size, _, I.laid (t' := tk) hk (Nat.le_refl _) ?_, rfl, q _ (I.hok.fresh (Nat.le_refl _))⟩
  refine (show ObjOk X.prog X.w _ h' _ (.lst ((signsOf z).map V.str)) from ⟨?_, acc'.toList, c', vals_pt ?_ fun j v e => ?_, by simpa using hS'⟩)
  · rw [List.length_map, signsOf, List.length_map, Array.length_toList]
    exact hz
  · rw [List.length_map, signsOf, List.length_map, Array.length_toList, Array.length_toList, hacc.1]
  · obtain ⟨c, u, hcc, rfl⟩ := hacc.2 j v (by simpa using e)
    refine ⟨.str ⟨#[c]⟩, ?_, ⟨_, rfl⟩⟩
    rw [List.getElem?_map, signsOf, List.getElem?_map, Array.getElem?_toList, hcc]
    rfl
theorem names_paired {K : PySem.W.Frag} {H : Hp} : ∀ {ys : List Str}, (∀ y ∈ ys, y.cps.size ≤ sizeLine) → Paired (NameQ K H) (ys.map V.str) (ys.map okName)
  | [], _ => .nil
  | y :: _, h => .cons (.inl ⟨y, rfl, h y (.head _), rfl⟩) (names_paired fun z m => h z (.tail _ m))
theorem okName_sz {z : Str} (h : okName z = true) : z.cps.size ≤ sizeLine := by
  have := (okName_iff.mp h).2.1
  exact Nat.le_trans this (by decide)
theorem qq_take (i : Nat) (f : Nat → Str) : (lettersL.cps.toList.map f).take i = (lettersL.cps.toList.take i).map f := (List.map_take ..).symm
theorem letters_all (f : Nat → Str) : (lettersL.cps.toList.map f).take lettersL.cps.size = lettersL.cps.toList.map f := by
  rw [qq_take, show lettersL.cps.toList.take lettersL.cps.size = lettersL.cps.toList by rw [← Array.length_toList, List.take_length]]
theorem del_len {S : LS} {z : Str} (h : z ∈ keys S.lines) : (del S.lines z).length + 1 ≤ S.lines.length := by
  unfold del
  obtain ⟨e, m, rfl⟩ := List.mem_map.mp h
  exact List.length_filter_lt_length_iff_exists.mpr ⟨e, m, by simp⟩
theorem keys_del_sub {S : LS} {z x : Str} (h : x ∈ keys (del S.lines z)) : x ∈ keys S.lines ∧ x ≠ z := by
  rw [keys_del, List.mem_filter] at h
  exact ⟨h.1, of_decide_eq_true h.2⟩
end SM
/-! Part W16: what is said of costs, as data. -/
namespace SM
open PySem PySem.Spec PyProof.Rows L2
def costD (n : Nat) (d : PyData) : PyData := .tuple [.str (wordQ n), d]
theorem wordQ_small : ∀ n : Nat, smallS (wordQ n) = true
  | 0 => (by decide +kernel : smallS "Wrong" = true)
  | 1 => (by decide +kernel : smallS "told" = true)
  | 2 => (by decide +kernel : smallS "Lacks" = true)
  | _ + 3 => (by decide +kernel : smallS "told" = true)
theorem sm_intW {i : Int} (h0 : 0 ≤ i) (h1 : i < 8192) : Sm 0 16 (.int i) := by
  have lg : i.natAbs.log2 < 13 ∨ i = 0 := by
    by_cases z : i = 0
    · exact .inr z
    · exact .inl (PySem.Flt.log2_lt_of (k := 13) (by decide) (by omega))
  have lg' : i.natAbs.log2 < 13 := by
    rcases lg with h | h
    · exact h
    · rw [h]
      decide
  refine ⟨by simp only [PyData.canLay0], by simp only [PyData.depth]; omega, ?_, ?_, ?_⟩
  · simp only [PyData.intsShort]
    exact decide_eq_true (Nat.le_trans (PyData.shown_int_le (by omega)) (by decide))
  · simp only [PyData.showable]
    exact decide_eq_true (Nat.lt_of_lt_of_le lg' (by decide))
  · simp only [PyData.weight]
    split <;> omega
theorem costD_fine {n : Nat} {d : PyData} (h : Sm 0 16 d) : Fine (costD n d) := (Sm.tup (.cons (sm_str (wordQ_small n)) (.cons h .nil))).fine (by decide) (show 2 * (16 + 1) ≤ 100000 by decide)
theorem costD_dp {K : PySem.W.Frag} {H : Hp} {t : Addr} {n : Nat} {v : V} {d : PyData} (h : H t = some (.tup [.str (wordQ n), v])) (q : Dp K H v d) : Dp K H (.ref t) (costD n d) := .tup (SqT.of h) (.cons (.str _) (.cons q .nil))
def outD (S : LS) (xs : List Str) : PyData := match firstOut xs (swOf S) with
  | some z => .str z
  | none => .int (costs S xs)
theorem outD_dp {K : PySem.W.Frag} {H : Hp} {S : LS} {xs : List Str} : Dp K H (outV S xs) (outD S xs) := by
  unfold outV outD
  cases firstOut xs (swOf S) with
  | some z => exact .str z
  | none => exact .int _
theorem costIn_bd {S : LS} (o : S.Ok) (x : Str) : 0 ≤ costIn S x ∧ costIn S x ≤ 99 := by
  unfold costIn
  cases e : look S.lines x with
  | none => exact ⟨by decide, by decide⟩
  | some l =>
    obtain ⟨_, _, _, ic⟩ := o.lI _ (look_mem e)
    have ic' : okCost l.2.2 = true := ic
    unfold okCost at ic'
    rw [Bool.and_eq_true] at ic'
    exact ⟨of_decide_eq_true ic'.1, of_decide_eq_true ic'.2⟩
theorem costs_bd {S : LS} (o : S.Ok) : ∀ xs : List Str, 0 ≤ costs S xs ∧ costs S xs ≤ 99 * xs.length
  | [] => by
    unfold costs
    simp
  | x :: xs => by
    have a := costs_bd o xs
    have b := costIn_bd o x
    have e : costs S (x :: xs) = costIn S x + costs S xs := by
      unfold costs
      rw [List.map_cons, List.sum_cons]
    rw [e, List.length_cons]
    omega
theorem outD_sm {S : LS} (o : S.Ok) {xs : List Str} (g : ∀ x ∈ xs, okName x = true) (l : xs.length ≤ 60) : Sm 0 16 (outD S xs) := by
  unfold outD
  cases e : firstOut xs (swOf S) with
  | some z =>
    exact sm_str (okName_small (g z (List.mem_of_find?_eq_some e)))
  | none =>
    have := costs_bd o xs
    exact sm_intW this.1 (by omega)
theorem ask_out {K : PySem.W.Frag} {L : Addr} {H : Hp} {A : LA} {S : LS} {D : List (Str × Str)} {h : Addr} {xs : List Str} (lay : LayAt L H A (S.withD D)) (ok : (S.withD D).Ok) (hl : H h = some (.lst (xs.map V.str))) (nd : xs.Nodup) (n : xs.length ≤ 60) (g : ∀ x ∈ xs, okName x = true) : AskQ K L H (.ref A.p) (.ref h) (outN S xs) (outV S xs) := by
  cases e : firstOut xs (swOf S) with
  | some z =>
    rw [outN_some e, outV_some e]
    exact .lacks lay ok hl nd n g e
  | none =>
    rw [outN_none e, outV_none e]
    exact AskQ.told (S := S.withD D) lay ok hl nd n g e
end SM
/-! Part W17: what stands while a law of costs runs. -/
namespace SM
open PySem PySem.Spec PyProof.Rows L2
section
variable {L : Addr} {H H' : Hp} {p q m c e l b : Addr} {A : LA} {S : LS} {D : List (Str × Str)}
theorem StQ.pn (h : StQ L H p q m c e l b A S D) : p ∉ A.ms := fun w => by
  obtain ⟨kv, x⟩ := h.lay.dks _ w
  exact (h.bag.nd x).1 rfl
theorem StQ.same (h : StQ L H p q m c e l b A S D) (s : Same H H') : StQ L H' p q m c e l b A S D := ⟨h.bag.same s, h.wk.same s, h.lay.same s, h.ok, h.ap, h.am⟩
theorem StQ.keep (h : StQ L H p q m c e l b A S D) (k : Keep [p] H H') (B : Bag H' p q) : StQ L H' p q m c e l b A S D := ⟨B, h.wk.bag h.bag k, h.lay.keep k (by simpa using h.pn), h.ok, h.ap, h.am⟩
/-- d is none of the lists that stand -/
def Off (d p q c e b : Addr) : Prop := d ≠ p ∧ d ≠ q ∧ d ≠ c ∧ d ≠ e ∧ d ≠ b
theorem StQ.off {d : Addr} (h : StQ L H p q m c e l b A S D) (hd : H d = none) : Off d p q c e b := by
  obtain ⟨ys, _, yc⟩ := h.wk.rm
  exact ⟨(h.bag.ap hd).1.symm, (h.bag.ap hd).2.symm, (ne_of_none yc hd).symm, (ne_of_none h.wk.dn hd).symm, (ne_of_none h.wk.sc hd).symm⟩
theorem StQ.write {d : Addr} {xs ys : List V} (h : StQ L H p q m c e l b A S D) (hd : H d = some (.lst xs)) (n : Off d p q c e b) : StQ L (upd H d (.lst ys)) p q m c e l b A S D := by
  obtain ⟨n1, n2, n3, n4, n5⟩ := n
  obtain ⟨zs, zS, zc⟩ := h.wk.rm
  obtain ⟨kv, k1, k2⟩ := h.wk.ln
  have dk : ∀ {x kv}, H x = some (.dK kv) → upd H d (.lst ys) x = some (.dK kv) := fun w => (upd_ne (ne_of w hd (by intro z; cases z))).trans w
  exact ⟨h.bag.keep (upd_ne n1.symm) (upd_ne n2.symm), ⟨dk h.wk.top, (upd_ne n4.symm).trans h.wk.dn, ⟨zs, zS, (upd_ne n3.symm).trans zc⟩, ⟨kv, dk k1, k2.mono fun v x ⟨t, et, w⟩ => ⟨t, et, (upd_ne (ne_of w hd (by intro z; cases z))).trans w⟩⟩, (upd_ne n5.symm).trans h.wk.sc, h.wk.ss, h.wk.ok, h.wk.ne, h.wk.dr, h.wk.mne⟩, h.lay.write hd, h.ok, h.ap, h.am⟩
end
/-- the law's own lists -/
structure RestQ (G : Hp) (pd po pv : Addr) (dr od : List Str) : Prop where
  pd : G pd = some (.lst (dr.map V.str))
  po : G po = some (.lst (od.map V.str))
  pv : ∃ vs : List Str, G pv = some (.lst (vs.map V.str))
section
variable {G G' : Hp} {pd po pv : Addr} {dr od : List Str}
theorem RestQ.same (h : RestQ G pd po pv dr od) (s : Same G G') : RestQ G' pd po pv dr od := ⟨s _ _ h.pd, s _ _ h.po, let ⟨v, w⟩ := h.pv; ⟨v, s _ _ w⟩⟩
theorem RestQ.keep {ms : List Addr} (h : RestQ G pd po pv dr od) (k : Keep ms G G') : RestQ G' pd po pv dr od := ⟨k.flat _ _ h.pd (flat_strs _), k.flat _ _ h.po (flat_strs _), let ⟨v, w⟩ := h.pv; ⟨v, k.flat _ _ w (flat_strs _)⟩⟩
theorem RestQ.write {d : Addr} {ys : List V} (h : RestQ G pd po pv dr od) (n : d ≠ pd ∧ d ≠ po ∧ d ≠ pv) : RestQ (upd G d (.lst ys)) pd po pv dr od := ⟨(upd_ne n.1.symm).trans h.pd, (upd_ne n.2.1.symm).trans h.po, let ⟨v, w⟩ := h.pv; ⟨v, (upd_ne n.2.2.symm).trans w⟩⟩
theorem RestQ.off {d : Addr} (h : RestQ G pd po pv dr od) (hd : G d = none) : d ≠ pd ∧ d ≠ po ∧ d ≠ pv := ⟨(ne_of_none h.pd hd).symm, (ne_of_none h.po hd).symm, let ⟨v, w⟩ := h.pv; (ne_of_none w hd).symm⟩
end
theorem pick4 {v : Int} (h0 : 0 ≤ v) (h1 : v < 4) : ∃ y : Nat, atI [V.int 0, V.int 1, V.int 2, V.int 0] v = some (.int (y : Int)) ∧ y ≤ 2 := by
  obtain rfl | rfl | rfl | rfl : v = 0 ∨ v = 1 ∨ v = 2 ∨ v = 3 := by omega
  · exact ⟨0, rfl, by decide⟩
  · exact ⟨1, rfl, by decide⟩
  · exact ⟨2, rfl, by decide⟩
  · exact ⟨0, rfl, by decide⟩
theorem withD_nil {S : LS} (h : S.drains = []) : S.withD [] = S := by
  unfold LS.withD
  rw [← h]
theorem ins_nodup {xs : List Str} {z : Str} (n : Nat) (nd : xs.Nodup) (m : z ∉ xs) : (xs.take n ++ [z] ++ xs.drop n).Nodup ∧ ∀ x, x ∈ xs.take n ++ [z] ++ xs.drop n → x = z ∨ x ∈ xs := by
  have p : (xs.take n ++ [z] ++ xs.drop n).Perm (z :: xs) := by
    refine List.Perm.trans (List.Perm.append_right _ (List.perm_append_comm (l₁ := xs.take n) (l₂ := [z]))) ?_
    rw [List.append_assoc, List.take_append_drop]
    exact List.Perm.refl _
  exact ⟨p.nodup_iff.mpr (List.nodup_cons.mpr ⟨m, nd⟩), fun x h => List.mem_cons.mp (p.mem_iff.mp h)⟩
end SM
/-! Part W18: a layout told at the end, as data. -/
namespace SM
open PySem PySem.Spec PyProof.Rows L2
def lineV (S : LS) (x : Str) : List V := match look S.lines x with
  | some e => [.str e.1, .str e.2.1, .int e.2.2]
  | none => []
def lineD (S : LS) (x : Str) : PyData := match look S.lines x with
  | some e => .tuple [.str e.1, .str e.2.1, .int e.2.2]
  | none => .tuple []
theorem lineV_of {S : LS} {x : Str} {e : LineV} (h : look S.lines x = some e) : lineV S x = [.str e.1, .str e.2.1, .int e.2.2] := by
  unfold lineV
  rw [h]
theorem line_dp {K : PySem.W.Frag} {G : Hp} {S : LS} {t : Addr} {x : Str} (h : G t = some (.tup (lineV S x))) : Dp K G (.ref t) (lineD S x) := by
  unfold lineV at h
  unfold lineD
  cases e : look S.lines x with
  | none =>
    rw [e] at h
    exact .tup (SqT.of h) .nil
  | some y =>
    rw [e] at h
    exact .tup (SqT.of h) (.cons (.str _) (.cons (.str _) (.cons (.int _) .nil)))
abbrev LinesAt (G : Hp) (S : LS) (ts : List Addr) (xs : List Str) : Prop := Paired (fun t x => G t = some (.tup (lineV S x))) ts xs
theorem line_dps {K : PySem.W.Frag} {G : Hp} {S : LS} : ∀ {ts : List Addr} {xs : List Str}, LinesAt G S ts xs → DpAll K G (ts.map V.ref) (xs.map (lineD S))
  | _, _, .nil => .nil
  | _, _, .cons h t => .cons (line_dp h) (line_dps t)
theorem LinesAt.same {G G' : Hp} {S : LS} {ts : List Addr} {xs : List Str} (h : LinesAt G S ts xs) (s : Same G G') : LinesAt G' S ts xs := Paired.mono (fun _ _ w => s _ _ w) h
theorem line_sm {S : LS} (o : S.Ok) (x : Str) : Sm 1 51 (lineD S x) := by
  unfold lineD
  cases e : look S.lines x with
  | none => exact (Sm.tup (k := 0) (w := 16) .nil).mono (Nat.le_refl _) (by decide)
  | some y =>
    obtain ⟨i1, i2, _, ic⟩ := o.lI _ (look_mem e)
    have ic' : okCost y.2.2 = true := ic
    unfold okCost at ic'
    rw [Bool.and_eq_true] at ic'
    exact Sm.tup (.cons (sm_str (okName_small (o.rG _ i1))) (.cons (sm_str (okName_small (o.rG _ i2))) (.cons (sm_int (of_decide_eq_true ic'.1) (of_decide_eq_true ic'.2)) .nil)))
def namesD (xs : List Str) : PyData := .list (xs.map PyData.str)
def toldQD (S : LS) (rs ls ds ss : List Str) : PyData := .list [namesD rs, namesD ls, namesD ds, namesD ss, .list (ls.map (lineD S))]
theorem names_smW {xs : List Str} (h : ∀ x ∈ xs, okName x = true) (l : xs.length ≤ 60) : Sm 2 3200 (namesD xs) := (Sm.lst (SmAll.map PyData.str fun x mx => sm_str (okName_small (h x mx)))).mono (by decide) (by rw [List.length_map]; omega)
theorem toldQ_fine {S : LS} (o : S.Ok) {rs ls ds ss : List Str} (h1 : ∀ x ∈ rs, okName x = true) (l1 : rs.length ≤ 60) (h2 : ∀ x ∈ ls, okName x = true) (l2 : ls.length ≤ 60) (h3 : ∀ x ∈ ds, okName x = true) (l3 : ds.length ≤ 60) (h4 : ∀ x ∈ ss, okName x = true) (l4 : ss.length ≤ 60) : Fine (toldQD S rs ls ds ss) := by
  have s5 : Sm 2 3200 (.list (ls.map (lineD S))) := (Sm.lst (SmAll.map (lineD S) fun x _ => line_sm o x)).mono (by decide) (by rw [List.length_map]; omega)
  exact (Sm.lst (.cons (names_smW h1 l1) (.cons (names_smW h2 l2) (.cons (names_smW h3 l3) (.cons (names_smW h4 l4) (.cons s5 .nil)))))).fine (by decide) (show 5 * (3200 + 1) ≤ 100000 by decide)
end SM
namespace SM
open PySem PySem.Spec PyProof.Rows L2
open Evl (tCut pss_cut)
def topS (i : Nat) : Stmt := PySem.Challenge.pw_stillmain_k41_cost_of.main.body.getD i (.Pass ⟨0, 0, 0, 0⟩)
abbrev s_need : Stmt := topS 10
abbrev s_is_whole : Stmt := topS 15
abbrev s_is_name : Stmt := topS 16
abbrev s_is_cost : Stmt := topS 17
abbrev s_Layout___init__ : Stmt := inClass (topS 27) 0
abbrev s_Layout_add_room : Stmt := inClass (topS 27) 1
abbrev s_Layout_add_line : Stmt := inClass (topS 27) 2
abbrev s_Layout_add_drain : Stmt := inClass (topS 27) 3
abbrev s_Layout_add_source : Stmt := inClass (topS 27) 4
abbrev s_Layout_take_line : Stmt := inClass (topS 27) 6
abbrev s_Layout_rooms : Stmt := inClass (topS 27) 9
abbrev s_Layout_lines : Stmt := inClass (topS 27) 10
abbrev s_Layout_drains : Stmt := inClass (topS 27) 11
abbrev s_Layout_sources : Stmt := inClass (topS 27) 12
abbrev s_Layout_line : Stmt := inClass (topS 27) 13
abbrev s_Layout_drain : Stmt := inClass (topS 27) 14
abbrev s_Layout__refuse_taken : Stmt := inClass (topS 27) 17
abbrev s_Layout__refuse_no_room : Stmt := inClass (topS 27) 18
abbrev s_Layout__refuse_no_line : Stmt := inClass (topS 27) 19
abbrev s_Layout__refuse_no_drain : Stmt := inClass (topS 27) 20
/-- the errors' bases' chain, M the common one -/
abbrev bmM (M : Addr) : List Value := [.ref M, .type "ValueError", .type "Exception", .type "BaseException", .type "object"]
/-- what the top has made of the program's text -/
structure Lx (K : PySem.W.Frag) (mg : Str → Option Value) (C : Nat → Addr) (M L : Addr) : Prop where
  d_need : DefAt K mg "need" s_need
  d_is_whole : DefAt K mg "is_whole" s_is_whole
  d_is_name : DefAt K mg "is_name" s_is_name
  d_is_cost : DefAt K mg "is_cost" s_is_cost
  m_init : MethAt K L "__init__" "Layout.__init__" s_Layout___init__
  m_add_room : MethAt K L "add_room" "Layout.add_room" s_Layout_add_room
  m_add_line : MethAt K L "add_line" "Layout.add_line" s_Layout_add_line
  m_add_drain : MethAt K L "add_drain" "Layout.add_drain" s_Layout_add_drain
  m_add_source : MethAt K L "add_source" "Layout.add_source" s_Layout_add_source
  m_take_line : MethAt K L "take_line" "Layout.take_line" s_Layout_take_line
  m_rooms : MethAt K L "rooms" "Layout.rooms" s_Layout_rooms
  m_lines : MethAt K L "lines" "Layout.lines" s_Layout_lines
  m_drains : MethAt K L "drains" "Layout.drains" s_Layout_drains
  m_sources : MethAt K L "sources" "Layout.sources" s_Layout_sources
  m_line : MethAt K L "line" "Layout.line" s_Layout_line
  m_drain : MethAt K L "drain" "Layout.drain" s_Layout_drain
  m__refuse_taken : MethAt K L "_refuse_taken" "Layout._refuse_taken" s_Layout__refuse_taken
  m__refuse_no_room : MethAt K L "_refuse_no_room" "Layout._refuse_no_room" s_Layout__refuse_no_room
  m__refuse_no_line : MethAt K L "_refuse_no_line" "Layout._refuse_no_line" s_Layout__refuse_no_line
  m__refuse_no_drain : MethAt K L "_refuse_no_drain" "Layout._refuse_no_drain" s_Layout__refuse_no_drain
  mkL : PySem.W.makesIn K L = true
  kL : PySem.W.keepIn K (.ref L) = true
  gL : mg "Layout" = some (.ref L)
  cl : Cls K L
  n_rooms : NoAttr K L "_rooms"
  n_lines : NoAttr K L "_lines"
  n_drains : NoAttr K L "_drains"
  n_sources : NoAttr K L "_sources"
  g_LONGEST_NAME : ∃ t, mg "LONGEST_NAME" = some (.int 8 t)
  g_HIGHEST_COST : ∃ t, mg "HIGHEST_COST" = some (.int 99 t)
  g_MOST_ROOMS : ∃ t, mg "MOST_ROOMS" = some (.int 24 t)
  g_MOST_LINES : ∃ t, mg "MOST_LINES" = some (.int 40 t)
  g_MOST_DRAINS : ∃ t, mg "MOST_DRAINS" = some (.int 12 t)
  b_len : mg "len" = none
  b_all : mg "all" = none
  b_isinstance : mg "isinstance" = none
  b_str : mg "str" = none
  b_int : mg "int" = none
  b_bool : mg "bool" = none
  b_sorted : mg "sorted" = none
  b_list : mg "list" = none
  b_set : mg "set" = none
  gM : mg "MainsError" = some (.ref M)
  eM : ErrC K M [.type "ValueError", .type "Exception", .type "BaseException", .type "object"]
  e : ∀ n, n < 6 → ErrC K (C n) (bmM M)
  gc : ClsGet K
  nd : (M :: (List.range 6).map C).Nodup
  g0 : mg "Wrong" = some (.ref (C 0))
  n0 : PySem.W.findIn K (.ref (C 0)) "at" = some none
  t0 : InitAt K (C 0) "Wrong.__init__" (inClass (topS 3) 0)
  g1 : mg "There" = some (.ref (C 1))
  n1 : PySem.W.findIn K (.ref (C 1)) "name" = some none
  t1 : InitAt K (C 1) "There.__init__" (inClass (topS 4) 0)
  g2 : mg "Lacks" = some (.ref (C 2))
  n2 : PySem.W.findIn K (.ref (C 2)) "name" = some none
  t2 : InitAt K (C 2) "Lacks.__init__" (inClass (topS 5) 0)
  g3 : mg "TooMany" = some (.ref (C 3))
  n3 : PySem.W.findIn K (.ref (C 3)) "most" = some none
  t3 : InitAt K (C 3) "TooMany.__init__" (inClass (topS 6) 0)
  g4 : mg "Held" = some (.ref (C 4))
  n4 : PySem.W.findIn K (.ref (C 4)) "hands" = some none
  t4 : InitAt K (C 4) "Held.__init__" (inClass (topS 7) 0)
  g5 : mg "NoPart" = some (.ref (C 5))
  n5 : PySem.W.findIn K (.ref (C 5)) "way" = some none
  t5 : InitAt K (C 5) "NoPart.__init__" (inClass (topS 8) 0)
section
variable {P : Program} {w : World} {K : PySem.W.Frag} {mg : Str → Option Value} {base : Heap} {C : Nat → Addr} {M L : Addr}
theorem io_0 (T : Lx K mg C M L) : InitOk P w K mg base (C 0) "at" := by
  obtain ⟨fI, fd, F, iC, tI⟩ := T.t0
  exact ⟨fI, fd, iC, tI, F.binds (ps := ["self", "at"]) fun _ _ _ _ _ _ us hl => match us, hl with | [_, _], _ => rfl,
    init_ok F (T.e 0 (by decide)) T.n0 ⟨rfl, rfl, rfl, by decide +kernel, rfl, by decide +kernel, by decide +kernel⟩ fun _ _ _ _ _ _ => pss_one (ps_ost (pv 0) (pv 1))⟩
theorem io_1 (T : Lx K mg C M L) : InitOk P w K mg base (C 1) "name" := by
  obtain ⟨fI, fd, F, iC, tI⟩ := T.t1
  exact ⟨fI, fd, iC, tI, F.binds (ps := ["self", "name"]) fun _ _ _ _ _ _ us hl => match us, hl with | [_, _], _ => rfl,
    init_ok F (T.e 1 (by decide)) T.n1 ⟨rfl, rfl, rfl, by decide +kernel, rfl, by decide +kernel, by decide +kernel⟩ fun _ _ _ _ _ _ => pss_one (ps_ost (pv 0) (pv 1))⟩
theorem io_2 (T : Lx K mg C M L) : InitOk P w K mg base (C 2) "name" := by
  obtain ⟨fI, fd, F, iC, tI⟩ := T.t2
  exact ⟨fI, fd, iC, tI, F.binds (ps := ["self", "name"]) fun _ _ _ _ _ _ us hl => match us, hl with | [_, _], _ => rfl,
    init_ok F (T.e 2 (by decide)) T.n2 ⟨rfl, rfl, rfl, by decide +kernel, rfl, by decide +kernel, by decide +kernel⟩ fun _ _ _ _ _ _ => pss_one (ps_ost (pv 0) (pv 1))⟩
theorem io_3 (T : Lx K mg C M L) : InitOk P w K mg base (C 3) "most" := by
  obtain ⟨fI, fd, F, iC, tI⟩ := T.t3
  exact ⟨fI, fd, iC, tI, F.binds (ps := ["self", "most"]) fun _ _ _ _ _ _ us hl => match us, hl with | [_, _], _ => rfl,
    init_ok F (T.e 3 (by decide)) T.n3 ⟨rfl, rfl, rfl, by decide +kernel, rfl, by decide +kernel, by decide +kernel⟩ fun _ _ _ _ _ _ => pss_one (ps_ost (pv 0) (pv 1))⟩
theorem io_4 (T : Lx K mg C M L) : InitOk P w K mg base (C 4) "hands" := by
  obtain ⟨fI, fd, F, iC, tI⟩ := T.t4
  exact ⟨fI, fd, iC, tI, F.binds (ps := ["self", "hands"]) fun _ _ _ _ _ _ us hl => match us, hl with | [_, _], _ => rfl,
    init_ok F (T.e 4 (by decide)) T.n4 ⟨rfl, rfl, rfl, by decide +kernel, rfl, by decide +kernel, by decide +kernel⟩ fun _ _ _ _ _ _ => pss_one (ps_ost (pv 0) (pv 1))⟩
theorem io_5 (T : Lx K mg C M L) : InitOk P w K mg base (C 5) "way" := by
  obtain ⟨fI, fd, F, iC, tI⟩ := T.t5
  exact ⟨fI, fd, iC, tI, F.binds (ps := ["self", "way"]) fun _ _ _ _ _ _ us hl => match us, hl with | [_, _], _ => rfl,
    init_ok F (T.e 5 (by decide)) T.n5 ⟨rfl, rfl, rfl, by decide +kernel, rfl, by decide +kernel, by decide +kernel⟩ fun _ _ _ _ _ _ => pss_one (ps_ost (pv 0) (pv 1))⟩
abbrev OX (P : Program) (w : World) := L2.CX P w
theorem sc_need : FnScope ["at", "fits"] ["at", "fits"] (defScope s_need) := ⟨rfl, rfl, rfl, by decide +kernel, rfl, by decide +kernel, by decide +kernel⟩
theorem ok_need (T : Lx K mg C M L) : OkF P w K mg base (L2.CX P w) 3 "need" ["at", "fits"] (spNeed C) := by
  refine T.d_need.okX sc_need (fun _ _ _ _ _ _ us hl => match us, hl with | [_, _], _ => rfl) (fun vs H Q E h => ?_) (fun f cdv A outer s H vs Q E hr h => ?_)
  · obtain ⟨y, b, rfl, _⟩ := h
    rfl
  · obtain ⟨y, b, rfl, h1, h2⟩ := h
    refine ⟨_, (pss_one (ps_if (pt_not (pt_val (pv 1))) (pss_one (ps_raise1 (C := C 0) (f := "at") (W := fun cls d _ H => E cls d H) rfl (T.e 0 (by decide)) (io_0 T) T.g0 (hr.mono (by decide)) (takes_of rfl rfl rfl rfl) (pv 0))) pss_nil)), ?_⟩
    refine ⟨_, rfl, _, rfl, ?_⟩
    cases b with
    | true => exact if_f rfl (h1 rfl)
    | false => exact if_t rfl ⟨_, rfl, raise1 fun d hd => (h2 rfl).out hd⟩
theorem sc_is_whole : FnScope ["thing"] ["thing"] (defScope s_is_whole) := ⟨rfl, rfl, rfl, by decide +kernel, rfl, by decide +kernel, by decide +kernel⟩
theorem ok_is_whole (T : Lx K mg C M L) : OkF P w K mg base CX0 1 "is_whole" ["thing"] (spIsWhole K) := by
  refine T.d_is_whole.ok sc_is_whole (fun _ _ _ _ _ _ us hl => match us, hl with | [_], _ => rfl) (fun vs H Q E h => ?_) (fun f cdv A outer s H vs Q E hr h => ?_)
  · obtain ⟨x, b, rfl, _⟩ := h
    rfl
  · obtain ⟨x, b, rfl, ⟨t, i, j, ty, hi, hj, rfl⟩, k⟩ := h
    refine ⟨_, (pss_one (ps_ret (pe_and (pe_callB call_isi (by rfl) T.b_isinstance (by decide +kernel) (pa_cons (pv 0) (pa_cons (pe_bltn (v := .ty "int") (by rfl) T.b_int (by decide +kernel) rfl) pa_nil))) (pe_one (pe_not (pe_callB call_isi (by rfl) T.b_isinstance (by decide +kernel) (pa_cons (pv 0) (pa_cons (pe_bltn (v := .ty "bool") (by rfl) T.b_bool (by decide +kernel) rfl) pa_nil)))))))), ?_⟩
    refine ⟨_, rfl, _, .ty "int", t, _, i, rfl, .ty _, ty, hi, _, rfl, ?_⟩
    cases i with
    | false => exact k
    | true => exact ⟨_, rfl, _, .ty "bool", t, _, j, rfl, .ty _, ty, hj, _, rfl, k⟩
theorem sc_is_cost : FnScope ["thing"] ["thing"] (defScope s_is_cost) := ⟨rfl, rfl, rfl, by decide +kernel, rfl, by decide +kernel, by decide +kernel⟩
theorem ok_is_cost (T : Lx K mg C M L) : OkF P w K mg base CX0 2 "is_cost" ["thing"] (spIsCost K) := by
  refine T.d_is_cost.ok sc_is_cost (fun _ _ _ _ _ _ us hl => match us, hl with | [_], _ => rfl) (fun vs H Q E h => ?_) (fun f cdv A outer s H vs Q E hr h => ?_)
  · obtain ⟨x, b, rfl, _⟩ := h
    rfl
  · obtain ⟨x, b, rfl, hc, k⟩ := h
    obtain ⟨tk, gk⟩ := T.g_HIGHEST_COST
    refine ⟨_, (pss_one (ps_ret (pe_and (pe_f (ok_is_whole T) (hr.mono (by decide)) pass0 (pa_cons (pv 0) pa_nil)) (pe_one (pe_chain op_le op_le pe_int (pv 0) (pe_glob (v := .int 99) (by rfl) gk ⟨_, rfl⟩)))))), ?_⟩
    rcases hc with ⟨i, rfl, rfl⟩ | ⟨rfl, hw⟩
    · refine ⟨_, rfl, .int i, true, rfl, WholeQ.int i, _, rfl, _, rfl, _, _, rfl, rfl, _, rfl, ?_⟩
      unfold okCost at k
      by_cases e : decide (0 ≤ i) = true
      · rw [e, Bool.true_and] at k
        exact if_t e ⟨_, _, rfl, rfl, k⟩
      · have e' := Bool.eq_false_iff.mpr e
        rw [e', Bool.false_and] at k
        exact if_f e' k
    · exact ⟨_, rfl, x, false, rfl, hw, _, rfl, k⟩
theorem sc_is_name : FnScope ["thing", "sign"] ["thing"] (defScope s_is_name) := ⟨rfl, rfl, rfl, by decide +kernel, rfl, by decide +kernel, by decide +kernel⟩
theorem ok_is_name (T : Lx K mg C M L) : OkF P w K mg base CX0 1 "is_name" ["thing"] (spIsName K) := by
  refine T.d_is_name.ok sc_is_name (fun _ _ _ _ _ _ us hl => match us, hl with | [_], _ => rfl) (fun vs H Q E h => ?_) (fun f cdv A outer s H vs Q E hr h => ?_)
  · obtain ⟨x, b, rfl, _⟩ := h
    rfl
  · obtain ⟨x, b, rfl, hn, k⟩ := h
    obtain ⟨tk, gk⟩ := T.g_LONGEST_NAME
    refine ⟨_, (pss_cons (ps_if (pw_or (pt_not (pt_val (pe_callB call_isi (by rfl) T.b_isinstance (by decide +kernel) (pa_cons (pv 0) (pa_cons (pe_bltn (v := .ty "str") (by rfl) T.b_str (by decide +kernel) rfl) pa_nil))))) (pw_or1 (pt_not (pt_chain op_le op_le pe_int (pe_callB call_len_str (by rfl) T.b_len PySem.boot_len (pa_cons (pv 0) pa_nil)) (pe_glob (v := .int 8) (by rfl) gk ⟨_, rfl⟩))))).pt (pss_one (ps_ret pe_bl)) pss_nil) (pss_one (ps_ret (pe_callB (cr_all rfl) (by rfl) T.b_all (by decide +kernel) (pa_cons (pe_lc (own := [("sign", 1)]) rfl sc_is_name.nd (pi_str (pv 0)) (blkOk_by (N := ["thing", "sign"]) (sc := (defScope s_is_name)) (by decide +kernel)) (fun _ _ _ _ _ => (pg_name (i := 1) sc_is_name.nd rfl (Or.inl rfl))) (fun _ _ _ _ _ => pts_nil) (fun _ _ _ _ _ => (pe_chain op_le_str op_le_str pe_str (pv 1) pe_str))) pa_nil))))), ?_⟩
    rcases hn with ⟨z, rfl, hz, rfl⟩ | ⟨rfl, t, ty, hk⟩
    · refine ⟨_, rfl, _, .ty "str", _, _, true, rfl, .ty _, .base (.str z), kit_ty (by decide +kernel), _, rfl, ?_⟩
      refine if_f rfl ?_
      refine ⟨_, rfl, _, rfl, hz, _, _, rfl, rfl, _, rfl, ?_⟩
      have no : ∀ {b : Bool}, okName z = b → b = false → Q (.bl false) H := fun e1 e2 => by
        have q := k H fun _ _ e => e
        rw [e1, e2] at q
        exact q
      by_cases e1 : decide ((1 : Int) ≤ (z.cps.size : Int)) = true
      · refine if_t e1 ⟨_, _, rfl, rfl, _, rfl, ?_⟩
        by_cases e2 : decide ((z.cps.size : Int) ≤ 8) = true
        · refine if_f (by show (!decide ((z.cps.size : Int) ≤ 8)) = false; rw [e2]; rfl) ?_
          refine ⟨_, rfl, z, rfl, fun D hD => lc_it walk_str (fun i H1 => Same H H1 ∧ H1 D = some (.lst (((z.cps.toList.take i).map okSign).map V.bl))) ⟨Same.newp hD, upd_same⟩ (fun _ _ _ _ => True.intro) ?_ ?_⟩
          · rintro i x H1 H2 hi ⟨s1, h1⟩ ⟨rfl, c, hc, rfl⟩
            have acc : ∀ b, okSign c = b → ∃ acc, H2 D = some (.lst acc) ∧ acc.length < sizeLine ∧ (Same H (upd H2 D (.lst (acc ++ [V.bl b]))) ∧ upd H2 D (.lst (acc ++ [V.bl b])) D = some (.lst (((z.cps.toList.take (i + 1)).map okSign).map V.bl))) := fun b eb => by
              refine ⟨_, h1, ?_, fun a u e => ?_, ?_⟩
              · rw [List.length_map, List.length_map, List.length_take]
                have : z.cps.size ≤ 8 := by have := of_decide_eq_true e2; omega
                exact small1000 (by simp only [Array.length_toList]; omega)
              · rw [upd_ne (ne_of_none e hD)]
                exact s1 a u e
              · rw [upd_same, List.take_add_one, show z.cps.toList[i]? = some c by rw [Array.getElem?_toList]; exact hc, List.map_append, List.map_append, ← eb]
                rfl
            refine ⟨rfl, _, rfl, _, _, rfl, rfl, _, rfl, ?_⟩
            by_cases e : (!decide ([c] < sgA.cps.toList)) = true
            · refine if_t e ⟨_, _, rfl, rfl, acc _ ?_⟩
              unfold okSign
              rw [e, Bool.true_and]
              rfl
            · refine if_f (Bool.eq_false_iff.mpr e) (acc _ ?_)
              unfold okSign
              rw [Bool.eq_false_iff.mpr e, Bool.false_and]
          · rintro H1 ⟨s1, h1⟩
            rw [show z.cps.toList.take z.cps.size = z.cps.toList by rw [← Array.length_toList, List.take_length]] at h1
            refine ⟨D, z.cps.toList.map okSign, rfl, SqL.of h1, ?_⟩
            have q := k H1 s1
            have e3 : okName z = (z.cps.toList.map okSign).all id := by
              have a1 := of_decide_eq_true e1
              have a2 := of_decide_eq_true e2
              unfold okName
              rw [decide_eq_true (by omega : 1 ≤ z.cps.size), decide_eq_true (by omega : z.cps.size ≤ 8), List.all_map]
              rfl
            rw [← e3]
            exact q
        · refine if_t (by show (!decide ((z.cps.size : Int) ≤ 8)) = true; rw [Bool.eq_false_iff.mpr e2]; rfl) ?_
          refine no rfl ?_
          have a2 : ¬ z.cps.size ≤ 8 := fun h => e2 (decide_eq_true (by omega))
          unfold okName
          rw [decide_eq_false a2, Bool.and_false, Bool.false_and]
      · refine if_f (Bool.eq_false_iff.mpr e1) ⟨_, rfl, ?_⟩
        refine if_t rfl ?_
        refine no rfl ?_
        have a1 : ¬ 1 ≤ z.cps.size := fun h => e1 (decide_eq_true (by omega))
        unfold okName
        rw [decide_eq_false a1, Bool.false_and, Bool.false_and]
    · refine ⟨_, rfl, _, .ty "str", t, _, false, rfl, .ty _, ty, hk, _, rfl, ?_⟩
      exact if_t rfl (k H fun _ _ e => e)
theorem sc_Layout__refuse_taken : FnScope ["self", "name"] ["self", "name"] (defScope s_Layout__refuse_taken) := ⟨rfl, rfl, rfl, by decide +kernel, rfl, by decide +kernel, by decide +kernel⟩
theorem ok_refuse_taken (T : Lx K mg C M L) : OkM P w K mg base (L2.CX P w) 3 L "_refuse_taken" ["self", "name"] (spRefuse C L 1 LS.taken) := by
  refine T.m__refuse_taken.okX sc_Layout__refuse_taken (fun _ _ _ _ _ _ us hl => match us, hl with | [_, _], _ => rfl) (fun vs H Q E h => ?_) (fun f cdv Ar outer st H vs Q E hr h => ?_)
  · obtain ⟨La, z, S, rfl, _⟩ := h
    rfl
  · obtain ⟨La, z, S, rfl, hL, h1, h2⟩ := h
    have hu := hu_of hr
    obtain ⟨⟨dx, ob⟩, ⟨k1, r1, r2⟩, ⟨k2, l1, l2⟩, ⟨k3, d1, d2⟩, ⟨k4, s1, s2⟩, nd⟩ := id hL
    refine ⟨_, (pss_one (ps_if (pw_or (pt_cmp (pc_din hu (pv 1) (pe_fld (pv 0) rfl))) (pw_or1 (pt_cmp (pc_din hu (pv 1) (pe_fld (pv 0) rfl))))).pt (pss_one (ps_raise1 (C := C 1) (f := "name") (W := fun cls d _ H => E cls d H) rfl (T.e 1 (by decide)) (io_1 T) T.g1 (hr.mono (by decide)) (takes_of rfl rfl rfl rfl) (pv 1))) pss_nil)), ?_⟩
    refine ⟨_, rfl, _, rfl, La.p, L, dx, _, _, rfl, ob, T.cl, T.n_lines, lfl_l La, La.l, _, rfl, DGet.k (k := Sum.inr z) l1, _, rfl, ?_⟩
    by_cases hz : z ∈ keys S.lines
    · exact if_t (by rw [(l2.has.trans look_isSome), decide_eq_true hz]) ⟨_, rfl, raise1 fun d hd => (h1 (by simp [LS.taken, hz])).out hd⟩
    · refine if_f (by rw [(l2.has.trans look_isSome), decide_eq_false hz]) ?_
      refine ⟨_, rfl, _, rfl, La.p, L, dx, _, _, rfl, ob, T.cl, T.n_drains, lfl_d La, La.d, _, rfl, DGet.k (k := Sum.inr z) d1, _, rfl, ?_⟩
      by_cases hy : z ∈ keys S.drains
      · exact if_t (by rw [(d2.has.trans look_isSome), decide_eq_true hy]) ⟨_, rfl, raise1 fun d hd => (h1 (by simp [LS.taken, hy])).out hd⟩
      · exact if_f (by rw [(d2.has.trans look_isSome), decide_eq_false hy]) (h2 (by simp [LS.taken, hz, hy]))
theorem sc_Layout__refuse_no_room : FnScope ["self", "room"] ["self", "room"] (defScope s_Layout__refuse_no_room) := ⟨rfl, rfl, rfl, by decide +kernel, rfl, by decide +kernel, by decide +kernel⟩
theorem ok_refuse_no_room (T : Lx K mg C M L) : OkM P w K mg base (L2.CX P w) 3 L "_refuse_no_room" ["self", "room"] (spRefuse C L 2 (fun S z => !decide (z ∈ S.rooms))) := by
  refine T.m__refuse_no_room.okX sc_Layout__refuse_no_room (fun _ _ _ _ _ _ us hl => match us, hl with | [_, _], _ => rfl) (fun vs H Q E h => ?_) (fun f cdv Ar outer st H vs Q E hr h => ?_)
  · obtain ⟨La, z, S, rfl, _⟩ := h
    rfl
  · obtain ⟨La, z, S, rfl, hL, h1, h2⟩ := h
    have hu := hu_of hr
    obtain ⟨⟨dx, ob⟩, ⟨k1, r1, r2⟩, ⟨k2, l1, l2⟩, ⟨k3, d1, d2⟩, ⟨k4, s1, s2⟩, nd⟩ := id hL
    refine ⟨_, (pss_one (ps_if (pt_cmp (pc_dnotin hu (pv 1) (pe_fld (pv 0) rfl))) (pss_one (ps_raise1 (C := C 2) (f := "name") (W := fun cls d _ H => E cls d H) rfl (T.e 2 (by decide)) (io_2 T) T.g2 (hr.mono (by decide)) (takes_of rfl rfl rfl rfl) (pv 1))) pss_nil)), ?_⟩
    refine ⟨_, rfl, _, rfl, La.p, L, dx, _, _, rfl, ob, T.cl, T.n_rooms, lfl_r La, La.r, _, rfl, DGet.k (k := Sum.inr z) r1, _, rfl, ?_⟩
    by_cases hz : z ∈ S.rooms
    · exact if_f (by rw [(r2.has.trans uT_look), decide_eq_true hz]; rfl) (h2 (by simp [hz]))
    · exact if_t (by rw [(r2.has.trans uT_look), decide_eq_false hz]; rfl) ⟨_, rfl, raise1 fun d hd => (h1 (by simp [hz])).out hd⟩
theorem sc_Layout__refuse_no_line : FnScope ["self", "line"] ["self", "line"] (defScope s_Layout__refuse_no_line) := ⟨rfl, rfl, rfl, by decide +kernel, rfl, by decide +kernel, by decide +kernel⟩
theorem ok_refuse_no_line (T : Lx K mg C M L) : OkM P w K mg base (L2.CX P w) 3 L "_refuse_no_line" ["self", "line"] (spRefuse C L 2 (fun S z => !decide (z ∈ keys S.lines))) := by
  refine T.m__refuse_no_line.okX sc_Layout__refuse_no_line (fun _ _ _ _ _ _ us hl => match us, hl with | [_, _], _ => rfl) (fun vs H Q E h => ?_) (fun f cdv Ar outer st H vs Q E hr h => ?_)
  · obtain ⟨La, z, S, rfl, _⟩ := h
    rfl
  · obtain ⟨La, z, S, rfl, hL, h1, h2⟩ := h
    have hu := hu_of hr
    obtain ⟨⟨dx, ob⟩, ⟨k1, r1, r2⟩, ⟨k2, l1, l2⟩, ⟨k3, d1, d2⟩, ⟨k4, s1, s2⟩, nd⟩ := id hL
    refine ⟨_, (pss_one (ps_if (pt_cmp (pc_dnotin hu (pv 1) (pe_fld (pv 0) rfl))) (pss_one (ps_raise1 (C := C 2) (f := "name") (W := fun cls d _ H => E cls d H) rfl (T.e 2 (by decide)) (io_2 T) T.g2 (hr.mono (by decide)) (takes_of rfl rfl rfl rfl) (pv 1))) pss_nil)), ?_⟩
    refine ⟨_, rfl, _, rfl, La.p, L, dx, _, _, rfl, ob, T.cl, T.n_lines, lfl_l La, La.l, _, rfl, DGet.k (k := Sum.inr z) l1, _, rfl, ?_⟩
    by_cases hz : z ∈ keys S.lines
    · exact if_f (by rw [(l2.has.trans look_isSome), decide_eq_true hz]; rfl) (h2 (by simp [hz]))
    · exact if_t (by rw [(l2.has.trans look_isSome), decide_eq_false hz]; rfl) ⟨_, rfl, raise1 fun d hd => (h1 (by simp [hz])).out hd⟩
theorem sc_Layout__refuse_no_drain : FnScope ["self", "drain"] ["self", "drain"] (defScope s_Layout__refuse_no_drain) := ⟨rfl, rfl, rfl, by decide +kernel, rfl, by decide +kernel, by decide +kernel⟩
theorem ok_refuse_no_drain (T : Lx K mg C M L) : OkM P w K mg base (L2.CX P w) 3 L "_refuse_no_drain" ["self", "drain"] (spRefuse C L 2 (fun S z => !decide (z ∈ keys S.drains))) := by
  refine T.m__refuse_no_drain.okX sc_Layout__refuse_no_drain (fun _ _ _ _ _ _ us hl => match us, hl with | [_, _], _ => rfl) (fun vs H Q E h => ?_) (fun f cdv Ar outer st H vs Q E hr h => ?_)
  · obtain ⟨La, z, S, rfl, _⟩ := h
    rfl
  · obtain ⟨La, z, S, rfl, hL, h1, h2⟩ := h
    have hu := hu_of hr
    obtain ⟨⟨dx, ob⟩, ⟨k1, r1, r2⟩, ⟨k2, l1, l2⟩, ⟨k3, d1, d2⟩, ⟨k4, s1, s2⟩, nd⟩ := id hL
    refine ⟨_, (pss_one (ps_if (pt_cmp (pc_dnotin hu (pv 1) (pe_fld (pv 0) rfl))) (pss_one (ps_raise1 (C := C 2) (f := "name") (W := fun cls d _ H => E cls d H) rfl (T.e 2 (by decide)) (io_2 T) T.g2 (hr.mono (by decide)) (takes_of rfl rfl rfl rfl) (pv 1))) pss_nil)), ?_⟩
    refine ⟨_, rfl, _, rfl, La.p, L, dx, _, _, rfl, ob, T.cl, T.n_drains, lfl_d La, La.d, _, rfl, DGet.k (k := Sum.inr z) d1, _, rfl, ?_⟩
    by_cases hz : z ∈ keys S.drains
    · exact if_f (by rw [(d2.has.trans look_isSome), decide_eq_true hz]; rfl) (h2 (by simp [hz]))
    · exact if_t (by rw [(d2.has.trans look_isSome), decide_eq_false hz]; rfl) ⟨_, rfl, raise1 fun d hd => (h1 (by simp [hz])).out hd⟩
theorem sc_Layout_add_room : FnScope ["self", "room"] ["self", "room"] (defScope s_Layout_add_room) := ⟨rfl, rfl, rfl, by decide +kernel, rfl, by decide +kernel, by decide +kernel⟩
theorem ok_add_room (T : Lx K mg C M L) : OkM P w K mg base (L2.CX P w) 4 L "add_room" ["self", "room"] (spOne K C L .addRoom) := by
  refine T.m_add_room.okX sc_Layout_add_room (fun _ _ _ _ _ _ us hl => match us, hl with | [_, _], _ => rfl) (fun vs H Q E h => ?_) (fun f cdv Ar outer st H vs Q E hr h => ?_)
  · obtain ⟨La, x, b, S, rfl, _⟩ := h
    rfl
  · obtain ⟨La, x, b, S, rfl, hL, hS, hn, h0, hD⟩ := h
    have hu := hu_of hr
    obtain ⟨tk, gk⟩ := T.g_MOST_ROOMS
    refine ⟨_, (pss_cons (ps_expr (pe_f (ok_need T) (hr.mono (by decide)) (passes_call (W := fun cls d _ H => E cls d H) (takes_of rfl rfl rfl rfl) (fun _ _ _ _ h => h)) (pa_cons pe_int (pa_cons (pe_f (ok_is_name T) (hr.mono (by decide)) pass0 (pa_cons (pv 1) pa_nil)) pa_nil)))) (pss_cons (ps_if (pt_cmp (pc_din hu (pv 1) (pe_fld (pv 0) rfl))) (pss_one (ps_raise1 (C := C 1) (f := "name") (W := fun cls d _ H => E cls d H) rfl (T.e 1 (by decide)) (io_1 T) T.g1 (hr.mono (by decide)) (takes_of rfl rfl rfl rfl) (pv 1))) pss_nil) (pss_cons (ps_if (pt_cmpR op_ge (pe_callB call_lenD (by rfl) T.b_len PySem.boot_len (pa_cons (pe_fld (pv 0) rfl) pa_nil)) (pe_glob (v := .int 24) (by rfl) gk ⟨_, rfl⟩) (nomark _)) (pss_one (ps_raise1 (C := C 3) (f := "most") (W := fun cls d _ H => E cls d H) rfl (T.e 3 (by decide)) (io_3 T) T.g3 (hr.mono (by decide)) (takes_of rfl rfl rfl rfl) (pe_glob (v := .int 24) (by rfl) gk ⟨_, rfl⟩))) pss_nil) (pss_one (ps_dput hu (pe_fld (pv 0) rfl) (pv 1) pe_bl rfl))))), ?_⟩
    refine ⟨_, rfl, x, b, rfl, hn, fun H1 e1 => ⟨_, b, rfl, fun hb => ?_, fun hb => (h0 hb).along e1⟩⟩
    subst hb
    obtain ⟨z, rfl, hz⟩ := hn.yes
    have dd := hD z rfl hz
    replace hL := hL.same e1
    obtain ⟨⟨dx, ob⟩, ⟨k1, r1, r2⟩, ⟨k2, l1, l2⟩, ⟨k3, d1, d2⟩, ⟨k4, s1, s2⟩, nd⟩ := id hL
    refine ⟨_, rfl, _, rfl, La.p, L, dx, _, _, rfl, ob, T.cl, T.n_rooms, lfl_r La, La.r, _, rfl, DGet.k (k := Sum.inr z) r1, _, rfl, ?_⟩
    by_cases hin : z ∈ S.rooms
    · exact if_t (by rw [(r2.has.trans uT_look), decide_eq_true hin]) ⟨_, rfl, raise1 fun d hd => ((dd.2 (.there z) (by simp [LS.due, hin])).along e1).out hd⟩
    refine if_f (by rw [(r2.has.trans uT_look), decide_eq_false hin]) ?_
    refine ⟨_, rfl, La.p, L, dx, _, _, rfl, ob, T.cl, T.n_rooms, lfl_r La, La.r, _, rfl, r1, _, _, rfl, rfl, _, rfl, ?_⟩
    have el : (k1.length : Int) = S.rooms.length := by rw [r2.len, uT_len]
    by_cases hm : 24 ≤ S.rooms.length
    · exact if_t (decide_eq_true (by omega)) (raise1 fun d hd => ((dd.2 (.tooMany 24) (by simp [LS.due, hin, hm])).along e1).out hd)
    refine if_f (decide_eq_false (by omega)) ?_
    refine ⟨_, rfl, La.p, L, dx, _, _, rfl, ob, T.cl, T.n_rooms, lfl_r La, _, rfl, La.r, _, rfl, DPut.k (k := Sum.inr z) r1 (small1000 (by omega)), ?_⟩
    exact dd.1 (by simp [LS.due, hin, hm]) _ (hL.setR (by rw [← uT_snoc]; exact r2.put (uT_none.mpr hin) rfl)) ((Keep.of e1).trans (Keep.dput r1 (by simp [LA.ms])))
theorem sc_Layout_add_source : FnScope ["self", "room"] ["self", "room"] (defScope s_Layout_add_source) := ⟨rfl, rfl, rfl, by decide +kernel, rfl, by decide +kernel, by decide +kernel⟩
theorem ok_add_source (T : Lx K mg C M L) : OkM P w K mg base (L2.CX P w) 4 L "add_source" ["self", "room"] (spOne K C L .addSource) := by
  refine T.m_add_source.okX sc_Layout_add_source (fun _ _ _ _ _ _ us hl => match us, hl with | [_, _], _ => rfl) (fun vs H Q E h => ?_) (fun f cdv Ar outer st H vs Q E hr h => ?_)
  · obtain ⟨La, x, b, S, rfl, _⟩ := h
    rfl
  · obtain ⟨La, x, b, S, rfl, hL, hS, hn, h0, hD⟩ := h
    have hu := hu_of hr
    refine ⟨_, (pss_cons (ps_expr (pe_f (ok_need T) (hr.mono (by decide)) (passes_call (W := fun cls d _ H => E cls d H) (takes_of rfl rfl rfl rfl) (fun _ _ _ _ h => h)) (pa_cons pe_int (pa_cons (pe_f (ok_is_name T) (hr.mono (by decide)) pass0 (pa_cons (pv 1) pa_nil)) pa_nil)))) (pss_cons (ps_expr (pe_m (ok_refuse_no_room T) T.cl (hr.mono (by decide)) (passes_call (W := fun cls d _ H => E cls d H) (takes_of rfl rfl rfl rfl) (fun _ _ _ _ h => h)) (pv 0) (pa_cons (pv 1) pa_nil))) (pss_cons (ps_if (pt_cmp (pc_din hu (pv 1) (pe_fld (pv 0) rfl))) (pss_one (ps_raise1 (C := C 1) (f := "name") (W := fun cls d _ H => E cls d H) rfl (T.e 1 (by decide)) (io_1 T) T.g1 (hr.mono (by decide)) (takes_of rfl rfl rfl rfl) (pv 1))) pss_nil) (pss_one (ps_dput hu (pe_fld (pv 0) rfl) (pv 1) pe_bl rfl))))), ?_⟩
    refine ⟨_, rfl, x, b, rfl, hn, fun H1 e1 => ⟨_, b, rfl, fun hb => ?_, fun hb => (h0 hb).along e1⟩⟩
    subst hb
    obtain ⟨z, rfl, hz⟩ := hn.yes
    have dd := hD z rfl hz
    replace hL := hL.same e1
    obtain ⟨⟨dx, ob⟩, ⟨k1, r1, r2⟩, ⟨k2, l1, l2⟩, ⟨k3, d1, d2⟩, ⟨k4, s1, s2⟩, nd⟩ := id hL
    refine ⟨_, rfl, La.p, dx, _, rfl, ob, lfl_no La (by decide +kernel), _, rfl, La, z, S, rfl, hL, fun h => ?_, fun h => ?_⟩
    · have hin : z ∉ S.rooms := by simpa using h
      exact (dd.2 (.lacks z) (by simp [LS.due, hin])).along e1
    have hin : z ∈ S.rooms := by simpa using h
    refine ⟨_, rfl, _, rfl, La.p, L, dx, _, _, rfl, ob, T.cl, T.n_sources, lfl_s La, La.s, _, rfl, DGet.k (k := Sum.inr z) s1, _, rfl, ?_⟩
    by_cases hx : z ∈ S.sources
    · exact if_t (by rw [(s2.has.trans uT_look), decide_eq_true hx]) ⟨_, rfl, raise1 fun d hd => ((dd.2 (.there z) (by simp [LS.due, hin, hx])).along e1).out hd⟩
    refine if_f (by rw [(s2.has.trans uT_look), decide_eq_false hx]) ?_
    refine ⟨_, rfl, La.p, L, dx, _, _, rfl, ob, T.cl, T.n_sources, lfl_s La, _, rfl, La.s, _, rfl, DPut.k (k := Sum.inr z) s1 (small1000 (by rw [s2.len, uT_len]; have := hS.sL; omega)), ?_⟩
    exact dd.1 (by simp [LS.due, hin, hx]) _ (hL.setS (by rw [← uT_snoc]; exact s2.put (uT_none.mpr hx) rfl)) ((Keep.of e1).trans (Keep.dput s1 (by simp [LA.ms])))
theorem sc_Layout_add_drain : FnScope ["self", "drain", "room"] ["self", "drain", "room"] (defScope s_Layout_add_drain) := ⟨rfl, rfl, rfl, by decide +kernel, rfl, by decide +kernel, by decide +kernel⟩
theorem ok_add_drain (T : Lx K mg C M L) : OkM P w K mg base (L2.CX P w) 4 L "add_drain" ["self", "drain", "room"] (spAddDrain K C L) := by
  refine T.m_add_drain.okX sc_Layout_add_drain (fun _ _ _ _ _ _ us hl => match us, hl with | [_, _, _], _ => rfl) (fun vs H Q E h => ?_) (fun f cdv Ar outer st H vs Q E hr h => ?_)
  · obtain ⟨La, x, y, b, c, S, rfl, _⟩ := h
    rfl
  · obtain ⟨La, x, y, b, c, S, rfl, hL, hS, hn, hm, h0, h1, hD⟩ := h
    have hu := hu_of hr
    obtain ⟨tk, gk⟩ := T.g_MOST_DRAINS
    refine ⟨_, (pss_cons (ps_expr (pe_f (ok_need T) (hr.mono (by decide)) (passes_call (W := fun cls d _ H => E cls d H) (takes_of rfl rfl rfl rfl) (fun _ _ _ _ h => h)) (pa_cons pe_int (pa_cons (pe_f (ok_is_name T) (hr.mono (by decide)) pass0 (pa_cons (pv 1) pa_nil)) pa_nil)))) (pss_cons (ps_expr (pe_f (ok_need T) (hr.mono (by decide)) (passes_call (W := fun cls d _ H => E cls d H) (takes_of rfl rfl rfl rfl) (fun _ _ _ _ h => h)) (pa_cons pe_int (pa_cons (pe_f (ok_is_name T) (hr.mono (by decide)) pass0 (pa_cons (pv 2) pa_nil)) pa_nil)))) (pss_cons (ps_expr (pe_m (ok_refuse_taken T) T.cl (hr.mono (by decide)) (passes_call (W := fun cls d _ H => E cls d H) (takes_of rfl rfl rfl rfl) (fun _ _ _ _ h => h)) (pv 0) (pa_cons (pv 1) pa_nil))) (pss_cons (ps_expr (pe_m (ok_refuse_no_room T) T.cl (hr.mono (by decide)) (passes_call (W := fun cls d _ H => E cls d H) (takes_of rfl rfl rfl rfl) (fun _ _ _ _ h => h)) (pv 0) (pa_cons (pv 2) pa_nil))) (pss_cons (ps_if (pt_cmpR op_ge (pe_callB call_lenD (by rfl) T.b_len PySem.boot_len (pa_cons (pe_fld (pv 0) rfl) pa_nil)) (pe_glob (v := .int 12) (by rfl) gk ⟨_, rfl⟩) (nomark _)) (pss_one (ps_raise1 (C := C 3) (f := "most") (W := fun cls d _ H => E cls d H) rfl (T.e 3 (by decide)) (io_3 T) T.g3 (hr.mono (by decide)) (takes_of rfl rfl rfl rfl) (pe_glob (v := .int 12) (by rfl) gk ⟨_, rfl⟩))) pss_nil) (pss_one (ps_dput hu (pe_fld (pv 0) rfl) (pv 1) (pv 2) rfl))))))), ?_⟩
    refine ⟨_, rfl, x, b, rfl, hn, fun H1 e1 => ⟨_, b, rfl, fun hb => ?_, fun hb => (h0 hb).along e1⟩⟩
    refine ⟨_, rfl, y, c, rfl, hm.same e1, fun H2 e2 => ⟨_, c, rfl, fun hc => ?_, fun hc => (h1 hb hc).along (e1.trans e2)⟩⟩
    subst hb hc
    replace e2 := e1.trans e2
    obtain ⟨z, rfl, hz⟩ := hn.yes
    obtain ⟨r, rfl, hr2⟩ := hm.yes
    have dd := hD z r rfl rfl hz hr2
    replace hL := hL.same e2
    obtain ⟨⟨dx, ob⟩, ⟨k1, r1, r2⟩, ⟨k2, l1, l2⟩, ⟨k3, d1, d2⟩, ⟨k4, s1, s2⟩, nd⟩ := id hL
    refine ⟨_, rfl, La.p, dx, _, rfl, ob, lfl_no La (by decide +kernel), _, rfl, La, z, S, rfl, hL, fun h => ?_, fun h => ?_⟩
    · exact (dd.2 (.there z) (by simp [LS.due, h])).along e2
    refine ⟨_, rfl, La.p, dx, _, rfl, ob, lfl_no La (by decide +kernel), _, rfl, La, r, S, rfl, hL, fun h3 => ?_, fun h3 => ?_⟩
    · have hin : r ∉ S.rooms := by simpa using h3
      exact (dd.2 (.lacks r) (by simp [LS.due, h, hin])).along e2
    have hin : r ∈ S.rooms := by simpa using h3
    refine ⟨_, rfl, La.p, L, dx, _, _, rfl, ob, T.cl, T.n_drains, lfl_d La, La.d, _, rfl, d1, _, _, rfl, rfl, _, rfl, ?_⟩
    have el : (k3.length : Int) = S.drains.length := by rw [d2.len]
    by_cases hq : 12 ≤ S.drains.length
    · exact if_t (decide_eq_true (by omega)) (raise1 fun d hd => ((dd.2 (.tooMany 12) (by simp [LS.due, h, hin, hq])).along e2).out hd)
    refine if_f (decide_eq_false (by omega)) ?_
    refine ⟨_, rfl, _, rfl, La.p, L, dx, _, _, rfl, ob, T.cl, T.n_drains, lfl_d La, _, rfl, La.d, _, rfl, DPut.k (k := Sum.inr z) d1 (small1000 (by omega)), ?_⟩
    have nz : z ∉ keys S.drains := fun w => by simp [LS.taken, w] at h
    exact dd.1 (by simp [LS.due, h, hin, hq]) _ (hL.setD (d2.put (look_none.mpr nz) rfl)) ((Keep.of e2).trans (Keep.dput d1 (by simp [LA.ms])))
theorem sc_Layout_add_line : FnScope ["self", "line", "one", "other", "cost"] ["self", "line", "one", "other", "cost"] (defScope s_Layout_add_line) := ⟨rfl, rfl, rfl, by decide +kernel, rfl, by decide +kernel, by decide +kernel⟩
theorem ok_add_line (T : Lx K mg C M L) : OkM P w K mg base (L2.CX P w) 4 L "add_line" ["self", "line", "one", "other", "cost"] (spAddLine K C L) := by
  refine T.m_add_line.okX sc_Layout_add_line (fun _ _ _ _ _ _ us hl => match us, hl with | [_, _, _, _, _], _ => rfl) (fun vs H Q E h => ?_) (fun f cdv Ar outer st H vs Q E hr h => ?_)
  · obtain ⟨La, x, y, z, u, b1, b2, b3, b4, S, rfl, _⟩ := h
    rfl
  · obtain ⟨La, x, y, z, u, b1, b2, b3, b4, S, rfl, hL, hS, n1, n2, n3, n4, h0, h1, h2, h3, hD⟩ := h
    have hu := hu_of hr
    obtain ⟨tk, gk⟩ := T.g_MOST_LINES
    refine ⟨_, (pss_cons (ps_expr (pe_f (ok_need T) (hr.mono (by decide)) (passes_call (W := fun cls d _ H => E cls d H) (takes_of rfl rfl rfl rfl) (fun _ _ _ _ h => h)) (pa_cons pe_int (pa_cons (pe_f (ok_is_name T) (hr.mono (by decide)) pass0 (pa_cons (pv 1) pa_nil)) pa_nil)))) (pss_cons (ps_expr (pe_f (ok_need T) (hr.mono (by decide)) (passes_call (W := fun cls d _ H => E cls d H) (takes_of rfl rfl rfl rfl) (fun _ _ _ _ h => h)) (pa_cons pe_int (pa_cons (pe_f (ok_is_name T) (hr.mono (by decide)) pass0 (pa_cons (pv 2) pa_nil)) pa_nil)))) (pss_cons (ps_expr (pe_f (ok_need T) (hr.mono (by decide)) (passes_call (W := fun cls d _ H => E cls d H) (takes_of rfl rfl rfl rfl) (fun _ _ _ _ h => h)) (pa_cons pe_int (pa_cons (pe_and (pe_f (ok_is_name T) (hr.mono (by decide)) pass0 (pa_cons (pv 3) pa_nil)) (pe_one (pe_cmpR op_ne (pv 3) (pv 2) (nomark _)))) pa_nil)))) (pss_cons (ps_expr (pe_f (ok_need T) (hr.mono (by decide)) (passes_call (W := fun cls d _ H => E cls d H) (takes_of rfl rfl rfl rfl) (fun _ _ _ _ h => h)) (pa_cons pe_int (pa_cons (pe_f (ok_is_cost T) (hr.mono (by decide)) pass0 (pa_cons (pv 4) pa_nil)) pa_nil)))) (pss_cons (ps_expr (pe_m (ok_refuse_taken T) T.cl (hr.mono (by decide)) (passes_call (W := fun cls d _ H => E cls d H) (takes_of rfl rfl rfl rfl) (fun _ _ _ _ h => h)) (pv 0) (pa_cons (pv 1) pa_nil))) (pss_cons (ps_expr (pe_m (ok_refuse_no_room T) T.cl (hr.mono (by decide)) (passes_call (W := fun cls d _ H => E cls d H) (takes_of rfl rfl rfl rfl) (fun _ _ _ _ h => h)) (pv 0) (pa_cons (pv 2) pa_nil))) (pss_cons (ps_expr (pe_m (ok_refuse_no_room T) T.cl (hr.mono (by decide)) (passes_call (W := fun cls d _ H => E cls d H) (takes_of rfl rfl rfl rfl) (fun _ _ _ _ h => h)) (pv 0) (pa_cons (pv 3) pa_nil))) (pss_cons (ps_if (pt_cmpR op_ge (pe_callB call_lenD (by rfl) T.b_len PySem.boot_len (pa_cons (pe_fld (pv 0) rfl) pa_nil)) (pe_glob (v := .int 40) (by rfl) gk ⟨_, rfl⟩) (nomark _)) (pss_one (ps_raise1 (C := C 3) (f := "most") (W := fun cls d _ H => E cls d H) rfl (T.e 3 (by decide)) (io_3 T) T.g3 (hr.mono (by decide)) (takes_of rfl rfl rfl rfl) (pe_glob (v := .int 40) (by rfl) gk ⟨_, rfl⟩))) pss_nil) (pss_one (ps_dput hu (pe_fld (pv 0) rfl) (pv 1) (pe_tup (pa_cons (pv 2) (pa_cons (pv 3) (pa_cons (pv 4) pa_nil)))) rfl)))))))))), ?_⟩
    refine ⟨_, rfl, x, b1, rfl, n1, fun H1 e1 => ⟨_, b1, rfl, fun hb1 => ?_, fun hb => (h0 hb).along e1⟩⟩
    refine ⟨_, rfl, y, b2, rfl, n2.same e1, fun H2 e2 => ⟨_, b2, rfl, fun hb2 => ?_, fun hb => (h1 hb1 hb).along (e1.trans e2)⟩⟩
    replace e2 := e1.trans e2
    subst hb1 hb2
    obtain ⟨n, rfl, g1⟩ := n1.yes
    obtain ⟨o, rfl, g2⟩ := n2.yes
    refine ⟨_, rfl, z, b3, rfl, n3.same e2, fun H3 e3 => ⟨_, rfl, ?_⟩⟩
    replace e3 := e2.trans e3
    cases b3 with
    | false => exact ⟨_, false, rfl, fun w => Bool.noConfusion w, fun _ => (h2 rfl rfl (.inl rfl)).along e3⟩
    | true =>
    obtain ⟨p, rfl, g3⟩ := n3.yes
    refine ⟨_, rfl, _, rfl, rfl, ?_⟩
    refine ⟨_, _, rfl, fun hne => ?_, fun he => ?_⟩
    rotate_left
    · have eq : V.str p = V.str o := by simpa using he
      exact (h2 rfl rfl (.inr eq)).along e3
    have ne : V.str p ≠ V.str o := by simpa using hne
    have ne' : o ≠ p := fun w => ne (by rw [w])
    refine ⟨_, rfl, u, b4, rfl, n4.same e3, ⟨_, b4, rfl, fun hb4 => ?_, fun hb => (h3 rfl rfl rfl ne hb).along e3⟩⟩
    subst hb4
    obtain ⟨c, rfl, g4⟩ := n4.yes
    have dd := hD n o p c rfl rfl rfl rfl g1 g2 g3 ne' g4
    replace hL := hL.same e3
    obtain ⟨⟨dx, ob⟩, ⟨k1, r1, r2⟩, ⟨k2, l1, l2⟩, ⟨k3, d1, d2⟩, ⟨k4, s1, s2⟩, nd⟩ := id hL
    refine ⟨_, rfl, La.p, dx, _, rfl, ob, lfl_no La (by decide +kernel), _, rfl, La, n, S, rfl, hL, fun h => ?_, fun ht => ?_⟩
    · exact (dd.2 (.there n) (by simp [LS.due, h])).along e3
    refine ⟨_, rfl, La.p, dx, _, rfl, ob, lfl_no La (by decide +kernel), _, rfl, La, o, S, rfl, hL, fun h => ?_, fun h => ?_⟩
    · have hin : o ∉ S.rooms := by simpa using h
      exact (dd.2 (.lacks o) (by simp [LS.due, ht, hin])).along e3
    have ho : o ∈ S.rooms := by simpa using h
    refine ⟨_, rfl, La.p, dx, _, rfl, ob, lfl_no La (by decide +kernel), _, rfl, La, p, S, rfl, hL, fun h => ?_, fun h => ?_⟩
    · have hin : p ∉ S.rooms := by simpa using h
      exact (dd.2 (.lacks p) (by simp [LS.due, ht, ho, hin])).along e3
    have hp : p ∈ S.rooms := by simpa using h
    refine ⟨_, rfl, La.p, L, dx, _, _, rfl, ob, T.cl, T.n_lines, lfl_l La, La.l, _, rfl, l1, _, _, rfl, rfl, _, rfl, ?_⟩
    have el : (k2.length : Int) = S.lines.length := by rw [l2.len]
    by_cases hq : 40 ≤ S.lines.length
    · exact if_t (decide_eq_true (by omega)) (raise1 fun d hd => ((dd.2 (.tooMany 40) (by simp [LS.due, ht, ho, hp, hq])).along e3).out hd)
    refine if_f (decide_eq_false (by omega)) ?_
    refine ⟨_, rfl, _, rfl, _, rfl, (by show 3 ≤ sizeLine; decide), fun t2 ht2 => ?_⟩
    have e4 : Same H3 (upd H3 t2 (.tup [.str o, .str p, .int c])) := Same.newp ht2
    replace hL := hL.same e4
    clear r1 r2 d1 d2 s1 s2
    have l1' := e4 _ _ l1
    have ob' := e4 _ _ ob
    refine ⟨_, rfl, La.p, L, dx, _, _, rfl, ob', T.cl, T.n_lines, lfl_l La, _, rfl, La.l, _, rfl, DPut.k (k := Sum.inr n) l1' (small1000 (by omega)), ?_⟩
    have nz : n ∉ keys S.lines := fun w => by simp [LS.taken, w] at ht
    obtain ⟨kk, q1, q2⟩ := hL.ln
    rw [l1'] at q1
    cases q1
    exact dd.1 (by simp [LS.due, ht, ho, hp, hq]) _ (hL.setL (q2.put (look_none.mpr nz) ⟨t2, rfl, upd_same⟩)) ((Keep.of (e3.trans e4)).trans (Keep.dput l1' (by simp [LA.ms])))
theorem sc_Layout_take_line : FnScope ["self", "line"] ["self", "line"] (defScope s_Layout_take_line) := ⟨rfl, rfl, rfl, by decide +kernel, rfl, by decide +kernel, by decide +kernel⟩
theorem ok_take_line (T : Lx K mg C M L) : OkM P w K mg base (L2.CX P w) 4 L "take_line" ["self", "line"] (spOne K C L .takeLine) := by
  refine T.m_take_line.okX sc_Layout_take_line (fun _ _ _ _ _ _ us hl => match us, hl with | [_, _], _ => rfl) (fun vs H Q E h => ?_) (fun f cdv Ar outer st H vs Q E hr h => ?_)
  · obtain ⟨La, x, b, S, rfl, _⟩ := h
    rfl
  · obtain ⟨La, x, b, S, rfl, hL, hS, hn, h0, hD⟩ := h
    have hu := hu_of hr
    refine ⟨_, (pss_cons (ps_expr (pe_f (ok_need T) (hr.mono (by decide)) (passes_call (W := fun cls d _ H => E cls d H) (takes_of rfl rfl rfl rfl) (fun _ _ _ _ h => h)) (pa_cons pe_int (pa_cons (pe_f (ok_is_name T) (hr.mono (by decide)) pass0 (pa_cons (pv 1) pa_nil)) pa_nil)))) (pss_cons (ps_expr (pe_m (ok_refuse_no_line T) T.cl (hr.mono (by decide)) (passes_call (W := fun cls d _ H => E cls d H) (takes_of rfl rfl rfl rfl) (fun _ _ _ _ h => h)) (pv 0) (pa_cons (pv 1) pa_nil))) (pss_one (ps_ddel (pe_fld (pv 0) rfl) (pv 1))))), ?_⟩
    refine ⟨_, rfl, x, b, rfl, hn, fun H1 e1 => ⟨_, b, rfl, fun hb => ?_, fun hb => (h0 hb).along e1⟩⟩
    subst hb
    obtain ⟨z, rfl, hz⟩ := hn.yes
    have dd := hD z rfl hz
    replace hL := hL.same e1
    obtain ⟨⟨dx, ob⟩, ⟨k1, r1, r2⟩, ⟨k2, l1, l2⟩, ⟨k3, d1, d2⟩, ⟨k4, s1, s2⟩, nd⟩ := id hL
    refine ⟨_, rfl, La.p, dx, _, rfl, ob, lfl_no La (by decide +kernel), _, rfl, La, z, S, rfl, hL, fun h => ?_, fun h => ?_⟩
    · have hin : z ∉ keys S.lines := by simpa using h
      exact (dd.2 (.lacks z) (by simp [LS.due, hin])).along e1
    have hin : z ∈ keys S.lines := by simpa using h
    refine ⟨_, rfl, La.p, L, dx, _, _, rfl, ob, T.cl, T.n_lines, lfl_l La, _, rfl, La.l, _, Sum.inr z, rfl, l1, rfl, (by rw [(l2.has.trans look_isSome)]; exact decide_eq_true hin), ?_⟩
    exact dd.1 (by simp [LS.due, hin]) _ (hL.setL l2.drop) ((Keep.of e1).trans (Keep.dput l1 (by simp [LA.ms])))
theorem sc_Layout_rooms : FnScope ["self"] ["self"] (defScope s_Layout_rooms) := ⟨rfl, rfl, rfl, by decide +kernel, rfl, by decide +kernel, by decide +kernel⟩
theorem ok_rooms (T : Lx K mg C M L) : OkM P w K mg base CX0 1 L "rooms" ["self"] (spSorted L (·.rooms)) := by
  refine T.m_rooms.ok sc_Layout_rooms (fun _ _ _ _ _ _ us hl => match us, hl with | [_], _ => rfl) (fun vs H Q E h => ?_) (fun f cdv Ar outer st H vs Q E hr h => ?_)
  · obtain ⟨La, S, rfl, _⟩ := h
    rfl
  · obtain ⟨La, S, rfl, hL, hS, k⟩ := h
    obtain ⟨⟨dx, ob⟩, ⟨k1, r1, r2⟩, ⟨k2, l1, l2⟩, ⟨k3, d1, d2⟩, ⟨k4, s1, s2⟩, nd⟩ := id hL
    refine ⟨_, (pss_one (ps_ret (pe_callB (call_sortedD rfl) (by rfl) T.b_sorted (by decide +kernel) (pa_cons (pe_fld (pv 0) rfl) pa_nil)))), ?_⟩
    exact ⟨_, rfl, La.p, L, dx, _, _, rfl, ob, T.cl, T.n_rooms, lfl_r La, La.r, _, S.rooms, rfl, .inl r1, (r2.names.trans (by rw [keys_uT])), (by have := hS.rL; omega), fun ys p a b c => k _ p ys a b (Same.newp c) c upd_same⟩
theorem sc_Layout_lines : FnScope ["self"] ["self"] (defScope s_Layout_lines) := ⟨rfl, rfl, rfl, by decide +kernel, rfl, by decide +kernel, by decide +kernel⟩
theorem ok_lines (T : Lx K mg C M L) : OkM P w K mg base CX0 1 L "lines" ["self"] (spSorted L (fun S => keys S.lines)) := by
  refine T.m_lines.ok sc_Layout_lines (fun _ _ _ _ _ _ us hl => match us, hl with | [_], _ => rfl) (fun vs H Q E h => ?_) (fun f cdv Ar outer st H vs Q E hr h => ?_)
  · obtain ⟨La, S, rfl, _⟩ := h
    rfl
  · obtain ⟨La, S, rfl, hL, hS, k⟩ := h
    obtain ⟨⟨dx, ob⟩, ⟨k1, r1, r2⟩, ⟨k2, l1, l2⟩, ⟨k3, d1, d2⟩, ⟨k4, s1, s2⟩, nd⟩ := id hL
    refine ⟨_, (pss_one (ps_ret (pe_callB (call_sortedD rfl) (by rfl) T.b_sorted (by decide +kernel) (pa_cons (pe_fld (pv 0) rfl) pa_nil)))), ?_⟩
    exact ⟨_, rfl, La.p, L, dx, _, _, rfl, ob, T.cl, T.n_lines, lfl_l La, La.l, _, keys S.lines, rfl, .inl l1, l2.names, (by have := hS.lL; rw [keys, List.length_map]; omega), fun ys p a b c => k _ p ys a b (Same.newp c) c upd_same⟩
theorem sc_Layout_drains : FnScope ["self"] ["self"] (defScope s_Layout_drains) := ⟨rfl, rfl, rfl, by decide +kernel, rfl, by decide +kernel, by decide +kernel⟩
theorem ok_drains (T : Lx K mg C M L) : OkM P w K mg base CX0 1 L "drains" ["self"] (spSorted L (fun S => keys S.drains)) := by
  refine T.m_drains.ok sc_Layout_drains (fun _ _ _ _ _ _ us hl => match us, hl with | [_], _ => rfl) (fun vs H Q E h => ?_) (fun f cdv Ar outer st H vs Q E hr h => ?_)
  · obtain ⟨La, S, rfl, _⟩ := h
    rfl
  · obtain ⟨La, S, rfl, hL, hS, k⟩ := h
    obtain ⟨⟨dx, ob⟩, ⟨k1, r1, r2⟩, ⟨k2, l1, l2⟩, ⟨k3, d1, d2⟩, ⟨k4, s1, s2⟩, nd⟩ := id hL
    refine ⟨_, (pss_one (ps_ret (pe_callB (call_sortedD rfl) (by rfl) T.b_sorted (by decide +kernel) (pa_cons (pe_fld (pv 0) rfl) pa_nil)))), ?_⟩
    exact ⟨_, rfl, La.p, L, dx, _, _, rfl, ob, T.cl, T.n_drains, lfl_d La, La.d, _, keys S.drains, rfl, .inl d1, d2.names, (by have := hS.dL; rw [keys, List.length_map]; omega), fun ys p a b c => k _ p ys a b (Same.newp c) c upd_same⟩
theorem sc_Layout_sources : FnScope ["self"] ["self"] (defScope s_Layout_sources) := ⟨rfl, rfl, rfl, by decide +kernel, rfl, by decide +kernel, by decide +kernel⟩
theorem ok_sources (T : Lx K mg C M L) : OkM P w K mg base CX0 1 L "sources" ["self"] (spSorted L (·.sources)) := by
  refine T.m_sources.ok sc_Layout_sources (fun _ _ _ _ _ _ us hl => match us, hl with | [_], _ => rfl) (fun vs H Q E h => ?_) (fun f cdv Ar outer st H vs Q E hr h => ?_)
  · obtain ⟨La, S, rfl, _⟩ := h
    rfl
  · obtain ⟨La, S, rfl, hL, hS, k⟩ := h
    obtain ⟨⟨dx, ob⟩, ⟨k1, r1, r2⟩, ⟨k2, l1, l2⟩, ⟨k3, d1, d2⟩, ⟨k4, s1, s2⟩, nd⟩ := id hL
    refine ⟨_, (pss_one (ps_ret (pe_callB (call_sortedD rfl) (by rfl) T.b_sorted (by decide +kernel) (pa_cons (pe_fld (pv 0) rfl) pa_nil)))), ?_⟩
    exact ⟨_, rfl, La.p, L, dx, _, _, rfl, ob, T.cl, T.n_sources, lfl_s La, La.s, _, S.sources, rfl, .inl s1, (s2.names.trans (by rw [keys_uT])), (by have := hS.sL; omega), fun ys p a b c => k _ p ys a b (Same.newp c) c upd_same⟩
theorem sc_Layout_line : FnScope ["self", "line"] ["self", "line"] (defScope s_Layout_line) := ⟨rfl, rfl, rfl, by decide +kernel, rfl, by decide +kernel, by decide +kernel⟩
theorem ok_line (T : Lx K mg C M L) : OkM P w K mg base (L2.CX P w) 4 L "line" ["self", "line"] (spAsk K C L (fun S z => look S.lines z) (fun e v _ H' => LineG H' v e)) := by
  refine T.m_line.okX sc_Layout_line (fun _ _ _ _ _ _ us hl => match us, hl with | [_, _], _ => rfl) (fun vs H Q E h => ?_) (fun f cdv Ar outer st H vs Q E hr h => ?_)
  · obtain ⟨La, x, b, S, rfl, _⟩ := h
    rfl
  · obtain ⟨La, x, b, S, rfl, hL, hS, hn, h0, hD⟩ := h
    have hu := hu_of hr
    refine ⟨_, (pss_cons (ps_expr (pe_f (ok_need T) (hr.mono (by decide)) (passes_call (W := fun cls d _ H => E cls d H) (takes_of rfl rfl rfl rfl) (fun _ _ _ _ h => h)) (pa_cons pe_int (pa_cons (pe_f (ok_is_name T) (hr.mono (by decide)) pass0 (pa_cons (pv 1) pa_nil)) pa_nil)))) (pss_cons (ps_expr (pe_m (ok_refuse_no_line T) T.cl (hr.mono (by decide)) (passes_call (W := fun cls d _ H => E cls d H) (takes_of rfl rfl rfl rfl) (fun _ _ _ _ h => h)) (pv 0) (pa_cons (pv 1) pa_nil))) (pss_one (ps_ret (pe_dget hu (pe_fld (pv 0) rfl) (pv 1) (fun _ _ => rfl)))))), ?_⟩
    refine ⟨_, rfl, x, b, rfl, hn, fun H1 e1 => ⟨_, b, rfl, fun hb => ?_, fun hb => (h0 hb).along e1⟩⟩
    subst hb
    obtain ⟨z, rfl, hz⟩ := hn.yes
    have dd := hD z rfl hz
    replace hL := hL.same e1
    obtain ⟨⟨dx, ob⟩, ⟨k1, r1, r2⟩, ⟨k2, l1, l2⟩, ⟨k3, d1, d2⟩, ⟨k4, s1, s2⟩, nd⟩ := id hL
    refine ⟨_, rfl, La.p, dx, _, rfl, ob, lfl_no La (by decide +kernel), _, rfl, La, z, S, rfl, hL, fun h => ?_, fun h => ?_⟩
    · have hin : z ∉ keys S.lines := by simpa using h
      exact (dd.1 (look_none.mpr hin)).along e1
    cases el : look S.lines z with
    | none => exact absurd (by simpa using h) (look_none.mp el)
    | some a =>
      obtain ⟨v, ev, gv⟩ := l2.get el
      exact ⟨_, rfl, La.p, L, dx, _, _, rfl, ob, T.cl, T.n_lines, lfl_l La, _, rfl, La.l, v, rfl, (by have g := DGet.k (k := Sum.inr z) l1; rw [ev] at g; exact g), dd.2 a el _ _ e1 gv⟩
theorem sc_Layout_drain : FnScope ["self", "drain"] ["self", "drain"] (defScope s_Layout_drain) := ⟨rfl, rfl, rfl, by decide +kernel, rfl, by decide +kernel, by decide +kernel⟩
theorem ok_drain (T : Lx K mg C M L) : OkM P w K mg base (L2.CX P w) 4 L "drain" ["self", "drain"] (spAsk K C L (fun S z => look S.drains z) (fun r v _ _ => v = .str r)) := by
  refine T.m_drain.okX sc_Layout_drain (fun _ _ _ _ _ _ us hl => match us, hl with | [_, _], _ => rfl) (fun vs H Q E h => ?_) (fun f cdv Ar outer st H vs Q E hr h => ?_)
  · obtain ⟨La, x, b, S, rfl, _⟩ := h
    rfl
  · obtain ⟨La, x, b, S, rfl, hL, hS, hn, h0, hD⟩ := h
    have hu := hu_of hr
    refine ⟨_, (pss_cons (ps_expr (pe_f (ok_need T) (hr.mono (by decide)) (passes_call (W := fun cls d _ H => E cls d H) (takes_of rfl rfl rfl rfl) (fun _ _ _ _ h => h)) (pa_cons pe_int (pa_cons (pe_f (ok_is_name T) (hr.mono (by decide)) pass0 (pa_cons (pv 1) pa_nil)) pa_nil)))) (pss_cons (ps_expr (pe_m (ok_refuse_no_drain T) T.cl (hr.mono (by decide)) (passes_call (W := fun cls d _ H => E cls d H) (takes_of rfl rfl rfl rfl) (fun _ _ _ _ h => h)) (pv 0) (pa_cons (pv 1) pa_nil))) (pss_one (ps_ret (pe_dget hu (pe_fld (pv 0) rfl) (pv 1) (fun _ _ => rfl)))))), ?_⟩
    refine ⟨_, rfl, x, b, rfl, hn, fun H1 e1 => ⟨_, b, rfl, fun hb => ?_, fun hb => (h0 hb).along e1⟩⟩
    subst hb
    obtain ⟨z, rfl, hz⟩ := hn.yes
    have dd := hD z rfl hz
    replace hL := hL.same e1
    obtain ⟨⟨dx, ob⟩, ⟨k1, r1, r2⟩, ⟨k2, l1, l2⟩, ⟨k3, d1, d2⟩, ⟨k4, s1, s2⟩, nd⟩ := id hL
    refine ⟨_, rfl, La.p, dx, _, rfl, ob, lfl_no La (by decide +kernel), _, rfl, La, z, S, rfl, hL, fun h => ?_, fun h => ?_⟩
    · have hin : z ∉ keys S.drains := by simpa using h
      exact (dd.1 (look_none.mpr hin)).along e1
    cases el : look S.drains z with
    | none => exact absurd (by simpa using h) (look_none.mp el)
    | some a =>
      obtain ⟨v, ev, gv⟩ := d2.get el
      exact ⟨_, rfl, La.p, L, dx, _, _, rfl, ob, T.cl, T.n_drains, lfl_d La, _, rfl, La.d, v, rfl, (by have g := DGet.k (k := Sum.inr z) d1; rw [ev] at g; exact g), dd.2 a el _ _ e1 gv⟩
theorem sc_Layout___init__ : FnScope ["self"] ["self"] (defScope s_Layout___init__) := ⟨rfl, rfl, rfl, by decide +kernel, rfl, by decide +kernel, by decide +kernel⟩
theorem ok_initL (T : Lx K mg C M L) : OkM P w K mg base CX0 1 L "__init__" ["self"] (spInitL L) := by
  refine T.m_init.ok sc_Layout___init__ (fun _ _ _ _ _ _ us hl => match us, hl with | [_], _ => rfl) (fun vs H Q E h => ?_) (fun f cdv Ar outer st H vs Q E hr h => ?_)
  · obtain ⟨p, dx, rfl, _⟩ := h
    rfl
  · obtain ⟨p, dx, rfl, hp, k⟩ := h
    refine ⟨_, (pss_cons (ps_fld (pv 0) pe_dnewK rfl) (pss_cons (ps_fld (pv 0) pe_dnewK rfl) (pss_cons (ps_fld (pv 0) pe_dnewK rfl) (pss_one (ps_fld (pv 0) pe_dnewK rfl))))), ?_⟩
    intro r hr0
    have npr : p ≠ r := ne_of_none hp hr0
    refine ⟨_, rfl, p, L, dx, [], rfl, (by rw [upd_ne npr]; exact hp), T.cl, T.n_rooms, (by show 0 < 1000; decide), ?_⟩
    intro l hl0
    have npl : p ≠ l := ne_of_none upd_same hl0
    have nrl : r ≠ l := ne_of_none ((upd_ne npr.symm).trans upd_same) hl0
    refine ⟨_, rfl, p, L, dx, _, rfl, (by rw [upd_ne npl]; exact upd_same), T.cl, T.n_lines, (by show 1 < 1000; decide), ?_⟩
    intro d hd0
    have npd : p ≠ d := ne_of_none upd_same hd0
    have nld : l ≠ d := ne_of_none ((upd_ne npl.symm).trans upd_same) hd0
    have nrd : r ≠ d := ne_of_none (by rw [upd_ne npr.symm, upd_ne nrl, upd_ne npr.symm]; exact upd_same) hd0
    refine ⟨_, rfl, p, L, dx, _, rfl, (by rw [upd_ne npd]; exact upd_same), T.cl, T.n_drains, (by rw [pf2]; show 2 < 1000; decide), ?_⟩
    intro s hs0
    have nps : p ≠ s := ne_of_none upd_same hs0
    have nds : d ≠ s := ne_of_none ((upd_ne npd.symm).trans upd_same) hs0
    have nls : l ≠ s := ne_of_none (by rw [upd_ne npl.symm, upd_ne nld, upd_ne npl.symm]; exact upd_same) hs0
    have nrs : r ≠ s := ne_of_none (by rw [upd_ne npr.symm, upd_ne nrd, upd_ne npr.symm, upd_ne nrl, upd_ne npr.symm]; exact upd_same) hs0
    refine ⟨_, rfl, p, L, dx, _, rfl, (by rw [upd_ne nps]; exact upd_same), T.cl, T.n_sources, (by rw [pf2, pf3]; show 3 < 1000; decide), ?_⟩
    have low : ∀ b u, H b = some u → b ≠ p → b ≠ r ∧ b ≠ l ∧ b ≠ d ∧ b ≠ s := fun b u e nb => by
      have q1 : b ≠ r := ne_of_none e hr0
      have q2 : b ≠ l := ne_of_none (by rw [upd_ne nb, upd_ne q1]; exact e) hl0
      have q3 : b ≠ d := ne_of_none (by rw [upd_ne nb, upd_ne q2, upd_ne nb, upd_ne q1]; exact e) hd0
      have q4 : b ≠ s := ne_of_none (by rw [upd_ne nb, upd_ne q3, upd_ne nb, upd_ne q2, upd_ne nb, upd_ne q1]; exact e) hs0
      exact ⟨q1, q2, q3, q4⟩
    refine k ⟨p, r, l, d, s⟩ _ rfl ⟨⟨dx, upd_same.trans (by rw [pf2, pf3, pf4]; rfl)⟩, ⟨[], ?_, .nil⟩, ⟨[], ?_, .nil⟩, ⟨[], ?_, .nil⟩, ⟨[], ?_, .nil⟩, ?_⟩ (fun b u e nb => ?_) (fun b hb => ?_) (fun b e => ?_)
    · rw [upd_ne npr.symm, upd_ne nrs, upd_ne npr.symm, upd_ne nrd, upd_ne npr.symm, upd_ne nrl, upd_ne npr.symm]
      exact upd_same
    · rw [upd_ne npl.symm, upd_ne nls, upd_ne npl.symm, upd_ne nld, upd_ne npl.symm]
      exact upd_same
    · rw [upd_ne npd.symm, upd_ne nds, upd_ne npd.symm]
      exact upd_same
    · rw [upd_ne nps.symm]
      exact upd_same
    · show [r, l, d, s].Nodup
      simp [nrl, nrd, nrs, nld, nls, nds]
    · obtain ⟨q1, q2, q3, q4⟩ := low b u e nb
      rw [upd_ne nb, upd_ne q4, upd_ne nb, upd_ne q3, upd_ne nb, upd_ne q2, upd_ne nb, upd_ne q1]
      exact e
    · have hb' : b = r ∨ b = l ∨ b = d ∨ b = s := by simpa [LA.ms] using hb
      rcases hb' with rfl | rfl | rfl | rfl
      · exact hr0
      · rw [upd_ne npl.symm, upd_ne nrl.symm] at hl0
        exact hl0
      · rw [upd_ne npd.symm, upd_ne nld.symm, upd_ne npd.symm, upd_ne nrd.symm] at hd0
        exact hd0
      · rw [upd_ne nps.symm, upd_ne nds.symm, upd_ne nps.symm, upd_ne nls.symm, upd_ne nps.symm, upd_ne nrs.symm] at hs0
        exact hs0
    · by_cases z0 : b = p
      · rw [z0, upd_same] at e
        cases e
      rw [upd_ne z0] at e
      by_cases z4 : b = s
      · rw [z4, upd_same] at e
        cases e
      rw [upd_ne z4, upd_ne z0] at e
      by_cases z3 : b = d
      · rw [z3, upd_same] at e
        cases e
      rw [upd_ne z3, upd_ne z0] at e
      by_cases z2 : b = l
      · rw [z2, upd_same] at e
        cases e
      rw [upd_ne z2, upd_ne z0] at e
      by_cases z1 : b = r
      · rw [z1, upd_same] at e
        cases e
      rw [upd_ne z1] at e
      exact e
end
end SM
namespace SM
open PySem PySem.Spec PyProof.Rows L2
open Evl (tCut pss_cut)
abbrev s_are_names : Stmt := topS 18
abbrev s_switches_in : Stmt := topS 20
abbrev s_refuse_no_switch : Stmt := topS 21
abbrev s__refuse_first_beside : Stmt := topS 22
abbrev s_cost_of : Stmt := topS 29
/-- what the top has made of the program's further text -/
structure Rx (K : PySem.W.Frag) (mg : Str → Option Value) (C : Nat → Addr) (M L : Addr) : Prop extends Lx K mg C M L where
  r_are_names : DefAt K mg "are_names" s_are_names
  r_switches_in : DefAt K mg "switches_in" s_switches_in
  r_refuse_no_switch : DefAt K mg "refuse_no_switch" s_refuse_no_switch
  r_refuse_first_beside : DefAt K mg "_refuse_first_beside" s__refuse_first_beside
  r_cost_of : DefAt K mg "cost_of" s_cost_of
  b_sum : mg "sum" = none
  g_MOST_NAMES : ∃ t, mg "MOST_NAMES" = some (.int 60 t)
  i_ha : PySem.W.findIn K (.ref L) "__class__" = some (some (.builtin "object.__class__"))
  i_hn : PySem.W.specialIn K (.builtin "object.__class__") "__get__" = some (some (.builtin "getset_descriptor.__get__"))
  i_ht : PySem.W.takesIn K (.builtin "object.__class__") = some true
  i_hm : PySem.W.mroIn K L (.type "object") = some true
  i_ty : PySem.W.typeIn K (.ref L) = some (.type "type")
section
variable {P : Program} {w : World} {K : PySem.W.Frag} {mg : Str → Option Value} {base : Heap} {C : Nat → Addr} {M L : Addr}
theorem sc_are_names : FnScope ["thing", "member"] ["thing"] (defScope s_are_names) := ⟨rfl, rfl, rfl, by decide +kernel, rfl, by decide +kernel, by decide +kernel⟩
theorem ro_are_names (T : Rx K mg C M L) : OkF P w K mg base CX0 2 "are_names" ["thing"] (spAreNamesQ K) := by
  refine T.r_are_names.ok sc_are_names (fun _ _ _ _ _ _ us hl => match us, hl with | [_], _ => rfl) (fun vs H Q E h => ?_) (fun f cdv Ar outer st H vs Q E hr h => ?_)
  · obtain ⟨v, b, rfl, _⟩ := h
    rfl
  · obtain ⟨v, b, rfl, q, k⟩ := h
    obtain ⟨tk, gk⟩ := T.g_MOST_NAMES
    refine ⟨_, (pss_cons (ps_if (pw_or (pt_not (pt_val (pe_callB call_isi (by rfl) T.b_isinstance (by decide +kernel) (pa_cons (pv 0) (pa_cons (pe_bltn (v := .ty "list") (by rfl) T.b_list (by decide +kernel) rfl) pa_nil))))) (pw_or1 (pt_cmpR op_gt (pe_callB call_len_seq (by rfl) T.b_len PySem.boot_len (pa_cons (pv 0) pa_nil)) (pe_glob (v := .int 60) (by rfl) gk ⟨_, rfl⟩) (nomark _)))).pt (pss_one (ps_ret pe_bl)) pss_nil) (pss_one (ps_ret (pe_and (pe_callB (cr_all rfl) (by rfl) T.b_all (by decide +kernel) (pa_cons (pe_lc (own := [("member", 1)]) rfl sc_are_names.nd (pi_list (pv 0)) (blkOk_by (N := ["thing", "member"]) (sc := (defScope s_are_names)) (by decide +kernel)) (fun _ _ _ _ _ => (pg_name (i := 1) sc_are_names.nd rfl (Or.inl rfl))) (fun _ _ _ _ _ => pts_nil) (fun _ _ _ _ _ => (pe_f (ok_is_name T.toLx) (hr.mono (by decide)) pass0 (pa_cons (pv 1) pa_nil)))) pa_nil)) (pe_one (pe_cmpR op_eq (pe_lenSetA rfl (by rfl) T.b_len (by rfl) T.b_set (pv 0)) (pe_callB call_len_seq (by rfl) T.b_len PySem.boot_len (pa_cons (pv 0) pa_nil)) (nomark _))))))), ?_⟩
    cases q with
    | @no _ t ty h =>
      refine ⟨_, rfl, _, .ty "list", _, _, false, rfl, .ty _, ty, h, _, rfl, ?_⟩
      exact if_t rfl (k H fun _ _ e => e)
    | @long l xs hl n =>
      refine ⟨_, rfl, _, .ty "list", _, _, true, rfl, .ty _, .base (.lst hl), kit_ty (by decide +kernel), _, rfl, ?_⟩
      refine if_f rfl ?_
      refine ⟨_, rfl, l, _, rfl, .inl (SqL.of hl), _, _, rfl, rfl, _, rfl, ?_⟩
      exact if_t (decide_eq_true (by omega)) (k H fun _ _ e => e)
    | @bad l xs bs hl n q f =>
      refine ⟨_, rfl, _, .ty "list", _, _, true, rfl, .ty _, .base (.lst hl), kit_ty (by decide +kernel), _, rfl, ?_⟩
      refine if_f rfl ?_
      refine ⟨_, rfl, l, _, rfl, .inl (SqL.of hl), _, _, rfl, rfl, _, rfl, ?_⟩
      refine if_f (decide_eq_false (by omega)) ?_
      refine ⟨_, rfl, l, rfl, ⟨_, SqL.of hl⟩, fun D hD => ?_⟩
      have lb : bs.length = xs.length := (Paired.length q).symm
      refine lc_list (K := K) (a := l) (xs := xs) (fun i H1 => Same H H1 ∧ H1 D = some (.lst ((bs.take i).map V.bl))) ⟨Same.newp hD, upd_same⟩ (fun i H1 _ q => SqL.of (q.1 _ _ hl)) ?_ ?_
      · rintro i y H1 hi ⟨e1, h1⟩
        obtain ⟨b1, eb, nq⟩ := SM.Paired.at q hi
        have li : i < xs.length := (List.getElem?_eq_some_iff.mp hi).1
        refine ⟨rfl, _, rfl, y, b1, rfl, nq.same e1, fun H2 e2 => ⟨_, e2 _ _ h1, ?_, fun b u e => ?_, ?_⟩⟩
        · rw [List.length_map, List.length_take]
          exact small1000 (by omega)
        · rw [upd_ne (ne_of_none e hD)]
          exact e2 _ _ (e1 _ _ e)
        · rw [upd_same, List.take_add_one, eb, List.map_append]
          rfl
      · rintro H1 ⟨e1, h1⟩
        rw [← lb, List.take_length] at h1
        refine ⟨D, _, rfl, SqL.of h1, _, rfl, ?_⟩
        exact if_f f (k H1 e1)
    | @txt l xs hl len ok =>
      refine ⟨_, rfl, _, .ty "list", _, _, true, rfl, .ty _, .base (.lst hl), kit_ty (by decide +kernel), _, rfl, ?_⟩
      refine if_f rfl ?_
      refine ⟨_, rfl, l, _, rfl, .inl (SqL.of hl), _, _, rfl, rfl, _, rfl, ?_⟩
      refine if_f (decide_eq_false (by rw [List.length_map]; omega)) ?_
      refine ⟨_, rfl, l, rfl, ⟨_, SqL.of hl⟩, fun D hD => ?_⟩
      refine lc_list (K := K) (a := l) (xs := xs.map V.str) (fun i H1 => Same H H1 ∧ H1 D = some (.lst ((List.replicate i true).map V.bl))) ⟨Same.newp hD, upd_same⟩ (fun i H1 _ q => SqL.of (q.1 _ _ hl)) ?_ ?_
      · rintro i y H1 hi ⟨e1, h1⟩
        obtain ⟨z, mz, rfl⟩ := List.mem_map.mp (List.mem_of_getElem? hi)
        have li : i < xs.length := by
          have := (List.getElem?_eq_some_iff.mp hi).1
          rw [List.length_map] at this
          exact this
        refine ⟨rfl, _, rfl, .str z, true, rfl, NameQ.of (ok z mz), fun H2 e2 => ⟨_, e2 _ _ h1, ?_, fun b u e => ?_, ?_⟩⟩
        · rw [List.length_map, List.length_replicate]
          exact small1000 (by omega)
        · rw [upd_ne (ne_of_none e hD)]
          exact e2 _ _ (e1 _ _ e)
        · rw [upd_same, show List.replicate (i + 1) true = List.replicate i true ++ [true] by rw [List.replicate_succ', ], List.map_append]
          rfl
      · rintro H1 ⟨e1, h1⟩
        have hl1 := e1 _ _ hl
        refine ⟨D, _, rfl, SqL.of h1, _, rfl, ?_⟩
        rw [show (List.replicate (xs.map V.str).length true).all id = true by rw [List.all_replicate]; simp]
        refine if_t rfl ⟨_, rfl, l, xs, rfl, SqL.of hl1, scan60 len, fun ys oy => ⟨_, rfl, l, _, rfl, .inl (SqL.of hl1), rfl, ?_⟩⟩
        rw [List.length_map]
        show Q (.bl (decide (V.int ys.length = V.int xs.length))) H1
        rw [show decide (V.int ys.length = V.int xs.length) = decide xs.Nodup from decide_eq_decide.mpr ⟨fun e => oy.nodup (by injection e with e; omega), fun n => by rw [oy.self n]⟩]
        exact k H1 e1
theorem sc_switches_in : FnScope ["layout", "line"] ["layout"] (defScope s_switches_in) := ⟨rfl, rfl, rfl, by decide +kernel, rfl, by decide +kernel, by decide +kernel⟩
theorem ro_switches_in (T : Rx K mg C M L) : OkF P w K mg base CX0 5 "switches_in" ["layout"] (spSwitchesIn L) := by
  refine T.r_switches_in.ok sc_switches_in (fun _ _ _ _ _ _ us hl => match us, hl with | [_], _ => rfl) (fun vs H Q E h => ?_) (fun f cdv Ar outer st H vs Q E hr h => ?_)
  · obtain ⟨La, S, rfl, _⟩ := h
    rfl
  · obtain ⟨La, S, rfl, hL, hS, k⟩ := h
    obtain ⟨⟨dx, ob⟩, _⟩ := id hL
    refine ⟨_, (pss_one (ps_ret (pe_lc (own := [("line", 1)]) rfl sc_switches_in.nd (pi_list (pe_m0 (ok_lines T.toLx) T.cl (hr.mono (by decide)) pass0 (pv 0))) (blkOk_by (N := ["layout", "line"]) (sc := (defScope s_switches_in)) (by decide +kernel)) (fun _ _ _ _ _ => (pg_name (i := 1) sc_switches_in.nd rfl (Or.inl rfl))) (fun _ _ _ _ _ => (pts_one (pt_cmpR op_gt (pe_ix (ix_tupK (K := K) rfl) (pe_m (ok_line T.toLx) T.cl (hr.mono (by decide)) passL (pv 0) (pa_cons (pv 1) pa_nil)) pe_int (fun _ _ => rfl)) pe_int (nomark _)))) (fun _ _ _ _ _ => (pv 1))))), ?_⟩
    refine ⟨_, rfl, La.p, dx, _, rfl, ob, lfl_no La (by decide +kernel), La, S, rfl, hL, hS, fun H1 p ls pl sl e1 np hp => ?_⟩
    replace pl : ls.Perm (keys S.lines) := pl
    refine ⟨p, rfl, ⟨_, SqL.of hp⟩, fun D hD => ?_⟩
    have n40 : ls.length ≤ 40 := by
      rw [pl.length_eq, keys, List.length_map]
      exact hS.lL
    refine lc_list (K := K) (a := p) (xs := ls.map V.str) (fun i H2 => Same H1 H2 ∧ H2 D = some (.lst (((ls.take i).filter fun l => decide (l ∈ swOf S)).map V.str))) ⟨Same.newp hD, upd_same⟩ (fun i H1 _ q => SqL.of (q.1 _ _ hp)) ?_ ?_
    · rintro i y H2 hi ⟨e2, h2⟩
      rw [List.getElem?_map] at hi
      obtain ⟨z, ez, rfl⟩ := Option.map_eq_some_iff.mp hi
      have hk : z ∈ keys S.lines := pl.mem_iff.mp (List.mem_of_getElem? ez)
      have e3 := e1.trans e2
      refine ⟨rfl, _, rfl, La.p, dx, _, rfl, e3 _ _ ob, lfl_no La (by decide +kernel), _, rfl, La, .str z, true, S, rfl, hL.same e3, hS, NameQ.of (hS.lG z hk), (fun w => Bool.noConfusion w), fun z1 ez1 _ => ?_⟩
      cases ez1
      refine ⟨fun no => absurd hk (look_none.mp no), fun e el H3 v e4 told => ?_⟩
      obtain ⟨t, rfl, ht⟩ := told
      refine ⟨t, _, 2, _, rfl, rfl, SqT.of ht, rfl, _, _, rfl, rfl, _, rfl, ?_⟩
      have ea : (z ∈ swOf S) ↔ 0 < e.2.2 := sw_iff hS el
      have tk : ls.take (i + 1) = ls.take i ++ [z] := by
        rw [List.take_add_one, ez]
        rfl
      by_cases hb : 0 < e.2.2
      · refine if_t (decide_eq_true hb) ⟨_, rfl, _, e4 _ _ h2, ?_, fun b u w => ?_, ?_⟩
        · rw [List.length_map]
          refine small1000 ?_
          have a1 := List.length_filter_le (fun l => decide (l ∈ swOf S)) (ls.take i)
          rw [List.length_take] at a1
          omega
        · rw [upd_ne (ne_of_none w hD)]
          exact e4 _ _ (e2 _ _ w)
        · rw [upd_same, tk, List.filter_append, List.filter_cons, if_pos (decide_eq_true (ea.mpr hb)), List.map_append]
          rfl
      · refine if_f (decide_eq_false hb) ⟨fun b u w => e4 _ _ (e2 _ _ w), ?_⟩
        rw [tk, List.filter_append, List.filter_cons, if_neg (by simp [ea, hb]), List.filter_nil, List.append_nil]
        exact e4 _ _ h2
    · rintro H2 ⟨e2, h2⟩
      rw [List.length_map, List.take_length] at h2
      exact k H2 D _ (sw_srt hS ⟨pl, sl⟩) (e1.trans e2) (e1.free hD) h2
theorem sc__refuse_first_beside : FnScope ["names", "there", "name"] ["names", "there"] (defScope s__refuse_first_beside) := ⟨rfl, rfl, rfl, by decide +kernel, rfl, by decide +kernel, by decide +kernel⟩
theorem ro_refuse_first_beside (T : Rx K mg C M L) : OkF P w K mg base (L2.CX P w) 3 "_refuse_first_beside" ["names", "there"] (spBesideQ C) := by
  refine T.r_refuse_first_beside.okX sc__refuse_first_beside (fun _ _ _ _ _ _ us hl => match us, hl with | [_, _], _ => rfl) (fun vs H Q E h => ?_) (fun f cdv Ar outer st H vs Q E hr h => ?_)
  · obtain ⟨a, b, xs, ys, rfl, _⟩ := h
    rfl
  · obtain ⟨a, b, xs, ys, rfl, ha, hb, r, k⟩ := h
    refine ⟨_, (pss_one (ps_for (passes_of rfl) rfl (pi_list (pv 0)) (pg_name (i := 2) sc__refuse_first_beside.nd rfl (Or.inl rfl)) (pss_one (ps_if (pt_cmpR (op_notIn_seqK (K := K) rfl) (pv 2) (pv 1) rfl) (pss_one (ps_raise1 (C := C 2) (f := "name") (W := fun cls d _ H => E cls d H) rfl (T.e 2 (by decide)) (io_2 T.toLx) T.g2 (hr.mono (by decide)) (takes_of rfl rfl rfl rfl) (pv 2))) pss_nil)))), ?_⟩
    refine ⟨_, rfl, a, rfl, ⟨_, SqL.of ha⟩, ?_⟩
    refine for_list (K := K) (a := a) (xs := xs.map V.str) (fun i σ H1 => H1 = H ∧ (∃ x : Option V, σ = [some (.ref a), some (.ref b), x]) ∧ ∀ x ∈ xs.take i, x ∈ ys) ⟨rfl, ⟨_, rfl⟩, by intro x h; cases h⟩ (fun i σ H1 _ q => by rw [q.1]; exact SqL.of ha) ?_ ?_
    · rintro i y σ H1 hi ⟨rfl, ⟨x, rfl⟩, tk⟩
      rw [List.getElem?_map] at hi
      obtain ⟨z, ez, rfl⟩ := Option.map_eq_some_iff.mp hi
      refine ⟨_, rfl, _, rfl, b, _, rfl, .inl (SqL.of hb), rfl, flat_strs _, _, rfl, ?_⟩
      by_cases mz : z ∈ ys
      · refine if_f ?_ ⟨rfl, ⟨_, rfl⟩, fun x hx => ?_⟩
        · show (!inV (.str z) (ys.map V.str)) = false
          rw [inV_strs, decide_eq_true mz]
          rfl
        · rw [List.take_add_one, ez] at hx
          rcases List.mem_append.mp hx with w | w
          · exact tk x w
          · rw [List.mem_singleton.mp w]
            exact mz
      · refine if_t ?_ ⟨_, rfl, raise1 fun d hd => (r z (firstOut_take ez tk mz)).out hd⟩
        show (!inV (.str z) (ys.map V.str)) = true
        rw [inV_strs, decide_eq_false mz]
        rfl
    · rintro σ H1 ⟨rfl, _, tk⟩
      rw [List.length_map, List.take_length] at tk
      exact k (firstOut_none tk) _ fun _ _ e => e
theorem sc_refuse_no_switch : FnScope ["layout", "names"] ["layout", "names"] (defScope s_refuse_no_switch) := ⟨rfl, rfl, rfl, by decide +kernel, rfl, by decide +kernel, by decide +kernel⟩
theorem ro_refuse_no_switch (T : Rx K mg C M L) : OkF P w K mg base (L2.CX P w) 6 "refuse_no_switch" ["layout", "names"] (spNoSwitchQ C L) := by
  refine T.r_refuse_no_switch.okX sc_refuse_no_switch (fun _ _ _ _ _ _ us hl => match us, hl with | [_, _], _ => rfl) (fun vs H Q E h => ?_) (fun f cdv Ar outer st H vs Q E hr h => ?_)
  · obtain ⟨La, S, a, xs, rfl, _⟩ := h
    rfl
  · obtain ⟨La, S, a, xs, rfl, hL, hS, ha, r, k⟩ := h
    refine ⟨_, (pss_one (ps_expr (pe_f (ro_refuse_first_beside T) (hr.mono (by decide)) (passes_call (W := fun cls d _ H => E cls d H) (takes_of rfl rfl rfl rfl) (fun _ _ _ _ h => h)) (pa_cons (pv 1) (pa_cons (pe_f (ro_switches_in T) (hr.mono (by decide)) pass0 (pa_cons (pv 0) pa_nil)) pa_nil))))), ?_⟩
    refine ⟨_, rfl, _, rfl, La, S, rfl, hL, hS, fun H1 p ys sy e1 np hp => ?_⟩
    have cg : firstOut xs ys = firstOut xs (swOf S) := firstOut_congr fun x => sy.1.mem_iff
    exact ⟨a, p, xs, ys, rfl, e1 _ _ ha, hp, fun z e => (r z (by rw [← cg]; exact e)).along e1, fun e H2 e2 => k (by rw [← cg]; exact e) H2 (e1.trans e2)⟩
theorem sc_cost_of : FnScope ["layout", "switches", "line"] ["layout", "switches"] (defScope s_cost_of) := ⟨rfl, rfl, rfl, by decide +kernel, rfl, by decide +kernel, by decide +kernel⟩
theorem ro_cost_of (T : Rx K mg C M L) : OkF P w K mg base (L2.CX P w) 7 "cost_of" ["layout", "switches"] (spCostOf K C L) := by
  refine T.r_cost_of.okX sc_cost_of (fun _ _ _ _ _ _ us hl => match us, hl with | [_, _], _ => rfl) (fun vs H Q E h => ?_) (fun f cdv Ar outer st H vs Q E hr h => ?_)
  · obtain ⟨x, y, n, v, rfl, _⟩ := h
    rfl
  · obtain ⟨x, y, n, v, rfl, q, r, k⟩ := h
    refine ⟨_, (pss_cons (ps_expr (pe_f (ok_need T.toLx) (hr.mono (by decide)) (passes_call (W := fun cls d _ H => E cls d H) (takes_of rfl rfl rfl rfl) (fun _ _ _ _ h => h)) (pa_cons pe_int (pa_cons (pe_callB call_isi (by rfl) T.b_isinstance (by decide +kernel) (pa_cons (pv 0) (pa_cons (pe_glob (v := .ref L) (by rfl) T.gL rfl) pa_nil))) pa_nil)))) (pss_cons (ps_expr (pe_f (ok_need T.toLx) (hr.mono (by decide)) (passes_call (W := fun cls d _ H => E cls d H) (takes_of rfl rfl rfl rfl) (fun _ _ _ _ h => h)) (pa_cons pe_int (pa_cons (pe_f (ro_are_names T) (hr.mono (by decide)) pass0 (pa_cons (pv 1) pa_nil)) pa_nil)))) (pss_cons (ps_expr (pe_f (ro_refuse_no_switch T) (hr.mono (by decide)) (passes_call (W := fun cls d _ H => E cls d H) (takes_of rfl rfl rfl rfl) (fun _ _ _ _ h => h)) (pa_cons (pv 0) (pa_cons (pv 1) pa_nil)))) (pss_one (ps_ret (pe_callB (cr_sum rfl) (by rfl) T.b_sum (by decide +kernel) (pa_cons (pe_lc (own := [("line", 2)]) rfl sc_cost_of.nd (pi_list (pv 1)) (blkOk_by (N := ["layout", "switches", "line"]) (sc := (defScope s_cost_of)) (by decide +kernel)) (fun _ _ _ _ _ => (pg_name (i := 2) sc_cost_of.nd rfl (Or.inl rfl))) (fun _ _ _ _ _ => pts_nil) (fun _ _ _ _ _ => (pe_ix (ix_tupK (K := K) rfl) (pe_m (ok_line T.toLx) T.cl (hr.mono (by decide)) passL (pv 0) (pa_cons (pv 2) pa_nil)) pe_int (fun _ _ => rfl)))) pa_nil))))))), ?_⟩
    cases q with
    | @lay _ _ t ty h =>
      refine ⟨_, rfl, _, .ref L, _, _, false, rfl, .own L, ty, h, _, false, rfl, (fun w => Bool.noConfusion w), fun _ => r (by decide)⟩
    | @nam La S _ hL q =>
      obtain ⟨⟨dx, ob⟩, _⟩ := id hL
      refine ⟨_, rfl, _, .ref L, _, _, true, rfl, .own L, .base (.ins ob T.cl T.i_ha T.i_hn T.i_ht T.i_hm), kit_self, _, true, rfl, fun _ => ?_, fun w => Bool.noConfusion w⟩
      exact ⟨_, rfl, _, false, rfl, q, fun H1 e1 => ⟨_, false, rfl, (fun w => Bool.noConfusion w), fun _ => (r (by decide)).along e1⟩⟩
    | @lacks La S l xs z hL hS hl nd len g f =>
      obtain ⟨⟨dx, ob⟩, _⟩ := id hL
      refine ⟨_, rfl, _, .ref L, _, _, true, rfl, .own L, .base (.ins ob T.cl T.i_ha T.i_hn T.i_ht T.i_hm), kit_self, _, true, rfl, fun _ => ?_, fun w => Bool.noConfusion w⟩
      have q := NmsQ.txt (K := K) hl len g
      rw [decide_eq_true nd] at q
      refine ⟨_, rfl, _, true, rfl, q, fun H1 e1 => ⟨_, true, rfl, fun _ => ?_, fun w => Bool.noConfusion w⟩⟩
      refine ⟨_, rfl, _, rfl, La, S, l, xs, rfl, hL.same e1, hS, e1 _ _ hl, fun z' e => ?_, fun e => ?_⟩
      · rw [f] at e
        cases e
        exact (r (by decide)).along e1
      · rw [f] at e
        cases e
    | @told La S l xs hL hS hl nd len g f =>
      obtain ⟨⟨dx, ob⟩, _⟩ := id hL
      refine ⟨_, rfl, _, .ref L, _, _, true, rfl, .own L, .base (.ins ob T.cl T.i_ha T.i_hn T.i_ht T.i_hm), kit_self, _, true, rfl, fun _ => ?_, fun w => Bool.noConfusion w⟩
      have q := NmsQ.txt (K := K) hl len g
      rw [decide_eq_true nd] at q
      refine ⟨_, rfl, _, true, rfl, q, fun H1 e1 => ⟨_, true, rfl, fun _ => ?_, fun w => Bool.noConfusion w⟩⟩
      refine ⟨_, rfl, _, rfl, La, S, l, xs, rfl, hL.same e1, hS, e1 _ _ hl, fun z' e => ?_, fun _ H2 e2 => ?_⟩
      · rw [f] at e
        cases e
      have e12 := e1.trans e2
      refine ⟨_, rfl, l, rfl, ⟨_, SqL.of (e12 _ _ hl)⟩, fun D hD => ?_⟩
      have ins : ∀ x ∈ xs, x ∈ swOf S := fun x hx => by
        have := List.find?_eq_none.mp f x hx
        simpa using this
      refine lc_list (K := K) (a := l) (xs := xs.map V.str) (fun i H3 => Same H2 H3 ∧ H3 D = some (.lst (((xs.take i).map (costIn S)).map V.int))) ⟨Same.newp hD, upd_same⟩ (fun i H1 _ q => SqL.of (q.1 _ _ (e12 _ _ hl))) ?_ ?_
      · rintro i y H3 hi ⟨e3, h3⟩
        rw [List.getElem?_map] at hi
        obtain ⟨z, ez, rfl⟩ := Option.map_eq_some_iff.mp hi
        have mz := List.mem_of_getElem? ez
        have hk : z ∈ keys S.lines := swOf_sub (ins z mz)
        have e4 := e12.trans e3
        have li := (List.getElem?_eq_some_iff.mp ez).1
        refine ⟨rfl, _, rfl, La.p, dx, _, rfl, e4 _ _ ob, lfl_no La (by decide +kernel), _, rfl, La, .str z, true, S, rfl, hL.same e4, hS, NameQ.of (hS.lG z hk), (fun w => Bool.noConfusion w), fun z1 ez1 _ => ?_⟩
        cases ez1
        refine ⟨fun no => absurd hk (look_none.mp no), fun e el H5 v e5 told => ?_⟩
        obtain ⟨t, rfl, ht⟩ := told
        refine ⟨t, _, 2, _, rfl, rfl, SqT.of ht, rfl, _, e5 _ _ h3, ?_, fun b u w => ?_, ?_⟩
        · rw [List.length_map, List.length_map, List.length_take]
          exact small1000 (by omega)
        · rw [upd_ne (ne_of_none w hD)]
          exact e5 _ _ (e3 _ _ w)
        · have ec : costIn S z = e.2.2 := by
            unfold costIn
            rw [show look S.lines z = some e from el]
            rfl
          rw [upd_same, List.take_add_one, ez, List.map_append, List.map_append]
          show some (HO.lst (_ ++ [V.int e.2.2])) = some (HO.lst (_ ++ [V.int (costIn S z)]))
          rw [ec]
      · rintro H3 ⟨e3, h3⟩
        rw [List.length_map, List.take_length] at h3
        exact ⟨D, _, rfl, SqL.of h3, k rfl H3 (e12.trans e3)⟩
end
end SM
namespace SM
open PySem PySem.Spec PyProof.Rows L2
open Evl (tCut pss_cut)
abbrev s__law_bag : Stmt := topS 31
abbrev s__law_take : Stmt := topS 32
abbrev s__law_name : Stmt := topS 33
abbrev s__law_names : Stmt := topS 34
abbrev s__law_ends : Stmt := topS 35
abbrev s__law_cost : Stmt := topS 36
abbrev s__law_some : Stmt := topS 37
abbrev s__law_works : Stmt := topS 38
abbrev s__law_layout : Stmt := topS 39
abbrev s__law_size : Stmt := topS 41
abbrev s__law_class : Stmt := topS 43
abbrev s__law_alike : Stmt := topS 44
abbrev s__law_said : Stmt := topS 45
abbrev s__law_due : Stmt := topS 46
abbrev s__law_asked : Stmt := topS 47
abbrev s__law_odd_list : Stmt := topS 48
abbrev s__law_turned : Stmt := topS 49
abbrev s__law_wrong : Stmt := topS 50
abbrev s_law : Stmt := topS 51
/-- what the top has made of the law's text -/
structure Tx (K : PySem.W.Frag) (mg : Str → Option Value) (C : Nat → Addr) (M L : Addr) : Prop extends Rx K mg C M L where
  d_bag : DefAt K mg "_law_bag" s__law_bag
  d_take : DefAt K mg "_law_take" s__law_take
  d_name : DefAt K mg "_law_name" s__law_name
  d_names : DefAt K mg "_law_names" s__law_names
  d_ends : DefAt K mg "_law_ends" s__law_ends
  d_cost : DefAt K mg "_law_cost" s__law_cost
  d_some : DefAt K mg "_law_some" s__law_some
  d_works : DefAt K mg "_law_works" s__law_works
  d_layout : DefAt K mg "_law_layout" s__law_layout
  d_size : DefAt K mg "_law_size" s__law_size
  d_class : DefAt K mg "_law_class" s__law_class
  d_alike : DefAt K mg "_law_alike" s__law_alike
  d_said : DefAt K mg "_law_said" s__law_said
  d_due : DefAt K mg "_law_due" s__law_due
  d_asked : DefAt K mg "_law_asked" s__law_asked
  d_odd_list : DefAt K mg "_law_odd_list" s__law_odd_list
  d_turned : DefAt K mg "_law_turned" s__law_turned
  d_wrong : DefAt K mg "_law_wrong" s__law_wrong
  d_law : DefAt K mg "law" s_law
  b_abs : mg "abs" = none
  b_range : mg "range" = none
  b_repr : mg "repr" = none
  b_enumerate : mg "enumerate" = none
  b_ValueError : mg "ValueError" = none
section
variable {P : Program} {w : World} {K : PySem.W.Frag} {mg : Str → Option Value} {base : Heap} {C : Nat → Addr} {M L : Addr}
theorem sc__law_bag : FnScope ["_law_script", "_law_cell"] ["_law_script"] (defScope s__law_bag) := ⟨rfl, rfl, rfl, by decide +kernel, rfl, by decide +kernel, by decide +kernel⟩
theorem ok_bag (T : Tx K mg C M L) : OkF P w K mg base CX0 1 "_law_bag" ["_law_script"] (spBag K) := by
  refine T.d_bag.ok sc__law_bag (fun _ _ _ _ _ _ us hl => match us, hl with | [_], _ => rfl) (fun vs H Q E h => ?_) (fun f cdv A outer s H vs Q E hr h => ?_)
  · obtain ⟨a, ns, rfl, _⟩ := h
    rfl
  · obtain ⟨a, ns, rfl, hS, hl, k⟩ := h
    refine ⟨_, (pss_one (ps_ret (pe_lst (pa_cons pe_int (pa_cons pe_int (pa_cons pe_int (pa_cons (pe_lc (own := [("_law_cell", 1)]) rfl sc__law_bag.nd (pi_list (pe_slice sl_list (pv 0) po_none (po_some pe_int))) (blkOk_by (N := ["_law_script", "_law_cell"]) (sc := (defScope s__law_bag)) (by decide +kernel)) (fun _ _ _ _ _ => (pg_name (i := 1) sc__law_bag.nd rfl (Or.inl rfl))) (fun _ _ _ _ _ => pts_nil) (fun _ _ _ _ _ => (pe_callB call_abs (by rfl) T.b_abs (by decide +kernel) (pa_cons (pv 1) pa_nil)))) pa_nil))))))), ?_⟩
    have hc : cutV (ns.map V.int) none (some 63) = ns.map V.int := by
      unfold cutV
      rw [HT.sIx_none, show (63 : Int) = ((63 : Nat) : Int) from rfl, HT.sIx_nat, List.length_map]
      simp only [List.drop_zero, Nat.sub_zero]
      rw [List.take_of_length_le (by rw [List.length_map]; omega)]
    refine ⟨_, rfl, _, rfl, a, _, rfl, hS, fun c hc0 => ?_⟩
    rw [hc]
    have s0 : Same H (upd H c (.lst (ns.map V.int))) := Same.newp hc0
    refine ⟨c, rfl, ⟨_, SqL.of upd_same⟩, fun D hD => ?_⟩
    have nDc : D ≠ c := fun z => by
      rw [z, upd_same] at hD
      cases hD
    have hD0 : H D = none := by
      rw [upd_ne nDc] at hD
      exact hD
    refine lc_list (K := K) (a := c) (xs := ns.map V.int) (fun i H1 => Same H H1 ∧ H1 c = some (.lst (ns.map V.int)) ∧ H1 D = some (.lst (((ns.take i).map fun n => if n < 0 then -n else n).map V.int)))
      ⟨s0.trans (Same.newp hD), (upd_ne (Ne.symm nDc)).trans upd_same, upd_same⟩ (fun i H1 _ z => SqL.of z.2.1) ?_ ?_
    · rintro i x H1 hi ⟨z1, z2, z3⟩
      obtain ⟨n, hn, rfl⟩ : ∃ n, ns[i]? = some n ∧ x = V.int n := by
        rw [List.getElem?_map] at hi
        cases e : ns[i]? with
        | none =>
          rw [e] at hi
          cases hi
        | some n =>
          rw [e] at hi
          exact ⟨n, rfl, (Option.some.inj hi).symm⟩
      have lt : i < ns.length := (List.getElem?_eq_some_iff.mp hn).1
      refine ⟨rfl, _, rfl, n, rfl, _, z3, ?_, ?_⟩
      · rw [List.length_map, List.length_map, List.length_take]
        exact small1000 (by omega)
      · have tk : ns.take (i + 1) = ns.take i ++ [n] := by
          rw [List.take_add_one, hn]
          rfl
        refine ⟨fun b o e => ?_, ?_, ?_⟩
        · have nb : b ≠ D := fun q => by
            rw [q, hD0] at e
            cases e
          rw [upd_ne nb]
          exact z1 b o e
        · rw [upd_ne (Ne.symm nDc)]
          exact z2
        · rw [upd_same, tk, List.map_append, List.map_append]
          rfl
    · rintro H1 ⟨z1, z2, z3⟩
      rw [List.length_map, List.take_length] at z3
      refine ⟨by show 4 ≤ sizeLine; decide, fun p hp => ?_⟩
      have npD : p ≠ D := fun z => by
        rw [z, z3] at hp
        cases hp
      refine k _ p D (z1.trans (Same.newp hp)) (z1.free hp) hD0 ⟨0, 1234567891, 0, _, upd_same, (upd_ne (Ne.symm npD)).trans z3, by decide, by decide, by decide, by decide, ?_⟩
      intro n hn
      obtain ⟨m, _, rfl⟩ := List.mem_map.mp hn
      show 0 ≤ if m < 0 then -m else m
      split <;> omega
theorem sc__law_take : FnScope ["_law_bag_here", "_law_many", "_law_cell", "_law_value", "_law_first", "_law_second"] ["_law_bag_here", "_law_many"] (defScope s__law_take) := ⟨rfl, rfl, rfl, by decide +kernel, rfl, by decide +kernel, by decide +kernel⟩
theorem ok_take (T : Tx K mg C M L) : OkF P w K mg base CX0 1 "_law_take" ["_law_bag_here", "_law_many"] spTake := by
  refine T.d_take.ok sc__law_take (fun _ _ _ _ _ _ us hl => match us, hl with | [_, _], _ => rfl) (fun vs H Q E h => ?_) (fun f cdv A outer s H vs Q E hr h => ?_)
  · obtain ⟨p, q, m, rfl, _⟩ := h
    rfl
  · obtain ⟨p, q, m, rfl, B, m0, m1, k⟩ := h
    have npq := B.ne
    refine ⟨_, (pss_cut (ps_if (pt_cmpR op_eq (pe_ix ix_list (pv 0) pe_int (fun _ _ => rfl)) pe_int (nomark _)) (pss_cons (ps_set (i := 2) sc__law_take.nd rfl (Or.inl rfl) pe_int) (pss_cut (ps_if (pt_cmpR op_lt (pe_ix ix_list (pv 0) pe_int (fun _ _ => rfl)) (pe_callB call_len_seq (by rfl) T.b_len PySem.boot_len (pa_cons (pe_ix ix_list (pv 0) pe_int (fun _ _ => rfl)) pa_nil)) (nomark _)) (pss_one (ps_set (i := 2) sc__law_take.nd rfl (Or.inl rfl) (pe_ix ix_list (pe_ix ix_list (pv 0) pe_int (fun _ _ => rfl)) (pe_ix ix_list (pv 0) pe_int (fun _ _ => rfl)) (fun _ _ => rfl)))) pss_nil) (pss_cons (ps_augS (pv 0) pe_int get_list pe_int ip_add set_list) (pss_cut (ps_if (pt_cmpR op_ge (pv 2) pe_int (nomark _)) (pss_one (ps_asg (pv 2) (pg_sub (pv 0) pe_int set_list))) pss_nil) (pss_one (ps_asg (pe_op op_mod (pe_op op_add (pe_op op_add (pe_op op_mul (pe_ix ix_list (pv 0) pe_int (fun _ _ => rfl)) pe_int) (pe_op op_mod (pv 2) pe_int)) (pe_op op_mul pe_int (pe_ix ix_list (pv 0) pe_int (fun _ _ => rfl)))) pe_int) (pg_sub (pv 0) pe_int set_list))))))) pss_nil) (pss_cons (ps_if (pt_cmpR op_gt (pe_ix ix_list (pv 0) pe_int (fun _ _ => rfl)) pe_int (nomark _)) (pss_cons (ps_set (i := 3) sc__law_take.nd rfl (Or.inl rfl) (pe_op op_mod (pe_ix ix_list (pv 0) pe_int (fun _ _ => rfl)) (pv 1))) (pss_cons (ps_asg (pe_op op_fdiv (pe_ix ix_list (pv 0) pe_int (fun _ _ => rfl)) (pv 1)) (pg_sub (pv 0) pe_int set_list)) (pss_one (ps_ret (pv 3))))) pss_nil) (pss_cons (ps_set (i := 4) sc__law_take.nd rfl (Or.inl rfl) (pe_op op_mod (pe_op op_mul (pe_op op_add (pe_ix ix_list (pv 0) pe_int (fun _ _ => rfl)) pe_int) pe_int) pe_int)) (pss_cons (ps_set (i := 5) sc__law_take.nd rfl (Or.inl rfl) (pe_op op_mod (pe_op op_mul (pe_op op_mod (pe_op op_mul (pv 4) (pv 4)) pe_int) pe_int) pe_int)) (pss_cons (ps_if (pt_cmpR op_gt (pv 1) pe_int (nomark _)) (pss_one (ps_ret (pe_op op_mod (pe_op op_add (pe_op op_mul (pv 5) pe_int) (pv 4)) (pv 1)))) pss_nil) (pss_one (ps_ret (pe_op op_mod (pe_op op_fdiv (pv 5) pe_int) (pv 1))))))))), ?_⟩
    obtain ⟨a, b, c, ns, B⟩ := B
    -- the word between the filling and the drawing
    refine ⟨fun σ1 H1 => (∃ x : Option V, σ1 = [some (.ref p), some (.int m), x, none, none, none]) ∧ Bag H1 p q ∧ But p H H1, ?_, ?_⟩
    · refine ⟨_, rfl, p, _, 0, _, rfl, rfl, SqL.of B.top, rfl, rfl, _, rfl, ?_⟩
      refine ite2 (fun _ => ?_) (fun _ => ⟨⟨_, rfl⟩, ⟨a, b, c, ns, B⟩, But.refl p H⟩)
      -- cell = 0; if bag[2] < len(bag[3]): cell = bag[3][bag[2]]
      refine ⟨fun σ1 H1 => (∃ x : Int, 0 ≤ x ∧ σ1 = [some (.ref p), some (.int m), some (.int x), none, none, none]) ∧ H1 = H, ?_, ?_⟩
      · refine ⟨_, rfl, p, _, 2, _, rfl, rfl, SqL.of B.top, rfl, _, rfl, p, _, 3, _, rfl, rfl, SqL.of B.top, rfl, q, _, rfl, .inl (SqL.of B.low), _, _, rfl, rfl, _, rfl, ?_⟩
        refine ite2 (fun hc => ?_) (fun _ => ⟨⟨0, by decide, rfl⟩, rfl⟩)
        have hlt := of_decide_eq_true hc
        rw [List.length_map] at hlt
        have c0 := B.c0
        have hg : ns[c.toNat]? = some (ns[c.toNat]'(by omega)) := List.getElem?_eq_getElem (by omega)
        have hat : atI (ns.map V.int) c = some (.int (ns[c.toNat]'(by omega))) := by
          have e := atI_nat (xs := ns.map V.int) (j := c.toNat) (v := .int (ns[c.toNat]'(by omega))) (by rw [List.getElem?_map, hg]; rfl)
          rw [Int.toNat_of_nonneg c0] at e
          exact e
        refine ⟨_, rfl, p, _, 3, _, rfl, rfl, SqL.of B.top, rfl, _, rfl, p, _, 2, _, rfl, rfl, SqL.of B.top, rfl, q, _, c, _, rfl, rfl, SqL.of B.low, hat, ?_⟩
        exact ⟨⟨_, B.nn _ (List.getElem_mem _), rfl⟩, rfl⟩
      · rintro σ1 H1 ⟨⟨x, x0, rfl⟩, rfl⟩
        -- bag[2] += 1
        refine ⟨_, rfl, p, _, 2, _, rfl, rfl, SqL.of B.top, by decide, rfl, _, _, rfl, rfl, p, _, 2, 2, rfl, rfl, B.top, rfl, ?_⟩
        have B2 : BagIs (upd H1 p (.lst [.int a, .int b, .int (c + 1), .ref q])) p q a b (c + 1) ns :=
          ⟨upd_same, (upd_ne (Ne.symm npq)).trans B.low, B.a0, B.b0, B.b1, by have := B.c0; omega, B.nn⟩
        -- if cell >= 10 ** 18: bag[0] = cell
        refine ⟨fun σ2 H2 => σ2 = [some (.ref p), some (.int m), some (.int x), none, none, none] ∧ But p H1 H2 ∧ ∃ a2, BagIs H2 p q a2 b (c + 1) ns, ?_, ?_⟩
        · refine ⟨_, rfl, _, _, rfl, rfl, _, rfl, ?_⟩
          refine ite2 (fun _ => ?_) (fun _ => ⟨rfl, But.upd, a, B2⟩)
          refine ⟨_, rfl, _, rfl, p, _, 0, 0, rfl, rfl, B2.top, rfl, ?_⟩
          exact ⟨rfl, But.upd.trans But.upd, x, upd_same, (upd_ne (Ne.symm npq)).trans B2.low, x0, B2.b0, B2.b1, B2.c0, B2.nn⟩
        · rintro σ2 H2 ⟨rfl, K2, a2, B3⟩
          refine ⟨_, rfl, p, _, 1, _, rfl, rfl, SqL.of B3.top, rfl, _, _, rfl, rfl, .inr ⟨by decide, by decide⟩, _, rfl, _, _, rfl, rfl, pos31, _, _, rfl, rfl,
            _, rfl, p, _, 2, _, rfl, rfl, SqL.of B3.top, rfl, _, _, rfl, rfl, .inl ⟨by decide, by decide⟩, _, _, rfl, rfl, _, _, rfl, rfl, pos31,
            _, rfl, p, _, 1, 1, rfl, rfl, B3.top, rfl, ?_⟩
          refine ⟨⟨_, rfl⟩, ⟨a2, _, c + 1, ns, upd_same, (upd_ne (Ne.symm npq)).trans B3.low, B3.a0, ?_, ?_, B3.c0, B3.nn⟩, K2.trans But.upd⟩
          · exact Int.emod_nonneg _ (by decide)
          · exact Int.emod_lt_of_pos _ (by decide)
    · rintro σ1 H1 ⟨⟨x, rfl⟩, ⟨a1, b1, c1, ns1, B1⟩, K1⟩
      -- if bag[0] > 0
      refine ⟨_, rfl, p, _, 0, _, rfl, rfl, SqL.of B1.top, rfl, _, _, rfl, rfl, _, rfl, ?_⟩
      refine ite2 (fun ha => ?_) (fun _ => ?_)
      · refine ⟨_, rfl, p, _, 0, _, rfl, rfl, SqL.of B1.top, rfl, _, rfl, _, _, rfl, rfl, m0, _, rfl, p, _, 0, _, rfl, rfl, SqL.of B1.top, rfl, _, rfl, _, _, rfl, rfl, ⟨m0, m1⟩,
          _, rfl, p, _, 0, 0, rfl, rfl, B1.top, rfl, _, rfl, ?_⟩
        refine k _ _ (Int.emod_nonneg _ (by omega)) (Int.emod_lt_of_pos _ m0) ⟨_, b1, c1, ns1, upd_same, (upd_ne (Ne.symm npq)).trans B1.low, Int.ediv_nonneg B1.a0 (by omega), B1.b0, B1.b1, B1.c0, B1.nn⟩ (K1.trans But.upd)
      · have f1 := fst_ok B1.b0 B1.b1
        refine ⟨_, rfl, p, _, 1, _, rfl, rfl, SqL.of B1.top, rfl, _, _, rfl, rfl, _, _, rfl, rfl, .inr ⟨by decide, by decide⟩, _, _, rfl, rfl, posA, ?_⟩
        generalize (b1 + 1) * 39373 % 1000000007 = g1 at f1 ⊢
        refine ⟨_, rfl, _, rfl, _, _, rfl, rfl, .inl ⟨by omega, by omega⟩, _, _, rfl, rfl, posB, _, _, rfl, rfl, .inr ⟨by decide, by decide⟩, _, _, rfl, rfl, posB, ?_⟩
        have f2 := snd_ok (g1 * g1 % 998244353 * 30011)
        generalize g1 * g1 % 998244353 * 30011 % 998244353 = g2 at f2 ⊢
        refine ⟨_, rfl, _, _, rfl, rfl, _, rfl, ?_⟩
        refine ite2 (fun _ => ?_) (fun _ => ?_)
        · refine ⟨_, rfl, _, _, rfl, rfl, .inr ⟨by decide, by decide⟩, _, rfl, _, _, rfl, rfl, _, rfl, _, _, rfl, rfl, m0, ?_⟩
          exact k _ _ (Int.emod_nonneg _ (by omega)) (Int.emod_lt_of_pos _ m0) ⟨a1, b1, c1, ns1, B1⟩ K1
        · refine ⟨_, rfl, _, _, rfl, rfl, ⟨by decide, by decide⟩, _, rfl, _, _, rfl, rfl, m0, ?_⟩
          exact k _ _ (Int.emod_nonneg _ (by omega)) (Int.emod_lt_of_pos _ m0) ⟨a1, b1, c1, ns1, B1⟩ K1
theorem sc__law_alike : FnScope ["_law_found", "_law_due_here"] ["_law_found", "_law_due_here"] (defScope s__law_alike) := ⟨rfl, rfl, rfl, by decide +kernel, rfl, by decide +kernel, by decide +kernel⟩
theorem lo_alike (T : Tx K mg C M L) : OkQ P w K mg base CX0 1 "_law_alike" ["_law_found", "_law_due_here"] (spAlike K) := by
  refine T.d_alike.okQ sc__law_alike (fun _ _ _ _ _ _ us hl => match us, hl with | [_, _], _ => rfl) (fun vs H Q E h => ?_) (fun f cdv Ar outer st H vs Q E qa hr h => ?_)
  · obtain ⟨x, y, d, rfl, _⟩ := h
    rfl
  · obtain ⟨x, y, d, rfl, hx, hy, hf, k⟩ := h
    have hu := hu64 hr
    refine ⟨_, (pss_one (ps_ret (pe_and (pe_cmpR (op_eqD hu) (pv 0) (pv 1) (nomark _)) (pe_one (pe_cmpR op_eq (pe_callB (call_reprD qa hr) (by rfl) T.b_repr (by decide +kernel) (pa_cons (pv 0) pa_nil)) (pe_callB (call_reprD qa hr) (by rfl) T.b_repr (by decide +kernel) (pa_cons (pv 1) pa_nil)) (nomark _)))))), ?_⟩
    refine ⟨_, rfl, _, rfl, d, d, hx, hy, hf.shaped, hf.shaped, _, rfl, ?_⟩
    rw [eqv_self d hf.lay]
    refine ⟨_, rfl, x, d, rfl, hx, hf, _, rfl, y, d, rfl, hy, hf, rfl, ?_⟩
    have e : decide (V.str d.shown = V.str d.shown) = true := decide_eq_true rfl
    rw [e]
    exact k
theorem sc__law_name : FnScope ["_law_bag_here", "_law_words", "_law_way", "_law_letters", "_law_k"] ["_law_bag_here"] (defScope s__law_name) := ⟨rfl, rfl, rfl, by decide +kernel, rfl, by decide +kernel, by decide +kernel⟩
theorem lo_name (T : Tx K mg C M L) : OkF P w K mg base CX0 2 "_law_name" ["_law_bag_here"] (spNameL) := by
  refine T.d_name.ok sc__law_name (fun _ _ _ _ _ _ us hl => match us, hl with | [_], _ => rfl) (fun vs H Q E h => ?_) (fun f cdv Ar outer st H vs Q E hr h => ?_)
  · obtain ⟨p, q, rfl, _⟩ := h
    rfl
  · obtain ⟨p, q, rfl, B, k⟩ := h
    refine ⟨_, (pss_cons (ps_set (i := 1) sc__law_name.nd rfl (Or.inl rfl) (pe_lst (pa_cons pe_str (pa_cons pe_str (pa_cons pe_str (pa_cons pe_str (pa_cons pe_str (pa_cons pe_str (pa_cons pe_str (pa_cons pe_str (pa_cons pe_str (pa_cons pe_str (pa_cons pe_str (pa_cons pe_str pa_nil)))))))))))))) (pss_cons (ps_set (i := 2) sc__law_name.nd rfl (Or.inl rfl) (pe_f (ok_take T) (hr.mono (by decide)) pass0 (pa_cons (pv 0) (pa_cons pe_int pa_nil)))) (pss_cons (ps_if (pt_cmpR op_eq (pv 2) pe_int (nomark _)) (pss_one (ps_ret (pe_ix ix_list (pv 1) (pe_f (ok_take T) (hr.mono (by decide)) pass0 (pa_cons (pv 0) (pa_cons pe_int pa_nil))) (fun _ _ => rfl)))) pss_nil) (pss_cons (ps_set (i := 3) sc__law_name.nd rfl (Or.inr rfl) pe_str) (pss_one (ps_ret (pe_join pe_str (pe_lc (own := [("_law_k", 4)]) rfl sc__law_name.nd (pi_range1 rfl T.b_range (pa_cons (pe_op op_add pe_int (pe_f (ok_take T) (hr.mono (by decide)) pass0 (pa_cons (pv 0) (pa_cons (pe_ix ix_list (pe_lst (pa_cons pe_int (pa_cons pe_int (pa_cons pe_int pa_nil)))) (pe_op op_sub (pv 2) pe_int) (fun _ _ => rfl)) pa_nil)))) pa_nil)) (blkOk_by (N := ["_law_bag_here", "_law_words", "_law_way", "_law_letters", "_law_k"]) (sc := (defScope s__law_name)) (by decide +kernel)) (fun _ _ _ _ _ => (pg_name (i := 4) sc__law_name.nd rfl (Or.inl rfl))) (fun _ _ _ _ _ => pts_nil) (fun _ _ _ _ _ => (pe_ix ix_str (pv 3) (pe_f (ok_take T) (hr.mono (by decide)) pass0 (pa_cons (pv 0) (pa_cons pe_int pa_nil))) (fun _ _ => rfl))))))))))), ?_⟩
    refine ⟨(by show 12 ≤ sizeLine; decide), fun l hl => ?_⟩
    have e1 := Same.newp (o := .lst (wordsL.map V.str)) hl
    have B1 := B.same e1
    refine ⟨_, rfl, p, q, 4, rfl, B1, by decide, by decide, fun v H2 v0 v1 B2 but => ?_⟩
    have K2 : Keep [p] H H2 := (Keep.of e1).trans (Keep.bag B1 B2 but (by simp))
    have hl2 : H2 l = some (.lst (wordsL.map V.str)) := (Keep.bag (ms := [p]) B1 B2 but (by simp)).flat l _ upd_same (flat_strs wordsL)
    refine ⟨_, rfl, rfl, _, rfl, ?_⟩
    by_cases e : v = 0
    · refine if_t (decide_eq_true (by rw [e])) ?_
      refine ⟨_, rfl, _, rfl, p, q, 12, rfl, B2, by decide, by decide, fun v3 H3 w0 w1 B3 but3 => ?_⟩
      have K3 : Keep [p] H2 H3 := Keep.bag B2 B3 but3 (by simp)
      obtain ⟨y, hy, ey⟩ := atI_some (xs := wordsL.map V.str) w0 (by show v3 < 12; exact w1)
      obtain ⟨z, hz, rfl⟩ := List.mem_map.mp hy
      exact ⟨l, _, v3, _, rfl, rfl, SqL.of (K3.flat l _ hl2 (flat_strs wordsL)), ey, k z H3 (wordsL_ok z hz) B3 (K2.trans K3)⟩
    refine if_f (decide_eq_false fun z => e (by injection z)) ?_
    refine ⟨⟨_, rfl⟩, _, rfl, (by show 3 ≤ sizeLine; decide), fun l2 hl2' => ⟨_, rfl, _, _, rfl, rfl, ?_⟩⟩
    have ey : ∃ y, y ∈ [V.int 2, V.int 8, V.int 1] ∧ atI [V.int 2, V.int 8, V.int 1] (v - 1) = some y := atI_some (by omega) (by show v - 1 < 3; omega)
    obtain ⟨y, hy, ey⟩ := ey
    obtain ⟨m, rfl, m0, m8⟩ : ∃ m : Int, y = .int m ∧ 0 < m ∧ m ≤ 8 := by
      simp only [List.mem_cons, List.not_mem_nil, or_false] at hy
      rcases hy with rfl | rfl | rfl
      · exact ⟨2, rfl, by decide, by decide⟩
      · exact ⟨8, rfl, by decide, by decide⟩
      · exact ⟨1, rfl, by decide, by decide⟩
    refine ⟨l2, _, _, _, rfl, rfl, SqL.of upd_same, ey, ?_⟩
    have e3 := Same.newp (o := .lst [V.int 2, V.int 8, V.int 1]) hl2'
    have B3 := B2.same e3
    refine ⟨p, q, m, rfl, B3, m0, by omega, fun u H4 u0 u1 B4 but4 => ⟨_, _, rfl, rfl, 1 + u, rfl, by omega, by omega, fun D hD => ?_⟩⟩
    have K4 : Keep [p] H H4 := (K2.trans (Keep.of e3)).trans (Keep.bag B3 B4 but4 (by simp))
    refine lc_range (lo := 0) (n := (1 + u).toNat) (fun i H1 => Bag H1 p q ∧ Keep [p] H H1 ∧ ∃ cs : List Nat, cs.length = i ∧ (∀ c ∈ cs, okSign c = true) ∧ H1 D = some (.lst ((cs.map fun c => (⟨#[c]⟩ : Str)).map V.str)))
      ⟨B4.same (Same.newp hD), K4.trans (Keep.of (Same.newp hD)), [], rfl, (by intro c hc; cases hc), upd_same⟩ ?_ ?_
    · rintro i H1 hi ⟨B5, K5, cs, hcs, okc, h1⟩
      refine ⟨rfl, _, rfl, _, rfl, p, q, 26, rfl, B5, by decide, by decide, fun w H6 w0 w1 B6 but6 => ?_⟩
      have K6 : Keep [p] H1 H6 := Keep.bag B5 B6 but6 (by simp)
      obtain ⟨c, hc, ec⟩ := atI_some (xs := lettersL.cps.toList) w0 (by rw [lettersL_len]; exact w1)
      refine ⟨lettersL, w, c, rfl, rfl, (by show 26 ≤ sizeLine; decide), ec, _, K6.flat D _ h1 (flat_strs _), ?_, ?_⟩
      · rw [List.length_map, List.length_map]
        exact small1000 (by omega)
      · have hp : D ≠ p := fun z => by
          rw [z] at hD
          exact B4.there.1 hD
        have hq : D ≠ q := fun z => by
          rw [z] at hD
          exact B4.there.2 hD
        have hDn : H D = none := K4.has _ hD
        have K7 : Keep [p] H (upd H6 D (.lst (((cs.map fun c => (⟨#[c]⟩ : Str)).map V.str) ++ [V.str ⟨#[c]⟩]))) := by
          have K56 := K5.trans K6
          refine ⟨fun b v e n => ?_, fun b xs e => ?_, fun b C dx fs e => ?_, fun b xs e f => ?_, fun b e => ?_⟩
          · rw [upd_ne (ne_of_none e hDn)]
            exact K56.out b v e n
          · rw [upd_ne (ne_of_none e hDn)]
            exact K56.tup b xs e
          · rw [upd_ne (ne_of_none e hDn)]
            exact K56.ins b C dx fs e
          · rw [upd_ne (ne_of_none e hDn)]
            exact K56.flat b xs e f
          · by_cases z : b = D
            · rw [z]
              exact hDn
            · rw [upd_ne z] at e
              exact K56.has b e
        refine ⟨B6.keep (upd_ne hp.symm) (upd_ne hq.symm), K7, cs ++ [c], by rw [List.length_append, hcs]; rfl, fun x hx => ?_, ?_⟩
        · rcases List.mem_append.mp hx with z | z
          · exact okc x z
          · rw [List.mem_singleton.mp z]
            exact lettersL_ok c hc
        · rw [upd_same, List.map_append, List.map_append]
          rfl
    · rintro H1 ⟨B5, K5, cs, hcs, okc, h1⟩
      have hl : 1 ≤ cs.length ∧ cs.length ≤ 8 := by omega
      have sm : ∀ ds : List Nat, ((ds.map fun c => (⟨#[c]⟩ : Str)).map (·.length)).sum = ds.length := fun ds => by
        induction ds with
        | nil => rfl
        | cons d r ih =>
          simp only [List.map_cons, List.sum_cons, List.length_cons] at ih ⊢
          rw [ih]
          show 1 + r.length = _
          omega
      refine ⟨"", D, cs.map fun c => (⟨#[c]⟩ : Str), rfl, rfl, .inl (SqL.of h1), ?_, ?_⟩
      · rw [sm, List.length_map]
        show cs.length + cs.length * 0 ≤ 16777216
        omega
      · exact k _ H1 (okName_join hl.1 hl.2 okc) B5 K5
theorem sc__law_names : FnScope ["_law_bag_here", "_law_many", "_law_letters", "_law_some_here", "_law_k", "_law_letter", "_law_found", "_law_name_here"] ["_law_bag_here", "_law_many"] (defScope s__law_names) := ⟨rfl, rfl, rfl, by decide +kernel, rfl, by decide +kernel, by decide +kernel⟩
theorem lo_names (T : Tx K mg C M L) : OkF P w K mg base CX0 3 "_law_names" ["_law_bag_here", "_law_many"] (spNamesE) := by
  refine T.d_names.ok sc__law_names (fun _ _ _ _ _ _ us hl => match us, hl with | [_, _], _ => rfl) (fun vs H Q E h => ?_) (fun f cdv Ar outer st H vs Q E hr h => ?_)
  · obtain ⟨p, q, n, rfl, _⟩ := h
    rfl
  · obtain ⟨p, q, n, rfl, B, n0, n40, k⟩ := h
    refine ⟨_, (pss_cons (ps_set (i := 2) sc__law_names.nd rfl (Or.inl rfl) pe_str) (pss_cons (ps_setLc (i := 3) (own := [("_law_k", 4)]) rfl sc__law_names.nd rfl rfl (sw_true rfl rfl rfl (by decide +kernel)) (pi_range1 rfl T.b_range (pa_cons (pv 1) pa_nil)) (blkOk_by (N := ["_law_bag_here", "_law_many", "_law_letters", "_law_some_here", "_law_k", "_law_letter", "_law_found", "_law_name_here"]) (sc := (defScope s__law_names)) (by decide +kernel)) (fun _ _ _ _ _ => (pg_name (i := 4) sc__law_names.nd rfl (Or.inl rfl))) (fun _ _ _ _ _ => pts_nil) (fun _ _ _ _ _ => (pe_f (lo_name T) (hr.mono (by decide)) pass0 (pa_cons (pv 0) pa_nil)))) (pss_cons (ps_set (i := 3) sc__law_names.nd rfl (Or.inl rfl) (pe_op op_cat (pe_op op_cat (pv 3) (pe_lc (own := [("_law_letter", 5)]) rfl sc__law_names.nd (pi_str (pv 2)) (blkOk_by (N := ["_law_bag_here", "_law_many", "_law_letters", "_law_some_here", "_law_k", "_law_letter", "_law_found", "_law_name_here"]) (sc := (defScope s__law_names)) (by decide +kernel)) (fun _ _ _ _ _ => (pg_name (i := 5) sc__law_names.nd rfl (Or.inl rfl))) (fun _ _ _ _ _ => pts_nil) (fun _ _ _ _ _ => (pe_op op_add_str (pv 5) pe_str)))) (pe_lc (own := [("_law_letter", 5)]) rfl sc__law_names.nd (pi_str (pv 2)) (blkOk_by (N := ["_law_bag_here", "_law_many", "_law_letters", "_law_some_here", "_law_k", "_law_letter", "_law_found", "_law_name_here"]) (sc := (defScope s__law_names)) (by decide +kernel)) (fun _ _ _ _ _ => (pg_name (i := 5) sc__law_names.nd rfl (Or.inl rfl))) (fun _ _ _ _ _ => pts_nil) (fun _ _ _ _ _ => (pe_op op_add_str pe_str (pv 5)))))) (pss_cons (ps_set (i := 6) sc__law_names.nd rfl (Or.inl rfl) (pe_lst pa_nil)) (pss_cons (ps_for PassesOwn.never rfl (pi_list (pv 3)) (pg_name (i := 7) sc__law_names.nd rfl (Or.inl rfl)) (pss_one (ps_if (pw_and (pt_cmpR op_notIn_seq (pv 7) (pv 6) rfl) (pw_and1 (pt_cmpR op_lt (pe_callB call_len_seq (by rfl) T.b_len PySem.boot_len (pa_cons (pv 6) pa_nil)) (pv 1) (nomark _)))).pt (pss_one (ps_expr (pe_bm PySem.F.plainAttrs_list PySem.F.slot_list_append PySem.F.type_list_append mt_append (pv 6) (pa_cons (pv 7) pa_nil)))) pss_nil))) (pss_one (ps_ret (pv 6)))))))), ?_⟩
    refine ⟨_, rfl, n, rfl, by omega, by omega, fun D hD => ?_⟩
    refine lc_range (lo := 0) (n := n.toNat) (fun i H1 => Bag H1 p q ∧ Keep [p] H H1 ∧ ∃ ys : List Str, ys.length = i ∧ (∀ y ∈ ys, okName y = true) ∧ H1 D = some (.lst (ys.map V.str)))
      ⟨B.same (Same.newp hD), Keep.of (Same.newp hD), [], rfl, (by intro c hc; cases hc), upd_same⟩ ?_ ?_
    · rintro i H1 hi ⟨B1, K1, ys, hys, oky, h1⟩
      refine ⟨rfl, _, rfl, p, q, rfl, B1, fun z H2 hz B2 K2 => ?_⟩
      refine ⟨_, K2.flat D _ h1 (flat_strs _), by rw [List.length_map]; exact small1000 (by omega), ?_⟩
      have hp := B.ap hD
      refine ⟨B2.keep (upd_ne hp.1) (upd_ne hp.2), (K1.trans K2).over hD, ys ++ [z], by rw [List.length_append, hys]; rfl, fun x hx => ?_, ?_⟩
      · rcases List.mem_append.mp hx with w | w
        · exact oky x w
        · rw [List.mem_singleton.mp w]
          exact hz
      · rw [upd_same, List.map_append]
        rfl
    rintro H1 ⟨B1, K1, ys, hys, oky, h1⟩
    have lz : ∀ c : Nat, Str.length (⟨#[c]⟩ : Str) + Str.length ("x" : Str) ≤ sizeLine := fun c => by show 1 + 1 ≤ sizeLine; decide
    have lz2 : ∀ c : Nat, Str.length ("y" : Str) + Str.length (⟨#[c]⟩ : Str) ≤ sizeLine := fun c => by show 1 + 1 ≤ sizeLine; decide
    refine ⟨_, rfl, _, rfl, lettersL, rfl, fun D2 hD2 => ?_⟩
    refine lc_it walk_str (fun i G => Same H1 G ∧ G D2 = some (.lst ((withX.take i).map V.str))) ⟨Same.newp hD2, upd_same⟩ (fun _ _ _ _ => True.intro) ?_ ?_
    · rintro i x G G1 hi ⟨s1, g1⟩ ⟨rfl, c, hc, rfl⟩
      refine ⟨rfl, _, rfl, _, _, rfl, rfl, lz c, _, g1, ?_, fun a u e => ?_, ?_⟩
      · rw [List.length_map, List.length_take]
        exact small1000 (by have : withX.length = 26 := by decide +kernel
                            omega)
      · rw [upd_ne (ne_of_none e hD2)]
        exact s1 a u e
      · have hc' : lettersL.cps.toList[i]? = some c := by rw [Array.getElem?_toList]; exact hc
        rw [upd_same, ← withX_take, ← withX_take, List.take_add_one, hc', List.map_append, List.map_append]
        rfl
    rintro G ⟨s1, g1⟩
    rw [show withX.take lettersL.cps.size = withX by decide +kernel] at g1
    refine ⟨D, D2, _, _, rfl, rfl, s1 _ _ h1, g1, ?_, fun D3 hD3 => ?_⟩
    · rw [List.length_map, List.length_map]
      exact Nat.le_of_lt (small1000 (by have : withX.length = 26 := by decide +kernel
                                        omega))
    have s2 := s1.trans (Same.newp (o := .lst (ys.map V.str ++ withX.map V.str)) hD3)
    have g3 : upd G D3 (.lst (ys.map V.str ++ withX.map V.str)) D3 = some (.lst (ys.map V.str ++ withX.map V.str)) := upd_same
    generalize upd G D3 (.lst (ys.map V.str ++ withX.map V.str)) = G3 at s2 g3 ⊢
    clear g1 s1
    refine ⟨_, rfl, lettersL, rfl, fun D4 hD4 => ?_⟩
    refine lc_it walk_str (fun i G => Same G3 G ∧ G D4 = some (.lst ((withY.take i).map V.str))) ⟨Same.newp hD4, upd_same⟩ (fun _ _ _ _ => True.intro) ?_ ?_
    · rintro i x G G1 hi ⟨s1, g1⟩ ⟨rfl, c, hc, rfl⟩
      refine ⟨rfl, _, rfl, _, _, rfl, rfl, lz2 c, _, g1, ?_, fun a u e => ?_, ?_⟩
      · rw [List.length_map, List.length_take]
        exact small1000 (by have : withY.length = 26 := by decide +kernel
                            omega)
      · rw [upd_ne (ne_of_none e hD4)]
        exact s1 a u e
      · have hc' : lettersL.cps.toList[i]? = some c := by rw [Array.getElem?_toList]; exact hc
        rw [upd_same, ← withY_take, ← withY_take, List.take_add_one, hc', List.map_append, List.map_append]
        rfl
    rintro G4 ⟨s4, g4⟩
    rw [show withY.take lettersL.cps.size = withY by decide +kernel] at g4
    refine ⟨D3, D4, _, _, rfl, rfl, s4 _ _ g3, g4, ?_, fun D5 hD5 => ?_⟩
    · rw [List.length_append, List.length_map, List.length_map, List.length_map]
      exact Nat.le_of_lt (small1000 (by have : withX.length = 26 := by decide +kernel
                                        have : withY.length = 26 := by decide +kernel
                                        omega))
    rw [← List.map_append, ← List.map_append]
    have s5 := (s2.trans s4).trans (Same.newp (o := .lst ((ys ++ withX ++ withY).map V.str)) hD5)
    have g5 : upd G4 D5 (.lst ((ys ++ withX ++ withY).map V.str)) D5 = some (.lst ((ys ++ withX ++ withY).map V.str)) := upd_same
    generalize upd G4 D5 (.lst ((ys ++ withX ++ withY).map V.str)) = G5 at s5 g5 ⊢
    have okp : ∀ z ∈ ys ++ withX ++ withY, okName z = true := fun z m => by
      rw [List.append_assoc] at m
      exact (List.mem_append.mp m).elim (oky z) (withXY_ok z)
    have sub : ∀ z ∈ withX ++ withY.take 23, z ∈ ys ++ withX ++ withY := fun z m => by
      rw [List.append_assoc]
      refine List.mem_append_right _ ?_
      rcases List.mem_append.mp m with m | m
      · exact List.mem_append_left _ m
      · exact List.mem_append_right _ (List.mem_of_mem_take m)
    have pl : (ys ++ withX ++ withY).length ≤ 100 := by
      rw [List.length_append, List.length_append]
      have : withX.length = 26 := by decide +kernel
      have : withY.length = 26 := by decide +kernel
      omega
    generalize ys ++ withX ++ withY = pool at g5 okp sub pl s5
    have B5 := B1.same s5
    have K5 := K1.trans (Keep.of (ms := [p]) s5)
    clear B1 K1 h1 g3 g4 s2 s4 s5
    refine ⟨(by show 0 ≤ sizeLine; decide), fun F hF => ?_⟩
    have FN : H F = none := K5.has _ hF
    have fp := B.ap FN
    have FD : F ≠ D5 := fun w => by rw [w, g5] at hF; cases hF
    refine ⟨_, rfl, D5, rfl, ⟨_, SqL.of ((upd_ne FD.symm).trans g5)⟩, ?_⟩
    refine for_list (K := K) (a := D5) (xs := pool.map V.str) (fun i σ G => (∃ x1 x2 x3 x4 : Option V, σ = [some (.ref p), some (.int n), x1, x2, x3, x4, some (.ref F), none] ∨ ∃ x5, σ = [some (.ref p), some (.int n), x1, x2, x3, x4, some (.ref F), x5]) ∧ Bag G p q ∧ Keep [p] H G ∧ G D5 = some (.lst (pool.map V.str)) ∧
        ∃ fs : List Str, G F = some (.lst (fs.map V.str)) ∧ fs.Nodup ∧ fs.length ≤ n.toNat ∧ (∀ x ∈ fs, x ∈ pool) ∧ (fs.length < n.toNat → ∀ x ∈ pool.take i, x ∈ fs))
      ⟨⟨_, _, _, _, .inl rfl⟩, B5.keep (upd_ne fp.1) (upd_ne fp.2), K5.over FN, (upd_ne FD.symm).trans g5, [], upd_same, List.nodup_nil, Nat.zero_le _, (by intro x h; cases h), fun _ x h => (by cases h)⟩ (fun i σ G _ z => SqL.of z.2.2.2.1) ?_ ?_
    · rintro i y σ G hi ⟨⟨x1, x2, x3, x4, hσ⟩, BG, KG, hd5, fs, hf, nd, lf, sb, al⟩
      rw [List.getElem?_map] at hi
      obtain ⟨z, ez, rfl⟩ := Option.map_eq_some_iff.mp hi
      have tk : pool.take (i + 1) = pool.take i ++ [z] := by
        rw [List.take_add_one, ez]
        rfl
      obtain ⟨x5, rfl⟩ : ∃ x5, σ = [some (.ref p), some (.int n), x1, x2, x3, x4, some (.ref F), x5] := hσ.elim (fun e => ⟨_, e⟩) id
      refine ⟨_, rfl, _, rfl, F, _, rfl, .inl (SqL.of hf), rfl, flat_strs _, _, rfl, ?_⟩
      by_cases mz : z ∈ fs
      · refine if_f (by show (!inV (.str z) (fs.map V.str)) = false; rw [inV_strs, decide_eq_true mz]; rfl) ⟨⟨_, _, _, _, .inr ⟨_, rfl⟩⟩, BG, KG, hd5, fs, hf, nd, lf, sb, fun l x hx => ?_⟩
        rw [tk] at hx
        rcases List.mem_append.mp hx with w | w
        · exact al l x w
        · rw [List.mem_singleton.mp w]
          exact mz
      refine if_t (by show (!inV (.str z) (fs.map V.str)) = true; rw [inV_strs, decide_eq_false mz]; rfl) ?_
      refine ⟨_, rfl, F, _, rfl, .inl (SqL.of hf), _, rfl, _, _, rfl, rfl, _, rfl, ?_⟩
      rw [List.length_map]
      by_cases ll : (fs.length : Int) < n
      · refine if_t (decide_eq_true ll) ⟨_, rfl, .inl ⟨rfl, _, SqL.of hf⟩, _, rfl, F, _, _, rfl, rfl, hf, ?_, ⟨_, _, _, _, .inr ⟨_, rfl⟩⟩, BG.keep (upd_ne fp.1) (upd_ne fp.2), KG.over FN, (upd_ne FD.symm).trans hd5, fs ++ [z], ?_, ?_, ?_, ?_, ?_⟩
        · rw [List.length_map]
          exact small1000 (by omega)
        · rw [upd_same, List.map_append]
          rfl
        · exact List.nodup_append.mpr ⟨nd, by simp, fun a ha b hb e => mz (by rw [← List.mem_singleton.mp hb, ← e]; exact ha)⟩
        · rw [List.length_append, List.length_singleton]
          omega
        · intro x hx
          rcases List.mem_append.mp hx with w | w
          · exact sb x w
          · rw [List.mem_singleton.mp w]
            exact List.mem_of_getElem? ez
        · intro l x hx
          rw [tk] at hx
          rcases List.mem_append.mp hx with w | w
          · exact List.mem_append_left _ (al (by omega) x w)
          · exact List.mem_append_right _ w
      · exact if_f (decide_eq_false ll) ⟨⟨_, _, _, _, .inr ⟨_, rfl⟩⟩, BG, KG, hd5, fs, hf, nd, lf, sb, fun l => by omega⟩
    · rintro σ G ⟨⟨x1, x2, x3, x4, hσ⟩, BG, KG, hd5, fs, hf, nd, lf, sb, al⟩
      obtain ⟨x5, rfl⟩ : ∃ x5, σ = [some (.ref p), some (.int n), x1, x2, x3, x4, some (.ref F), x5] := hσ.elim (fun e => ⟨_, e⟩) id
      rw [List.length_map, List.take_length] at al
      refine ⟨_, rfl, k F fs G hf nd ?_ (fun y m => okp y (sb y m)) BG KG FN⟩
      refine Nat.le_antisymm lf (Nat.le_of_not_lt fun l => ?_)
      have := nodup_len base49 fun z m => al l z (sub z m)
      rw [base49_len] at this
      omega
theorem sc__law_ends : FnScope ["_law_bag_here", "_law_many", "_law_shape", "_law_k", "_law_half", "_law_heap"] ["_law_bag_here", "_law_many", "_law_shape", "_law_k"] (defScope s__law_ends) := ⟨rfl, rfl, rfl, by decide +kernel, rfl, by decide +kernel, by decide +kernel⟩
theorem lo_ends (T : Tx K mg C M L) : OkF P w K mg base CX0 2 "_law_ends" ["_law_bag_here", "_law_many", "_law_shape", "_law_k"] (spEndsM) := by
  refine T.d_ends.ok sc__law_ends (fun _ _ _ _ _ _ us hl => match us, hl with | [_, _, _, _], _ => rfl) (fun vs H Q E h => ?_) (fun f cdv Ar outer st H vs Q E hr h => ?_)
  · obtain ⟨p, q, w, n, i, rfl, _⟩ := h
    rfl
  · obtain ⟨p, q, w, n, i, rfl, B, n1, n2, i0, i1, k⟩ := h
    refine ⟨_, (pss_cons (ps_set (i := 4) sc__law_ends.nd rfl (Or.inl rfl) (pe_op op_fdiv (pe_op op_add (pv 1) pe_int) pe_int)) (pss_cons (ps_if (pt_cmpR op_eq (pv 2) pe_int (nomark _)) (pss_one (ps_ret (pe_tup (pa_cons (pe_f (ok_take T) (hr.mono (by decide)) pass0 (pa_cons (pv 0) (pa_cons (pv 1) pa_nil))) (pa_cons (pe_f (ok_take T) (hr.mono (by decide)) pass0 (pa_cons (pv 0) (pa_cons (pv 1) pa_nil))) pa_nil))))) pss_nil) (pss_cons (ps_if (pt_cmpR op_eq (pv 2) pe_int (nomark _)) (pss_one (ps_ret (pe_tup (pa_cons (pe_op op_mod (pv 3) (pv 1)) (pa_cons (pe_op op_mod (pe_op op_add (pe_op op_add (pv 3) pe_int) (pe_op op_mul (pe_f (ok_take T) (hr.mono (by decide)) pass0 (pa_cons (pv 0) (pa_cons pe_int pa_nil))) (pe_f (ok_take T) (hr.mono (by decide)) pass0 (pa_cons (pv 0) (pa_cons (pv 1) pa_nil))))) (pv 1)) pa_nil))))) pss_nil) (pss_cons (ps_if (pt_cmpR op_eq (pv 2) pe_int (nomark _)) (pss_one (ps_ret (pe_tup (pa_cons (pe_op op_mod (pv 3) (pv 1)) (pa_cons (pe_f (ok_take T) (hr.mono (by decide)) pass0 (pa_cons (pv 0) (pa_cons (pe_op op_add pe_int (pe_op op_mod (pv 3) (pv 1))) pa_nil))) pa_nil))))) pss_nil) (pss_cons (ps_if (pt_cmpR op_eq (pe_f (ok_take T) (hr.mono (by decide)) pass0 (pa_cons (pv 0) (pa_cons pe_int pa_nil))) pe_int (nomark _)) (pss_one (ps_ret (pe_tup (pa_cons (pe_f (ok_take T) (hr.mono (by decide)) pass0 (pa_cons (pv 0) (pa_cons (pv 4) pa_nil))) (pa_cons (pe_op op_mod (pe_op op_add (pv 4) (pe_f (ok_take T) (hr.mono (by decide)) pass0 (pa_cons (pv 0) (pa_cons (pv 1) pa_nil)))) (pv 1)) pa_nil))))) pss_nil) (pss_cons (ps_set (i := 5) sc__law_ends.nd rfl (Or.inl rfl) (pe_op op_mul (pe_f (ok_take T) (hr.mono (by decide)) pass0 (pa_cons (pv 0) (pa_cons pe_int pa_nil))) (pv 4))) (pss_one (ps_ret (pe_tup (pa_cons (pe_op op_mod (pe_op op_add (pv 5) (pe_f (ok_take T) (hr.mono (by decide)) pass0 (pa_cons (pv 0) (pa_cons (pv 4) pa_nil)))) (pv 1)) (pa_cons (pe_op op_mod (pe_op op_add (pv 5) (pe_f (ok_take T) (hr.mono (by decide)) pass0 (pa_cons (pv 0) (pa_cons (pv 4) pa_nil)))) (pv 1)) pa_nil))))))))))), ?_⟩
    have ml : ∀ x : Int, 0 ≤ x % n ∧ x % n < n := fun x => ⟨Int.emod_nonneg _ (by omega), Int.emod_lt_of_pos _ n1⟩
    refine ⟨_, rfl, _, _, rfl, rfl, _, _, rfl, rfl, ⟨by decide, by decide⟩, ?_⟩
    obtain ⟨h, eh, h1, h2⟩ : ∃ h : Int, (n + 1) / 2 = h ∧ 1 ≤ h ∧ h ≤ n := ⟨_, rfl, by omega, by omega⟩
    dsimp only
    rw [eh]
    refine ⟨_, rfl, rfl, _, rfl, ite2 (fun _ => ?_) fun _ => ?_⟩
    · refine ⟨_, rfl, _, rfl, p, q, n, rfl, B, n1, by omega, fun a H2 a0 a1 B2 b2 => ⟨_, rfl, _, rfl, p, q, n, rfl, B2, n1, by omega, fun b H3 c0 c1 B3 b3 => ⟨(by show 2 ≤ sizeLine; decide), fun t ht => ?_⟩⟩⟩
      exact k t _ _ _ upd_same a0 a1 c0 c1 (B3.same (Same.newp ht)) (((Keep.bag B B2 b2 (by simp)).trans (Keep.bag B2 B3 b3 (by simp))).trans (Keep.of (Same.newp ht)))
    refine ⟨_, rfl, rfl, _, rfl, ite2 (fun _ => ?_) fun _ => ?_⟩
    · refine ⟨_, rfl, _, rfl, _, _, rfl, rfl, n1, _, rfl, _, _, rfl, rfl, _, rfl, p, q, 2, rfl, B, by decide, by decide, fun u H2 u0 u1 B2 b2 => ⟨_, rfl, _, rfl, p, q, n, rfl, B2, n1, by omega, fun v H3 v0 v1 B3 b3 => ?_⟩⟩
      refine ⟨_, _, rfl, rfl, .inl ⟨by omega, by omega⟩, _, _, rfl, rfl, _, rfl, _, _, rfl, rfl, n1, (by show 2 ≤ sizeLine; decide), fun t ht => ?_⟩
      exact k t _ _ _ upd_same (ml _).1 (ml _).2 (ml _).1 (ml _).2 (B3.same (Same.newp ht)) (((Keep.bag B B2 b2 (by simp)).trans (Keep.bag B2 B3 b3 (by simp))).trans (Keep.of (Same.newp ht)))
    refine ⟨_, rfl, rfl, _, rfl, ite2 (fun _ => ?_) fun _ => ?_⟩
    · refine ⟨_, rfl, _, rfl, _, _, rfl, rfl, n1, _, rfl, _, rfl, _, rfl, _, _, rfl, rfl, n1, _, _, rfl, rfl, p, q, 1 + i % n, rfl, B, ?_, ?_, fun v H3 v0 v1 B3 b3 => ⟨(by show 2 ≤ sizeLine; decide), fun t ht => ?_⟩⟩
      · have := ml i
        omega
      · have := ml i
        omega
      have := ml i
      exact k t _ _ _ upd_same (ml _).1 (ml _).2 v0 (by omega) (B3.same (Same.newp ht)) ((Keep.bag B B3 b3 (by simp)).trans (Keep.of (Same.newp ht)))
    refine ⟨_, rfl, p, q, 5, rfl, B, by decide, by decide, fun x H1 x0 x1 B1 b1 => ?_⟩
    have K1 : Keep [p] H H1 := Keep.bag B B1 b1 (by simp)
    refine ⟨rfl, _, rfl, ite2 (fun _ => ?_) fun _ => ?_⟩
    · refine ⟨_, rfl, _, rfl, p, q, h, rfl, B1, by omega, by omega, fun a H2 a0 a1 B2 b2 => ⟨_, rfl, _, rfl, _, rfl, p, q, n, rfl, B2, n1, by omega, fun b H3 c0 c1 B3 b3 => ⟨_, _, rfl, rfl, _, rfl, _, _, rfl, rfl, n1, (by show 2 ≤ sizeLine; decide), fun t ht => ?_⟩⟩⟩
      exact k t _ _ _ upd_same a0 (by omega) (ml _).1 (ml _).2 (B3.same (Same.newp ht)) ((K1.trans ((Keep.bag B1 B2 b2 (by simp)).trans (Keep.bag B2 B3 b3 (by simp)))).trans (Keep.of (Same.newp ht)))
    refine ⟨_, rfl, p, q, 2, rfl, B1, by decide, by decide, fun u H2 u0 u1 B2 b2 => ⟨_, rfl, _, _, rfl, rfl, .inl ⟨by omega, by omega⟩, ?_⟩⟩
    have K2 := K1.trans (Keep.bag (ms := [p]) B1 B2 b2 (by simp))
    refine ⟨_, rfl, _, rfl, _, rfl, p, q, h, rfl, B2, by omega, by omega, fun a H3 a0 a1 B3 b3 => ⟨_, _, rfl, rfl, _, rfl, _, _, rfl, rfl, n1, ?_⟩⟩
    refine ⟨_, rfl, _, rfl, _, rfl, p, q, h, rfl, B3, by omega, by omega, fun b H4 c0 c1 B4 b4 => ⟨_, _, rfl, rfl, _, rfl, _, _, rfl, rfl, n1, (by show 2 ≤ sizeLine; decide), fun t ht => ?_⟩⟩
    exact k t _ _ _ upd_same (ml _).1 (ml _).2 (ml _).1 (ml _).2 (B4.same (Same.newp ht)) ((K2.trans ((Keep.bag B2 B3 b3 (by simp)).trans (Keep.bag B3 B4 b4 (by simp)))).trans (Keep.of (Same.newp ht)))
theorem sc__law_cost : FnScope ["_law_bag_here", "_law_costs", "_law_way"] ["_law_bag_here", "_law_costs"] (defScope s__law_cost) := ⟨rfl, rfl, rfl, by decide +kernel, rfl, by decide +kernel, by decide +kernel⟩
theorem lo_cost (T : Tx K mg C M L) : OkF P w K mg base CX0 2 "_law_cost" ["_law_bag_here", "_law_costs"] (spCostM) := by
  refine T.d_cost.ok sc__law_cost (fun _ _ _ _ _ _ us hl => match us, hl with | [_, _], _ => rfl) (fun vs H Q E h => ?_) (fun f cdv Ar outer st H vs Q E hr h => ?_)
  · obtain ⟨p, q, c, rfl, _⟩ := h
    rfl
  · obtain ⟨p, q, c, rfl, B, k⟩ := h
    refine ⟨_, (pss_cons (ps_set (i := 2) sc__law_cost.nd rfl (Or.inl rfl) (pe_f (ok_take T) (hr.mono (by decide)) pass0 (pa_cons (pv 0) (pa_cons pe_int pa_nil)))) (pss_cons (ps_if (pt_cmpR op_eq (pv 2) pe_int (nomark _)) (pss_one (ps_ret pe_int)) pss_nil) (pss_cons (ps_if (pw_or (pt_cmpR op_eq (pv 1) pe_int (nomark _)) (pw_or1 (pt_cmpR op_eq (pv 2) pe_int (nomark _)))).pt (pss_one (ps_ret pe_int)) pss_nil) (pss_cons (ps_if (pw_or (pt_cmpR op_eq (pv 1) pe_int (nomark _)) (pw_or1 (pt_cmpR op_eq (pv 2) pe_int (nomark _)))).pt (pss_one (ps_ret (pe_op op_add pe_int (pe_f (ok_take T) (hr.mono (by decide)) pass0 (pa_cons (pv 0) (pa_cons pe_int pa_nil)))))) pss_nil) (pss_one (ps_ret (pe_op op_add pe_int (pe_f (ok_take T) (hr.mono (by decide)) pass0 (pa_cons (pv 0) (pa_cons pe_int pa_nil)))))))))), ?_⟩
    refine ⟨_, rfl, p, q, 6, rfl, B, by decide, by decide, fun v H1 v0 v1 B1 b1 => ?_⟩
    have K1 : Keep [p] H H1 := Keep.bag B B1 b1 (by simp)
    refine ⟨_, rfl, rfl, _, rfl, ite2 (fun _ => k 0 H1 (okc (by decide) (by decide)) B1 K1) fun _ => ?_⟩
    have one : ∀ {Z : Prop}, Z → (c : Bool) → Z := fun z _ => z
    have r1 := k 1 H1 (okc (by decide) (by decide)) B1 K1
    have fin : ∀ m : Int, 1 ≤ m → m ≤ 99 → ∀ (v : Int) (H2 : Hp), 0 ≤ v → v < m → Bag H2 p q → But p H1 H2 → Q (.int (1 + v)) H2 := fun m m1 m9 v H2 v0 v1 B2 b2 => k _ H2 (okc (by omega) (by omega)) B2 (K1.trans (Keep.bag B1 B2 b2 (by simp)))
    refine ⟨_, rfl, rfl, _, rfl, ite2 (fun _ => r1) fun _ => ⟨_, rfl, rfl, _, rfl, ite2 (fun _ => r1) fun _ => ?_⟩⟩
    refine ⟨_, rfl, rfl, _, rfl, ite2 (fun _ => ?_) fun _ => ⟨_, rfl, rfl, _, rfl, ite2 (fun _ => ?_) fun _ => ?_⟩⟩
    · exact ⟨_, rfl, p, q, 3, rfl, B1, by decide, by decide, fun v H2 v0 v1 B2 b2 => ⟨_, _, rfl, rfl, fin 3 (by decide) (by decide) v H2 v0 v1 B2 b2⟩⟩
    · exact ⟨_, rfl, p, q, 3, rfl, B1, by decide, by decide, fun v H2 v0 v1 B2 b2 => ⟨_, _, rfl, rfl, fin 3 (by decide) (by decide) v H2 v0 v1 B2 b2⟩⟩
    · exact ⟨_, rfl, p, q, 99, rfl, B1, by decide, by decide, fun v H2 v0 v1 B2 b2 => ⟨_, _, rfl, rfl, fin 99 (by decide) (by decide) v H2 v0 v1 B2 b2⟩⟩
theorem sc__law_some : FnScope ["_law_bag_here", "_law_names_here", "_law_many", "_law_found", "_law_k", "_law_name_here"] ["_law_bag_here", "_law_names_here", "_law_many"] (defScope s__law_some) := ⟨rfl, rfl, rfl, by decide +kernel, rfl, by decide +kernel, by decide +kernel⟩
theorem lo_some (T : Tx K mg C M L) : OkF P w K mg base CX0 2 "_law_some" ["_law_bag_here", "_law_names_here", "_law_many"] (spSomeM) := by
  refine T.d_some.ok sc__law_some (fun _ _ _ _ _ _ us hl => match us, hl with | [_, _, _], _ => rfl) (fun vs H Q E h => ?_) (fun f cdv Ar outer st H vs Q E hr h => ?_)
  · obtain ⟨p, q, a, xs, n, rfl, _⟩ := h
    rfl
  · obtain ⟨p, q, a, xs, n, rfl, B, ha, oky, xl, n0, n100, k⟩ := h
    have hu := hu_of hr
    have hu6 := hu64 hr
    refine ⟨_, (pss_cons (ps_set (i := 3) sc__law_some.nd rfl (Or.inl rfl) (pe_lst pa_nil)) (pss_cons (ps_for PassesOwn.never rfl (pi_range1 rfl T.b_range (pa_cons (pe_op op_mul (pv 2) (pe_callTy call_int1 (by rfl) T.b_int (by decide +kernel) (pa_cons (pe_cmpR (op_neD hu6) (pv 1) (pe_lst pa_nil) (nomark _)) pa_nil))) pa_nil)) (pg_name (i := 4) sc__law_some.nd rfl (Or.inl rfl)) (pss_cons (ps_set (i := 5) sc__law_some.nd rfl (Or.inl rfl) (pe_ix ix_list (pv 1) (pe_f (ok_take T) (hr.mono (by decide)) pass0 (pa_cons (pv 0) (pa_cons (pe_callB call_len_seq (by rfl) T.b_len PySem.boot_len (pa_cons (pv 1) pa_nil)) pa_nil))) (fun _ _ => rfl))) (pss_one (ps_if (pt_cmpR op_notIn_seq (pv 5) (pv 3) rfl) (pss_one (ps_expr (pe_bm PySem.F.plainAttrs_list PySem.F.slot_list_append PySem.F.type_list_append mt_append (pv 3) (pa_cons (pv 5) pa_nil)))) pss_nil)))) (pss_one (ps_ret (pv 3))))), ?_⟩
    refine ⟨(by show 0 ≤ sizeLine; decide), fun F hF => ?_⟩
    have fp := B.ap hF
    have Fa : a ≠ F := ne_of_none ha hF
    have s1 : Same H (upd H F (.lst [])) := Same.newp hF
    refine ⟨_, rfl, _, rfl, (by show 0 ≤ sizeLine; decide), fun E1 hE1 => ?_⟩
    have s2 := s1.trans (Same.newp (o := .lst []) hE1)
    have fF : upd (upd H F (.lst [])) E1 (.lst []) F = some (.lst []) := (upd_ne (ne_of_none upd_same hE1)).trans upd_same
    refine ⟨_, _, names_dp (s2 _ _ ha), .lst (SqL.of upd_same) .nil, (names_fine oky (by omega)).shaped, fine_nil.shaped, .inr ⟨_, rfl, _, _, rfl, rfl, .inl ⟨by omega, by omega⟩, ?_⟩⟩
    rw [eqv_nil]
    generalize upd (upd H F (.lst [])) E1 (.lst []) = G0 at s2 fF ⊢
    obtain ⟨N, eN, N0, N1, Nx⟩ : ∃ N : Int, (n * (if (!decide (xs = [])) = true then 1 else 0) = N) ∧ 0 ≤ N ∧ N ≤ 100 ∧ (0 < N → xs ≠ []) := by
      by_cases e : xs = []
      · exact ⟨0, by rw [decide_eq_true e]; simp, by decide, by decide, fun h => absurd h (by decide)⟩
      · exact ⟨n, by rw [decide_eq_false e]; simp, n0, n100, fun _ => e⟩
    refine ⟨N, congrArg (fun v : Int => [V.int v]) eN, by omega, by omega, ?_⟩
    refine for_range (lo := 0) (n := N.toNat) (fun i σ G => (∃ x1 x2 : Option V, σ = [some (.ref p), some (.ref a), some (.int n), some (.ref F), x1, x2]) ∧ Bag G p q ∧ Keep [p] H G ∧ G a = some (.lst (xs.map V.str)) ∧ ∃ fs : List Str, G F = some (.lst (fs.map V.str)) ∧ fs.Nodup ∧ (∀ x ∈ fs, x ∈ xs))
      ⟨⟨_, _, rfl⟩, B.same s2, Keep.of s2, s2 _ _ ha, [], fF, List.nodup_nil, by intro x h; cases h⟩ ?_ ?_
    · rintro i σ G hi ⟨⟨x1, x2, rfl⟩, BG, KG, hG, fs, hf, nd, sb⟩
      have xp : 0 < xs.length := List.length_pos_iff.mpr (Nx (by omega))
      refine ⟨_, rfl, _, rfl, _, rfl, a, _, rfl, .inl (SqL.of hG), p, q, _, rfl, BG, by rw [List.length_map]; omega, by rw [List.length_map]; omega, fun u G1 u0 u1 B1 b1 => ?_⟩
      rw [List.length_map] at u1
      obtain ⟨z, ez, az⟩ := atI_strs u0 u1
      have k1 : Keep [p] G G1 := Keep.bag BG B1 b1 (by simp)
      have hG1 := k1.flat _ _ hG (flat_strs _)
      have hf1 := k1.flat _ _ hf (flat_strs _)
      refine ⟨a, _, u, _, rfl, rfl, SqL.of hG1, az, ?_⟩
      refine ⟨_, rfl, _, rfl, F, _, rfl, .inl (SqL.of hf1), rfl, flat_strs _, _, rfl, ?_⟩
      by_cases mz : z ∈ fs
      · exact if_f (by show (!inV (.str z) (fs.map V.str)) = false; rw [inV_strs, decide_eq_true mz]; rfl) ⟨⟨_, _, rfl⟩, B1, KG.trans k1, hG1, fs, hf1, nd, sb⟩
      have lf := nodup_len nd sb
      refine if_t (by show (!inV (.str z) (fs.map V.str)) = true; rw [inV_strs, decide_eq_false mz]; rfl) ?_
      refine ⟨_, rfl, .inl ⟨rfl, _, SqL.of hf1⟩, _, rfl, F, _, _, rfl, rfl, hf1, ?_, ⟨_, _, rfl⟩, B1.keep (upd_ne fp.1) (upd_ne fp.2), (KG.trans k1).over hF, (upd_ne Fa).trans hG1, fs ++ [z], ?_, ?_, ?_⟩
      · rw [List.length_map]
        exact small1000 (by omega)
      · rw [upd_same, List.map_append]
        rfl
      · exact List.nodup_append.mpr ⟨nd, by simp, fun a ha b hb e => mz (by rw [← List.mem_singleton.mp hb, ← e]; exact ha)⟩
      · intro x hx
        rcases List.mem_append.mp hx with w | w
        · exact sb x w
        · rw [List.mem_singleton.mp w]
          exact List.mem_of_getElem? ez
    · rintro σ G ⟨⟨x1, x2, rfl⟩, BG, KG, hG, fs, hf, nd, sb⟩
      exact ⟨_, rfl, k F fs G hf nd sb BG KG hF⟩
theorem sc__law_size : FnScope ["_law_bag_here", "_law_way"] ["_law_bag_here"] (defScope s__law_size) := ⟨rfl, rfl, rfl, by decide +kernel, rfl, by decide +kernel, by decide +kernel⟩
theorem lo_size (T : Tx K mg C M L) : OkF P w K mg base CX0 2 "_law_size" ["_law_bag_here"] (spSizeM) := by
  refine T.d_size.ok sc__law_size (fun _ _ _ _ _ _ us hl => match us, hl with | [_], _ => rfl) (fun vs H Q E h => ?_) (fun f cdv Ar outer st H vs Q E hr h => ?_)
  · obtain ⟨p, q, rfl, _⟩ := h
    rfl
  · obtain ⟨p, q, rfl, B, k⟩ := h
    refine ⟨_, (pss_cons (ps_set (i := 1) sc__law_size.nd rfl (Or.inl rfl) (pe_f (ok_take T) (hr.mono (by decide)) pass0 (pa_cons (pv 0) (pa_cons pe_int pa_nil)))) (pss_cons (ps_if (pt_cmpR op_eq (pv 1) pe_int (nomark _)) (pss_one (ps_ret (pe_tup (pa_cons pe_int (pa_cons pe_int pa_nil))))) pss_nil) (pss_cons (ps_if (pt_cmpR op_eq (pv 1) pe_int (nomark _)) (pss_one (ps_ret (pe_tup (pa_cons (pe_op op_add pe_int (pe_f (ok_take T) (hr.mono (by decide)) pass0 (pa_cons (pv 0) (pa_cons pe_int pa_nil)))) (pa_cons (pe_f (ok_take T) (hr.mono (by decide)) pass0 (pa_cons (pv 0) (pa_cons pe_int pa_nil))) pa_nil))))) pss_nil) (pss_one (ps_ret (pe_tup (pa_cons (pe_op op_add pe_int (pe_f (ok_take T) (hr.mono (by decide)) pass0 (pa_cons (pv 0) (pa_cons pe_int pa_nil)))) (pa_cons (pe_op op_add pe_int (pe_f (ok_take T) (hr.mono (by decide)) pass0 (pa_cons (pv 0) (pa_cons pe_int pa_nil)))) pa_nil)))))))), ?_⟩
    refine ⟨_, rfl, p, q, 4, rfl, B, by decide, by decide, fun v H1 v0 v1 B1 b1 => ?_⟩
    have K1 : Keep [p] H H1 := Keep.bag B B1 b1 (by simp)
    refine ⟨_, rfl, rfl, _, rfl, ite2 (fun _ => ?_) fun _ => ?_⟩
    · exact ⟨(by show 2 ≤ sizeLine; decide), fun t ht => k t 24 40 _ upd_same (by decide) (by decide) (by decide) (by decide) (B1.same (Same.newp ht)) (K1.trans (Keep.of (Same.newp ht)))⟩
    refine ⟨_, rfl, rfl, _, rfl, ite2 (fun _ => ?_) fun _ => ?_⟩
    · refine ⟨_, rfl, p, q, 24, rfl, B1, by decide, by decide, fun a H2 a0 a1 B2 b2 => ⟨_, _, rfl, rfl, _, rfl, p, q, 41, rfl, B2, by decide, by decide, fun b H3 c0 c1 B3 b3 => ⟨(by show 2 ≤ sizeLine; decide), fun t ht => ?_⟩⟩⟩
      exact k t _ _ _ upd_same (by omega) (by omega) c0 (by omega) (B3.same (Same.newp ht)) ((K1.trans ((Keep.bag B1 B2 b2 (by simp)).trans (Keep.bag B2 B3 b3 (by simp)))).trans (Keep.of (Same.newp ht)))
    · refine ⟨_, rfl, p, q, 6, rfl, B1, by decide, by decide, fun a H2 a0 a1 B2 b2 => ⟨_, _, rfl, rfl, _, rfl, p, q, 14, rfl, B2, by decide, by decide, fun b H3 c0 c1 B3 b3 => ⟨_, _, rfl, rfl, (by show 2 ≤ sizeLine; decide), fun t ht => ?_⟩⟩⟩
      exact k t _ _ _ upd_same (by omega) (by omega) (by omega) (by omega) (B3.same (Same.newp ht)) ((K1.trans ((Keep.bag B1 B2 b2 (by simp)).trans (Keep.bag B2 B3 b3 (by simp)))).trans (Keep.of (Same.newp ht)))
end
end SM
namespace SM
open PySem PySem.Spec PyProof.Rows L2
open Evl (tCut pss_cut)
section
variable {P : Program} {w : World} {K : PySem.W.Frag} {mg : Str → Option Value} {base : Heap} {C : Nat → Addr} {M L : Addr}
theorem sc__law_works : FnScope ["_law_bag_here", "_law_many", "_law_more", "_law_shape", "_law_costs", "_law_drawn", "_law_half", "_law_sources", "_law_lines", "_law_k", "_law_name_here", "_law_one", "_law_other", "_law_cost_here"] ["_law_bag_here", "_law_many", "_law_more"] (defScope s__law_works) := ⟨rfl, rfl, rfl, by decide +kernel, rfl, by decide +kernel, by decide +kernel⟩
theorem lo_works (T : Tx K mg C M L) : OkF P w K mg base CX0 4 "_law_works" ["_law_bag_here", "_law_many", "_law_more"] (spWorksM) := by
  refine T.d_works.ok sc__law_works (fun _ _ _ _ _ _ us hl => match us, hl with | [_, _, _], _ => rfl) (fun vs H Q E h => ?_) (fun f cdv Ar outer st H vs Q E hr h => ?_)
  · obtain ⟨p, q, n, j, rfl, _⟩ := h
    rfl
  · obtain ⟨p, q, n, j, rfl, B, n1, n24, j0, j40, k⟩ := h
    have hu := hu_of hr
    refine ⟨_, (pss_cons (ps_set (i := 3) sc__law_works.nd rfl (Or.inl rfl) (pe_f (ok_take T) (hr.mono (by decide)) pass0 (pa_cons (pv 0) (pa_cons pe_int pa_nil)))) (pss_cons (ps_set (i := 4) sc__law_works.nd rfl (Or.inl rfl) (pe_f (ok_take T) (hr.mono (by decide)) pass0 (pa_cons (pv 0) (pa_cons pe_int pa_nil)))) (pss_cons (ps_set (i := 5) sc__law_works.nd rfl (Or.inl rfl) (pe_f (lo_names T) (hr.mono (by decide)) pass0 (pa_cons (pv 0) (pa_cons (pv 1) pa_nil)))) (pss_cons (ps_set (i := 6) sc__law_works.nd rfl (Or.inl rfl) (pe_op op_fdiv (pe_op op_add (pv 1) pe_int) pe_int)) (pss_cons (ps_set (i := 7) sc__law_works.nd rfl (Or.inl rfl) (pe_f (lo_some T) (hr.mono (by decide)) pass0 (pa_cons (pv 0) (pa_cons (pe_slice sl_list (pv 5) po_none (po_some (pv 6))) (pa_cons (pe_ix ix_list (pe_lst (pa_cons pe_int (pa_cons pe_int (pa_cons pe_int (pa_cons pe_int (pa_cons pe_int (pa_cons pe_int pa_nil))))))) (pe_f (ok_take T) (hr.mono (by decide)) pass0 (pa_cons (pv 0) (pa_cons pe_int pa_nil))) (fun _ _ => rfl)) pa_nil))))) (pss_cons (ps_set (i := 8) sc__law_works.nd rfl (Or.inl rfl) pe_dnewK) (pss_cons (ps_for PassesOwn.never rfl (pi_enum rfl T.b_enumerate (pa_cons (pe_f (lo_names T) (hr.mono (by decide)) pass0 (pa_cons (pv 0) (pa_cons (pv 2) pa_nil))) pa_nil)) (pg_tupK (K := K) (n := 2) rfl rfl (pgs_cons (pg_name (i := 9) sc__law_works.nd rfl (Or.inl rfl)) (pgs_cons (pg_name (i := 10) sc__law_works.nd rfl (Or.inl rfl)) pgs_nil))) (pss_cons (ps_asg (pe_f (lo_ends T) (hr.mono (by decide)) pass0 (pa_cons (pv 0) (pa_cons (pv 1) (pa_cons (pv 3) (pa_cons (pv 9) pa_nil))))) (pg_tupK (K := K) (n := 2) rfl rfl (pgs_cons (pg_name (i := 11) sc__law_works.nd rfl (Or.inl rfl)) (pgs_cons (pg_name (i := 12) sc__law_works.nd rfl (Or.inl rfl)) pgs_nil)))) (pss_cons (ps_set (i := 13) sc__law_works.nd rfl (Or.inl rfl) (pe_f (lo_cost T) (hr.mono (by decide)) pass0 (pa_cons (pv 0) (pa_cons (pv 4) pa_nil)))) (pss_one (ps_if (pt_cmpR op_ne (pv 11) (pv 12) (nomark _)) (pss_one (ps_dput hu (pv 8) (pv 10) (pe_tup (pa_cons (pe_ix ix_list (pv 5) (pv 11) (fun _ _ => rfl)) (pa_cons (pe_ix ix_list (pv 5) (pv 12) (fun _ _ => rfl)) (pa_cons (pv 13) pa_nil)))) rfl)) pss_nil))))) (pss_one (ps_ret (pe_disp (pps_cons pe_str (pe_callB cr_sortedS (by rfl) T.b_sorted (by decide +kernel) (pa_cons (pv 5) pa_nil)) (pps_cons pe_str (pv 5) (pps_cons pe_str (pv 8) (pps_cons pe_str (pe_callB cr_sortedS (by rfl) T.b_sorted (by decide +kernel) (pa_cons (pv 7) pa_nil)) pps_nil)))) (by rfl) (by rfl) (fun z => by cases z) (by decide))))))))))), ?_⟩
    refine ⟨_, rfl, p, q, 4, rfl, B, by decide, by decide, fun w Ha w0 w1 Ba ba => ?_⟩
    have Ka : Keep [p] H Ha := Keep.bag B Ba ba (by simp)
    refine ⟨_, rfl, p, q, 3, rfl, Ba, by decide, by decide, fun cs Hb cs0 cs1 Bb bb => ?_⟩
    have Kb := Ka.trans (Keep.bag (ms := [p]) Ba Bb bb (by simp))
    refine ⟨_, rfl, _, rfl, p, q, n, rfl, Bb, by omega, by omega, fun a rs Hc hrs rN rl rG Bc Kc ac => ?_⟩
    have Kd := Kb.trans Kc
    have r24 : rs.length ≤ 24 := by omega
    refine ⟨_, rfl, _, _, rfl, rfl, _, _, rfl, rfl, ⟨by decide, by decide⟩, ?_⟩
    obtain ⟨h2, eh, h0⟩ : ∃ h : Nat, (n + 1) / 2 = (h : Int) ∧ True := ⟨((n + 1) / 2).toNat, by omega, trivial⟩
    dsimp only
    rw [eh]
    refine ⟨_, rfl, _, rfl, _, rfl, _, rfl, a, _, rfl, SqL.of hrs, fun a2 ha2 => ?_⟩
    dsimp only
    rw [cutV_take, ← List.map_take]
    have s2 : Same Hc (upd Hc a2 (.lst ((rs.take h2).map V.str))) := Same.newp ha2
    have g2 : upd Hc a2 (.lst ((rs.take h2).map V.str)) a2 = some (.lst ((rs.take h2).map V.str)) := upd_same
    generalize upd Hc a2 (.lst ((rs.take h2).map V.str)) = Hd at s2 g2 ⊢
    refine ⟨(by show 6 ≤ sizeLine; decide), fun l6 hl6 => ?_⟩
    have s3 := s2.trans (Same.newp (o := .lst [V.int 1, V.int 1, V.int 2, V.int 3, V.int 0, V.int 12]) hl6)
    have g3 : upd Hd l6 (.lst [V.int 1, V.int 1, V.int 2, V.int 3, V.int 0, V.int 12]) l6 = some (.lst [V.int 1, V.int 1, V.int 2, V.int 3, V.int 0, V.int 12]) := upd_same
    have g2' := (Same.newp (o := .lst [V.int 1, V.int 1, V.int 2, V.int 3, V.int 0, V.int 12]) hl6) _ _ g2
    generalize upd Hd l6 (.lst [V.int 1, V.int 1, V.int 2, V.int 3, V.int 0, V.int 12]) = He at s3 g3 g2' ⊢
    refine ⟨_, rfl, p, q, 6, rfl, Bc.same s3, by decide, by decide, fun v Hf v0 v1 Bf bf => ?_⟩
    have kf : Keep [p] He Hf := Keep.bag (Bc.same s3) Bf bf (by simp)
    obtain ⟨y, ey, y0, y12⟩ := pick6 v0 v1
    refine ⟨l6, _, v, _, rfl, rfl, SqL.of (kf.flat _ _ g3 rfl), ey, ?_⟩
    have Kf := (Kd.trans (Keep.of s3)).trans kf
    refine ⟨p, q, a2, rs.take h2, y, rfl, Bf, kf.flat _ _ g2' (flat_strs _), (fun x m => rG x (List.mem_of_mem_take m)), by rw [List.length_take]; omega, y0, by omega, fun b ss Hg hss sN sS Bg Kg bg => ?_⟩
    have Kh := Kf.trans Kg
    have hrs1 := ((Keep.of (ms := [p]) s3).trans kf).trans Kg |>.flat _ _ hrs (flat_strs _)
    have sI : ∀ x ∈ ss, x ∈ rs := fun x m => List.mem_of_mem_take (sS x m)
    clear s2 s3 g2 g3 g2' kf Kf Kd Kb Ka
    intro D hD
    have K2 := Kh.trans (Keep.of (ms := [p]) (Same.newp (o := .dK []) hD))
    have DN : H D = none := Kh.has _ hD
    have B1 := Bg.same (Same.newp (o := .dK []) hD)
    have hrs2 := (Same.newp (o := .dK []) hD) _ _ hrs1
    have hss2 := (Same.newp (o := .dK []) hD) _ _ hss
    have hD2 : upd Hg D (.dK []) D = some (.dK []) := upd_same
    have bD : b ≠ D := ne_of_none hss hD
    generalize upd Hg D (.dK []) = H2 at K2 B1 hrs2 hss2 hD2 ⊢
    refine ⟨_, rfl, _, rfl, p, q, j, rfl, B1, by omega, by omega, fun nb ns H3 hns nN nl nG B3 K3 nb0 => ?_⟩
    refine ⟨nb, _, rfl, SqL.of hns, ?_⟩
    have DnN : D ∉ [p] := by simpa using (B1.nd hD2).1.symm
    refine for_it walk_enum (fun i σ G => (∃ x1 x2 x3 x4 x5 : Option V, σ = [some (.ref p), some (.int n), some (.int j), some (.int w), some (.int cs), some (.ref a), some (.int (h2 : Int)), some (.ref b), some (.ref D), x1, x2, x3, x4, x5]) ∧ Bag G p q ∧ Keep [p] H G ∧ G a = some (.lst (rs.map V.str)) ∧ G b = some (.lst (ss.map V.str)) ∧ G nb = some (.lst (ns.map V.str)) ∧ ∃ (kvs : List (Key × V)) (ls : List (Str × LineV)), G D = some (.dK kvs) ∧ Kr (LineG G) kvs ls ∧
        (keys ls).Nodup ∧ (∀ x ∈ keys ls, x ∈ ns.take i) ∧ ls.length ≤ i ∧ ∀ e ∈ ls, e.2.1 ∈ rs ∧ e.2.2.1 ∈ rs ∧ e.2.1 ≠ e.2.2.1 ∧ okCost e.2.2.2 = true)
      ⟨⟨_, _, _, _, _, rfl⟩, B3, K2.trans K3, K3.flat _ _ hrs2 (flat_strs _), K3.flat _ _ hss2 (flat_strs _), hns, [], [], K3.out _ _ hD2 DnN, .nil, List.nodup_nil, (by intro x m; cases m), Nat.le_refl _, (by intro x m; cases m)⟩ (fun i σ G _ z => SqL.of z.2.2.2.2.2.1) ?_ ?_
    · rintro i x σ G G1 hi ⟨⟨x1, x2, x3, x4, x5, rfl⟩, B2, K3, ha, hb, hn, kvs, ls, hd, hk, kN, kS, kL, kI⟩ ⟨Tt, xk, xv, rfl, hT, rfl, ek, ev⟩
      cases ek
      have ev' : (ns.map V.str)[i]? = some xv := ev
      rw [List.getElem?_map] at ev'
      obtain ⟨z, ez, rfl⟩ := Option.map_eq_some_iff.mp ev'
      have li : i < 40 := by
        have := (List.getElem?_eq_some_iff.mp ez).1
        omega
      have tk : ns.take (i + 1) = ns.take i ++ [z] := by
        rw [List.take_add_one, ez]
        rfl
      have new : z ∉ ns.take i := fun m => by
        have n2 : (ns.take (i + 1)).Nodup := nN.take
        rw [tk] at n2
        exact (List.nodup_append.mp n2).2.2 z m z (.head _) rfl
      have e3 : Same G (upd G Tt (.tup [V.int (i : Nat), V.str z])) := Same.newp hT
      have B3 := B2.same e3
      have K4 := K3.trans (Keep.of (ms := [p]) e3)
      refine ⟨Tt, _, rfl, SqT.of upd_same, rfl, _, _, rfl, _, _, rfl, rfl, ?_⟩
      refine ⟨_, rfl, _, rfl, _, rfl, _, rfl, p, q, w, n, _, rfl, B3, by omega, by omega, by omega, by omega, fun t c d H5 ht c0 c1 d0 d1 B5 K5 => ?_⟩
      refine ⟨t, _, rfl, SqT.of ht, rfl, _, _, rfl, _, _, rfl, rfl, ?_⟩
      refine ⟨_, rfl, _, rfl, p, q, cs, rfl, B5, fun m H6 mok B6 K6 => ?_⟩
      have k36 : Keep [p] G H6 := ((Keep.of (ms := [p]) e3).trans K5).trans K6
      have K7 := (K4.trans K5).trans K6
      have hd6 : H6 D = some (.dK kvs) := (K5.trans K6).out _ _ (e3 _ _ hd) (by simpa using (B2.nd hd).1.symm)
      have hk6 := (hk.mono fun v e ⟨t, et, w⟩ => ⟨t, et, e3 _ _ w⟩ : Kr (LineG (upd G Tt (.tup [V.int (i : Nat), V.str z]))) kvs ls).line (K5.trans K6)
      have ha6 := k36.flat _ _ ha (flat_strs _)
      have hb6 := k36.flat _ _ hb (flat_strs _)
      have hn6 := k36.flat _ _ hn (flat_strs _)
      refine ⟨_, rfl, _, rfl, rfl, _, rfl, ?_⟩
      by_cases cd : V.int c = V.int d
      · refine if_f (by show (!decide (V.int c = V.int d)) = false; rw [decide_eq_true cd]; rfl) ⟨⟨_, _, _, _, _, rfl⟩, B6, K7, ha6, hb6, hn6, kvs, ls, hd6, hk6, kN, fun x m => ?_, by omega, kI⟩
        rw [tk]
        exact List.mem_append_left _ (kS x m)
      refine if_t (by show (!decide (V.int c = V.int d)) = true; rw [decide_eq_false cd]; rfl) ?_
      obtain ⟨r1', er1, ar1⟩ := atI_strs (rs := rs) c0 (by omega)
      obtain ⟨r2', er2, ar2⟩ := atI_strs (rs := rs) d0 (by omega)
      have ne : r1' ≠ r2' := fun w => cd (by
        have l1 := (List.getElem?_eq_some_iff.mp er1).1
        have l2 := (List.getElem?_eq_some_iff.mp er2).1
        have e12 : rs[c.toNat]? = rs[d.toNat]? := by rw [er1, er2, w]
        have e13 : c.toNat = d.toNat := (List.getElem?_inj l1 rN).mp e12
        rw [show c = d by omega])
      refine ⟨_, rfl, _, rfl, a, _, c, _, rfl, rfl, SqL.of ha6, ar1, _, rfl, _, rfl, a, _, d, _, rfl, rfl, SqL.of ha6, ar2, _, rfl, (by show 3 ≤ sizeLine; decide), fun t2 ht2 => ?_⟩
      have e7 : Same H6 (upd H6 t2 (.tup [.str r1', .str r2', .int m])) := Same.newp ht2
      have hd7 := e7 _ _ hd6
      refine ⟨_, rfl, _, rfl, D, _, rfl, DPut.k (k := Sum.inr z) hd7 (small1000 (by rw [hk6.len]; omega)), ?_⟩
      have zk : z ∉ keys ls := fun w => new (kS z w)
      have lD : ∀ {c : Addr} {xs : List V}, H6 c = some (.lst xs) → c ≠ D := fun w => ne_of w hd6 (by intro x; cases x)
      refine ⟨⟨_, _, _, _, _, rfl⟩, (B6.same e7).keep (upd_ne (B6.nd hd6).1) (upd_ne (B6.nd hd6).2), (K7.trans (Keep.of e7)).over DN, (upd_ne (lD ha6)).trans (e7 _ _ ha6), (upd_ne (lD hb6)).trans (e7 _ _ hb6), (upd_ne (lD hn6)).trans (e7 _ _ hn6), _, ls ++ [(z, (r1', r2', m))], upd_same, ?_, ?_, ?_, ?_, ?_⟩
      · have off : ∀ t (xs : List V), H6 t = some (.tup xs) → upd (upd H6 t2 (.tup [.str r1', .str r2', .int m])) D (.dK (putK kvs (Sum.inr z) (.ref t2))) t = some (.tup xs) := fun t xs w => (upd_ne (ne_of w hd6 (by intro x; cases x))).trans (e7 _ _ w)
        exact (hk6.mono fun v e ⟨t, et, w⟩ => ⟨t, et, off _ _ w⟩).put (look_none.mpr zk) ⟨t2, rfl, (upd_ne (ne_of upd_same hd7 (by intro x; cases x))).trans upd_same⟩
      · rw [keys_snoc]
        exact List.nodup_append.mpr ⟨kN, by simp, fun x hx y hy e => zk (by rw [← List.mem_singleton.mp hy, ← e]; exact hx)⟩
      · rw [keys_snoc, tk]
        intro x m
        rcases List.mem_append.mp m with m | m
        · exact List.mem_append_left _ (kS x m)
        · exact List.mem_append_right _ m
      · rw [List.length_append, List.length_singleton]
        omega
      · intro e me
        rcases List.mem_append.mp me with me | me
        · exact kI e me
        · rw [List.mem_singleton.mp me]
          exact ⟨List.mem_of_getElem? er1, List.mem_of_getElem? er2, ne, mok⟩
    · rintro σ G ⟨⟨x1, x2, x3, x4, x5, rfl⟩, B2, K3, ha, hb, hn, kvs, ls, hd, hk, kN, kS, kL, kI⟩
      rw [List.length_map] at kL kS
      rw [List.take_length] at kS
      intro m hm
      have s1 : Same G (upd G m (.dK [])) := Same.newp hm
      have sl : ss.length ≤ rs.length := nodup_len sN sI
      refine ⟨_, rfl, a, rs, rfl, SqL.of (s1 _ _ ha), by omega, fun ys c yp ys1 hc => ?_⟩
      have s2 : Same (upd G m (.dK [])) (upd (upd G m (.dK [])) c (.lst (ys.map V.str))) := Same.newp hc
      have m2 := s2 _ _ (show upd G m (.dK []) m = some (.dK []) from upd_same)
      have c2 : upd (upd G m (.dK [])) c (.lst (ys.map V.str)) c = some (.lst (ys.map V.str)) := upd_same
      have s12 := s1.trans s2
      have mfree : G m = none := hm
      generalize upd (upd G m (.dK [])) c (.lst (ys.map V.str)) = G2 at s2 m2 c2 s12 ⊢
      refine ⟨_, rfl, _, rfl, _, rfl, b, ss, rfl, SqL.of (s12 _ _ hb), by omega, fun zs b2 zp zs1 hb2 => ?_⟩
      have s3 : Same G2 (upd G2 b2 (.lst (zs.map V.str))) := Same.newp hb2
      have m3 := s3 _ _ m2
      have c3 := s3 _ _ c2
      have b3 : upd G2 b2 (.lst (zs.map V.str)) b2 = some (.lst (zs.map V.str)) := upd_same
      have s13 := s12.trans s3
      generalize upd G2 b2 (.lst (zs.map V.str)) = G3 at s3 m3 c3 b3 s13 ⊢
      refine ⟨m3, ktop c a D b2, rfl, (by show 4 ≤ 15; decide), ?_⟩
      rw [ktop_merge]
      have eF : Same G (upd G3 m (.dK (ktop c a D b2))) := fun x u w => (upd_ne (ne_of_none w mfree)).trans (s13 _ _ w)
      have lm : ∀ {x : Addr} {xs : List V}, G3 x = some (.lst xs) → x ≠ m := fun w => ne_of w m3 (by intro z; cases z)
      refine k m c a D b2 ⟨rs, ls, [], zs⟩ _ ⟨upd_same, eF _ _ ha, ⟨ys, ⟨yp, ys1⟩, (upd_ne (lm c3)).trans c3⟩, ⟨kvs, eF _ _ hd, hk.mono fun v e ⟨t, et, w⟩ => ⟨t, et, eF _ _ w⟩⟩, (upd_ne (lm b3)).trans b3, zs1, ?_, by show 0 < rs.length; omega, rfl, (ne_of_none hd mfree).symm⟩ (B2.same eF) (K3.trans (Keep.of eF))
      exact ⟨rN, by show rs.length ≤ 24; omega, kN, by show ls.length ≤ 40; omega, List.nodup_nil, by show 0 ≤ 12; decide, zp.nodup_iff.mpr sN, fun x m => sI x (zp.mem_iff.mp m), kI, (by intro e m; cases m), rG, fun x m => nG x (kS x m), (by intro e m; cases m)⟩
theorem sc__law_layout : FnScope ["_law_m", "_law_here", "_law_room", "_law_name_here", "_law_one", "_law_other", "_law_cost_here"] ["_law_m"] (defScope s__law_layout) := ⟨rfl, rfl, rfl, by decide +kernel, rfl, by decide +kernel, by decide +kernel⟩
theorem lo_layout (T : Tx K mg C M L) : OkF P w K mg base CX0 6 "_law_layout" ["_law_m"] (spLaidM L) := by
  refine T.d_layout.ok sc__law_layout (fun _ _ _ _ _ _ us hl => match us, hl with | [_], _ => rfl) (fun vs H Q E h => ?_) (fun f cdv Ar outer st H vs Q E hr h => ?_)
  · obtain ⟨m, c, a, l, b, S, rfl, _⟩ := h
    rfl
  · obtain ⟨m, c, a, l, b, S, rfl, W, k⟩ := h
    have hu := hu_of hr
    obtain ⟨top, rm, _, ⟨k2, l1, l2⟩, sc, _, hS, ne0, dr0, mne⟩ := id W
    have eS : S = ⟨S.rooms, S.lines, [], S.sources⟩ := by rw [← dr0]
    refine ⟨_, (pss_cons (ps_set (i := 1) sc__law_layout.nd rfl (Or.inl rfl) (pe_mk0 T.mkL T.kL (ok_initL T.toLx) (hr.mono (by decide)) T.gL pass0)) (pss_cons (ps_for PassesOwn.never rfl (pi_list (pe_dget hu (pv 0) pe_str (fun _ _ => rfl))) (pg_name (i := 2) sc__law_layout.nd rfl (Or.inl rfl)) (pss_one (ps_expr (pe_m (ok_add_room T.toLx) T.cl (hr.mono (by decide)) passL (pv 1) (pa_cons (pv 2) pa_nil))))) (pss_cons (ps_lock (ps_for PassesOwn.never rfl (pi_keys (pe_dget hu (pv 0) pe_str (fun _ _ => rfl))) (pg_name (i := 3) sc__law_layout.nd rfl (Or.inl rfl)) (pss_cons (ps_asg (pe_dget hu (pe_dget hu (pv 0) pe_str (fun _ _ => rfl)) (pv 3) (fun _ _ => rfl)) (pg_tupK (K := K) (n := 3) rfl rfl (pgs_cons (pg_name (i := 4) sc__law_layout.nd rfl (Or.inl rfl)) (pgs_cons (pg_name (i := 5) sc__law_layout.nd rfl (Or.inl rfl)) (pgs_cons (pg_name (i := 6) sc__law_layout.nd rfl (Or.inl rfl)) pgs_nil))))) (pss_one (ps_expr (pe_m (ok_add_line T.toLx) T.cl (hr.mono (by decide)) passL (pv 1) (pa_cons (pv 3) (pa_cons (pv 4) (pa_cons (pv 5) (pa_cons (pv 6) pa_nil)))))))))) (pss_cons (ps_for PassesOwn.never rfl (pi_list (pe_dget hu (pv 0) pe_str (fun _ _ => rfl))) (pg_name (i := 2) sc__law_layout.nd rfl (Or.inl rfl)) (pss_one (ps_expr (pe_m (ok_add_source T.toLx) T.cl (hr.mono (by decide)) passL (pv 1) (pa_cons (pv 2) pa_nil))))) (pss_one (ps_ret (pv 1))))))), ?_⟩
    intro x dx0 nx ndx nex
    refine ⟨x, dx0, rfl, upd_same, fun A0 H1 eA hL1 kp fresh has => ⟨rfl, ?_⟩⟩
    obtain ⟨e1, fr1⟩ := newlay nx ndx eA kp fresh
    subst eA
    have offm : ∀ {c o}, H c = some o → c ∉ A0.ms := fun e w => by
      rw [fr1 _ w] at e
      cases e
    have top1 := e1 _ _ top
    have rm1 := e1 _ _ rm
    refine ⟨_, rfl, m, _, rfl, dget_of top1 (ktop_d c a l b), a, rfl, ⟨_, SqL.of rm1⟩, ?_⟩
    refine for_list (K := K) (a := a) (xs := S.rooms.map V.str) (fun i σ G => (∃ x1 x2 x3 x4 x5 : Option V, σ = [some (.ref m), some (.ref A0.p), x1, x2, x3, x4, x5]) ∧ LayAt L G A0 ⟨S.rooms.take i, [], [], []⟩ ∧ (⟨S.rooms.take i, [], [], []⟩ : LS).Ok ∧ Keep A0.ms H1 G)
      ⟨⟨_, _, _, _, _, rfl⟩, hL1, okNew, Keep.refl⟩ (fun i σ G _ z => SqL.of (z.2.2.2.flat _ _ rm1 (flat_strs _))) ?_ ?_
    · rintro i y σ G hi ⟨⟨x1, x2, x3, x4, x5, rfl⟩, hL, o, kG⟩
      rw [List.getElem?_map] at hi
      obtain ⟨z, ez, rfl⟩ := Option.map_eq_some_iff.mp hi
      have tk : S.rooms.take (i + 1) = S.rooms.take i ++ [z] := by
        rw [List.take_add_one, ez]
        rfl
      have new : z ∉ S.rooms.take i := fun w => by
        have n2 : (S.rooms.take (i + 1)).Nodup := hS.rN.take
        rw [tk] at n2
        exact (List.nodup_append.mp n2).2.2 z w z (.head _) rfl
      have li : i < 24 := by
        have := (List.getElem?_eq_some_iff.mp ez).1
        have := hS.rL
        omega
      have gz := hS.rG z (List.mem_of_getElem? ez)
      have due : (⟨S.rooms.take i, [], [], []⟩ : LS).due (.addRoom z) = none := by
        show (if z ∈ S.rooms.take i then some (Rf.there z) else if 24 ≤ (S.rooms.take i).length then some (.tooMany 24) else none) = none
        rw [if_neg new, if_neg (by rw [List.length_take]; omega)]
      obtain ⟨⟨dx, ob⟩, _⟩ := id hL
      refine ⟨_, rfl, A0.p, dx, _, rfl, ob, lfl_no A0 (by decide +kernel), _, rfl, A0, .str z, true, _, rfl, hL, o, NameQ.of gz, (fun w => Bool.noConfusion w), fun z1 ez1 _ => ?_⟩
      cases ez1
      refine ⟨fun _ G1 hL2 k2 => ⟨⟨_, _, _, _, _, rfl⟩, ?_, ?_, kG.trans k2⟩, fun f df => by rw [due] at df; cases df⟩
      · rw [tk]
        exact hL2
      · rw [tk]
        exact o.put (D := .addRoom z) gz due
    rintro σ G ⟨⟨x1, x2, x3, x4, x5, rfl⟩, hL, o, kG⟩
    rw [List.length_map, List.take_length] at hL o
    have lockN : ∀ {c kv}, H c = some (.dK kv) → c ∉ A0.ms := fun e => offm e
    have kG2 := kG
    have hL' := hL
    generalize G = G4 at kG2 hL' ⊢
    clear hL kG
    have lG : G4 l = some (.dK k2) := kG2.out _ _ (e1 _ _ l1) (lockN l1)
    have l4 : Kr (LineG G4) k2 S.lines := l2.mono fun v e ⟨t, et, w⟩ => ⟨t, et, kG2.tup _ _ (e1 _ _ w)⟩
    refine ⟨l, _, lG, True.intro, fun od2 => ?_⟩
    have topG4 : G4 m = some (.dK (ktop c a l b)) := kG2.out _ _ top1 (lockN top)
    have topU : upd G4 l (.frz od2 (.dK k2)) m = some (.dK (ktop c a l b)) := (upd_ne mne).trans topG4
    have hLU : LayAt L (upd G4 l (.frz od2 (.dK k2))) A0 ⟨S.rooms, [], [], []⟩ := hL'.keep (Keep.lock (ms := [l]) lG (by simp)) (by simpa using lockN l1)
    refine ⟨_, rfl, m, _, rfl, dget_of topU (ktop_l c a l b), l, od2, rfl, .inl ⟨k2, upd_same, ?_⟩⟩
    refine for_it walk_keys (fun i σ G1 => (∃ x1 x2 x3 x4 x5 : Option V, σ = [some (.ref m), some (.ref A0.p), x1, x2, x3, x4, x5]) ∧ LayAt L G1 A0 ⟨S.rooms, S.lines.take i, [], []⟩ ∧ (⟨S.rooms, S.lines.take i, [], []⟩ : LS).Ok ∧ Keep A0.ms (upd G4 l (.frz od2 (.dK k2))) G1)
      ⟨⟨_, _, _, _, _, rfl⟩, hLU, o, Keep.refl⟩ (fun i σ G1 _ z => z.2.2.2.out _ _ upd_same (lockN l1)) ?_ ?_
    · rintro i y σ G1 G2 hi ⟨⟨x1, x2, x3, x4, x5, rfl⟩, hL, o, kG1⟩ ⟨rfl, kk, vv, ek, rfl⟩
      obtain ⟨q, eq, e3, t, gq, gt⟩ := Kr.at l4 ek
      have e3' : kk = Sum.inr q.1 := e3
      have gq' : vv = .ref t := gq
      subst e3' gq'
      have ev : valV k2 (Sum.inr q.1) = some (.ref t) := valV_at l4 hS.lN ek
      have mq := List.mem_of_getElem? eq
      have mk : q.1 ∈ keys S.lines := List.mem_map_of_mem mq
      obtain ⟨i1, i2, ine, ic⟩ := hS.lI _ mq
      have gn : okName q.1 = true := hS.lG _ mk
      have g1 : okName q.2.1 = true := hS.rG _ i1
      have g2 : okName q.2.2.1 = true := hS.rG _ i2
      have tk : S.lines.take (i + 1) = S.lines.take i ++ [q] := by
        rw [List.take_add_one, eq]
        rfl
      have new : q.1 ∉ keys (S.lines.take i) := fun w => by
        have n2 : (keys (S.lines.take (i + 1))).Nodup := by
          rw [keys, List.map_take]
          exact hS.lN.take
        rw [tk, keys_snoc] at n2
        exact (List.nodup_append.mp n2).2.2 q.1 w q.1 (.head _) rfl
      have li : i < 40 := by
        have := (List.getElem?_eq_some_iff.mp eq).1
        have := hS.lL
        omega
      have due : (⟨S.rooms, S.lines.take i, [], []⟩ : LS).due (.addLine q.1 q.2.1 q.2.2.1 q.2.2.2) = none := by
        have t0 : (⟨S.rooms, S.lines.take i, [], []⟩ : LS).taken q.1 = false := by
          show (decide (q.1 ∈ keys (S.lines.take i)) || decide (q.1 ∈ keys ([] : List (Str × Str)))) = false
          rw [decide_eq_false new]
          rfl
        show (if (⟨S.rooms, S.lines.take i, [], []⟩ : LS).taken q.1 = true then some (Rf.there q.1) else if q.2.1 ∉ S.rooms then some (.lacks q.2.1) else if q.2.2.1 ∉ S.rooms then some (.lacks q.2.2.1) else if 40 ≤ (S.lines.take i).length then some (.tooMany 40) else none) = none
        rw [t0, if_neg (by simp), if_neg (fun w => w i1), if_neg (fun w => w i2), if_neg (by rw [List.length_take]; omega)]
      obtain ⟨⟨dx, ob⟩, _⟩ := id hL
      have top2 := kG1.out _ _ topU (lockN top)
      have ll2 := kG1.out _ _ upd_same (lockN l1)
      have gt2 : G2 t = some (.tup [.str q.2.1, .str q.2.2.1, .int q.2.2.2]) := kG1.tup _ _ ((upd_ne (ne_of gt lG (by intro w; cases w))).trans gt)
      refine ⟨_, rfl, m, _, rfl, dget_of top2 (ktop_l c a l b), _, rfl, l, _, rfl, dget_rd (.inr ⟨od2, ll2⟩) ev, ?_⟩
      refine ⟨t, _, rfl, SqT.of gt2, rfl, _, _, rfl, _, _, rfl, _, _, rfl, rfl, ?_⟩
      refine ⟨_, rfl, A0.p, dx, _, rfl, ob, lfl_no A0 (by decide +kernel), _, rfl, _, rfl, _, rfl, _, rfl, ?_⟩
      refine ⟨A0, .str q.1, .str q.2.1, .str q.2.2.1, .int q.2.2.2, true, true, true, true, _, rfl, hL, o, NameQ.of gn, NameQ.of g1, NameQ.of g2, .inl ⟨_, rfl, ic.symm⟩, (fun w => Bool.noConfusion w), (fun _ w => Bool.noConfusion w), (fun _ _ w => w.elim (fun w => Bool.noConfusion w) fun w => absurd (V.str.inj w).symm ine), (fun _ _ _ _ w => Bool.noConfusion w), fun z1 z2 z3 z4 ez1 ez2 ez3 ez4 _ _ _ _ _ => ?_⟩
      cases ez1
      cases ez2
      cases ez3
      cases ez4
      refine ⟨fun _ G3 hL2 k2 => ⟨⟨_, _, _, _, _, rfl⟩, ?_, ?_, kG1.trans k2⟩, fun f df => by rw [due] at df; cases df⟩
      · rw [tk]
        exact hL2
      · rw [tk]
        exact o.put (D := .addLine q.1 q.2.1 q.2.2.1 q.2.2.2) ⟨gn, g1, g2, ine, ic⟩ due
    rintro σ G1 ⟨⟨x1, x2, x3, x4, x5, rfl⟩, hL, o, kG1⟩
    rw [l4.len, List.take_length] at hL o
    have ll2 := kG1.out _ _ upd_same (lockN l1)
    refine ⟨ll2, ?_⟩
    have kG5 : Keep A0.ms H1 (upd G1 l (.dK k2)) := kG2.trans (Keep.unlock lG kG1 (lockN l1))
    have hL5 : LayAt L (upd G1 l (.dK k2)) A0 ⟨S.rooms, S.lines, [], []⟩ := hL.keep (ms := [l]) (Keep.at ll2 (.head _) (fun _ z => by cases z) (fun _ _ _ z => by cases z) fun _ z => by cases z) (by simpa using lockN l1)
    generalize upd G1 l (.dK k2) = G5 at kG5 hL5 ⊢
    clear hL hLU kG1 topU ll2
    have top5 : G5 m = some (.dK (ktop c a l b)) := kG5.out _ _ top1 (lockN top)
    have sc5 := kG5.flat _ _ (e1 _ _ sc) (flat_strs _)
    refine ⟨_, rfl, m, _, rfl, dget_of top5 (ktop_s c a l b), b, rfl, ⟨_, SqL.of sc5⟩, ?_⟩
    refine for_list (K := K) (a := b) (xs := S.sources.map V.str) (fun i σ G => (∃ x1 x2 x3 x4 x5 : Option V, σ = [some (.ref m), some (.ref A0.p), x1, x2, x3, x4, x5]) ∧ LayAt L G A0 ⟨S.rooms, S.lines, [], S.sources.take i⟩ ∧ (⟨S.rooms, S.lines, [], S.sources.take i⟩ : LS).Ok ∧ Keep A0.ms H1 G)
      ⟨⟨_, _, _, _, _, rfl⟩, hL5, o, kG5⟩ (fun i σ G _ z => SqL.of (z.2.2.2.flat _ _ (e1 _ _ sc) (flat_strs _))) ?_ ?_
    · rintro i y σ G hi ⟨⟨x1, x2, x3, x4, x5, rfl⟩, hL, o, kG⟩
      rw [List.getElem?_map] at hi
      obtain ⟨z, ez, rfl⟩ := Option.map_eq_some_iff.mp hi
      have tk : S.sources.take (i + 1) = S.sources.take i ++ [z] := by
        rw [List.take_add_one, ez]
        rfl
      have new : z ∉ S.sources.take i := fun w => by
        have n2 : (S.sources.take (i + 1)).Nodup := hS.sN.take
        rw [tk] at n2
        exact (List.nodup_append.mp n2).2.2 z w z (.head _) rfl
      have mz := hS.sI z (List.mem_of_getElem? ez)
      have gz := hS.rG z mz
      have due : (⟨S.rooms, S.lines, [], S.sources.take i⟩ : LS).due (.addSource z) = none := by
        show (if z ∉ S.rooms then some (Rf.lacks z) else if z ∈ S.sources.take i then some (.there z) else none) = none
        rw [if_neg (fun w => w mz), if_neg new]
      obtain ⟨⟨dx, ob⟩, _⟩ := id hL
      refine ⟨_, rfl, A0.p, dx, _, rfl, ob, lfl_no A0 (by decide +kernel), _, rfl, A0, .str z, true, _, rfl, hL, o, NameQ.of gz, (fun w => Bool.noConfusion w), fun z1 ez1 _ => ?_⟩
      cases ez1
      refine ⟨fun _ G1 hL2 k2 => ⟨⟨_, _, _, _, _, rfl⟩, ?_, ?_, kG.trans k2⟩, fun f df => by rw [due] at df; cases df⟩
      · rw [tk]
        exact hL2
      · rw [tk]
        exact o.put (D := .addSource z) gz due
    rintro σ G ⟨⟨x1, x2, x3, x4, x5, rfl⟩, hL, o, kG⟩
    rw [List.length_map, List.take_length] at hL o
    exact ⟨_, rfl, k A0 G (by rw [eS]; exact hL) (Keep.lifted e1 fr1 kG) fr1⟩
end
end SM
namespace SM
open PySem PySem.Spec PyProof.Rows L2
open Evl (tCut pss_cut)
section
variable {P : Program} {w : World} {K : PySem.W.Frag} {mg : Str → Option Value} {base : Heap} {C : Nat → Addr} {M L : Addr}
theorem flag_at {T : Tx K mg C M L} {n j : Nat} (hn : n < 6) (hj : j < 6) : PySem.W.kitOne K (.ref (C n)) (.ref (C j)) = some (decide (j = n)) := by
  rw [(T.e n hn).kit (T.e j hj)]
  have nd := T.nd
  have nM : C j ≠ M := fun z => (List.nodup_cons.mp nd).1 (by rw [← z]; exact List.mem_map_of_mem (List.mem_range.mpr hj))
  have inj : C j = C n → j = n := fun z => by
    have e1 : ((List.range 6).map C)[j]? = some (C j) := by simp [hj]
    have e2 : ((List.range 6).map C)[n]? = some (C j) := by simp [hn, z]
    exact nodup_ix' (List.nodup_cons.mp nd).2 e1 e2
  by_cases e : j = n
  · subst e
    simp
  · have ne : ¬ C j = C n := fun z => e (inj z)
    rw [decide_eq_false e]
    simp [ne, nM]
theorem sc__law_class : FnScope ["_law_e", "_law_kinds"] ["_law_e"] (defScope s__law_class) := ⟨rfl, rfl, rfl, by decide +kernel, rfl, by decide +kernel, by decide +kernel⟩
theorem lo_class (T : Tx K mg C M L) : OkX P w K mg base 1 "_law_class" ["_law_e"] (spClassQ C) := by
  refine T.d_class.okH sc__law_class (fun _ _ _ _ _ _ us hl => match us, hl with | [_], _ => rfl) (fun ea ec ed vs H Q E h => ?_) (fun f cdv Ar outer st H vs Q E ea oe ec ed hz hf hr h => ?_)
  · obtain ⟨n, v, dd, _, _, _, _, rfl, _⟩ := h
    rfl
  · obtain ⟨n, v, dd, hn, rfl, rfl, hx, rfl, k⟩ := h
    rcases hn with rfl | rfl
    · have g : Bears (L2H.cxH CX0 P w K mg base ["_law_e", "_law_kinds"] "_law_class" (defScope s__law_class) f cdv Ar outer st H E (ea, oe)).nox ea oe (.ref (C 0)) (some dd) := ⟨List.mem_singleton.mpr rfl, hz, hf⟩
      have fl : ∀ j, j < 6 → PySem.W.kitOne K (.ref (C 0)) (.ref (C j)) = some (decide (j = 0)) := fun j hj => flag_at (T := T) (by decide) hj
      have ve : PySem.W.kitOne K (.ref (C 0)) (.type "ValueError") = some true := (T.e 0 (by decide)).kitV "ValueError" (by decide +kernel) (by decide +kernel)
      have D0 : DictOk (some dd) H := fun _ w => by cases w; exact ⟨_, hx⟩
      refine ⟨_, (pss_cons (ps_set (i := 1) sc__law_class.nd rfl (Or.inl rfl) (pe_lst (pa_cons (pe_callB (call_isX T.gc (T.e 0 (by decide)) g) (by rfl) T.b_isinstance (by decide +kernel) (pa_cons (pv 0) (pa_cons (pe_glob (v := .ref (C 0)) rfl T.g0 rfl) pa_nil))) (pa_cons (pe_callB (call_isX T.gc (T.e 0 (by decide)) g) (by rfl) T.b_isinstance (by decide +kernel) (pa_cons (pv 0) (pa_cons (pe_glob (v := .ref (C 2)) rfl T.g2 rfl) pa_nil))) (pa_cons (pe_callB (call_isX T.gc (T.e 0 (by decide)) g) (by rfl) T.b_isinstance (by decide +kernel) (pa_cons (pv 0) (pa_cons (pe_glob (v := .ref (C 5)) rfl T.g5 rfl) pa_nil))) pa_nil))))) (pss_cons (ps_set (i := 1) sc__law_class.nd rfl (Or.inl rfl) (pe_op op_cat (pv 1) (pe_lst (pa_cons (pe_callB (call_isX T.gc (T.e 0 (by decide)) g) (by rfl) T.b_isinstance (by decide +kernel) (pa_cons (pv 0) (pa_cons (pe_glob (v := .ref (C 1)) rfl T.g1 rfl) pa_nil))) (pa_cons (pe_callB (call_isX T.gc (T.e 0 (by decide)) g) (by rfl) T.b_isinstance (by decide +kernel) (pa_cons (pv 0) (pa_cons (pe_glob (v := .ref (C 3)) rfl T.g3 rfl) pa_nil))) (pa_cons (pe_callB (call_isX T.gc (T.e 0 (by decide)) g) (by rfl) T.b_isinstance (by decide +kernel) (pa_cons (pv 0) (pa_cons (pe_glob (v := .ref (C 4)) rfl T.g4 rfl) pa_nil))) pa_nil)))))) (pss_cons (ps_if (pw_or (pt_not (pt_val (pe_callB (call_isX T.gc (T.e 0 (by decide)) g) (by rfl) T.b_isinstance (by decide +kernel) (pa_cons (pv 0) (pa_cons (pe_bltn (v := .ty "ValueError") (by rfl) T.b_ValueError PyProof.Rows.Boot.«ValueError» rfl) pa_nil))))) (pw_or (pt_cmpR op_ne (pe_bm PySem.F.plainAttrs_list PySem.F.slot_list_count PySem.F.type_list_count mt_countF (pv 1) (pa_cons pe_bl pa_nil)) pe_int (nomark _)) (pw_or1 (pt_cmpR op_in_seq pe_bl (pe_slice sl_list (pv 1) (po_some pe_int) po_none) rfl)))).pt (pss_one (ps_ret (pe_tup (pa_cons pe_str pa_nil)))) pss_nil) (pss_cons (ps_if (pt_val (pe_ix ix_list (pv 1) pe_int (fun _ _ => rfl))) (pss_one (ps_ret (pe_tup (pa_cons pe_str (pa_cons (pe_xfB (T.e 0 (by decide)) g T.n0 (pv 0)) pa_nil))))) pss_nil) (pss_cons (ps_if (pt_val (pe_ix ix_list (pv 1) pe_int (fun _ _ => rfl))) (pss_one ps_never) pss_nil) (pss_one ps_never)))))), ?_⟩
      refine ⟨_, rfl, _, _, _, rfl, (fun u r => r), fl 0 (by decide), D0, _, rfl, _, _, _, rfl, (fun u r => r), fl 2 (by decide), D0, _, rfl, _, _, _, rfl, (fun u r => r), fl 5 (by decide), D0, (by show 3 ≤ sizeLine; decide), fun l1 h1 => ?_⟩
      have e1 := Same.newp (o := .lst [.bl (decide (0 = 0)), .bl (decide (2 = 0)), .bl (decide (5 = 0))]) h1
      have g1 : upd H l1 (.lst [.bl (decide (0 = 0)), .bl (decide (2 = 0)), .bl (decide (5 = 0))]) l1 = some (.lst [.bl (decide (0 = 0)), .bl (decide (2 = 0)), .bl (decide (5 = 0))]) := upd_same
      have D1 := DictOk.same D0 e1
      generalize upd H l1 (.lst [.bl (decide (0 = 0)), .bl (decide (2 = 0)), .bl (decide (5 = 0))]) = H1 at *
      refine ⟨_, rfl, _, rfl, _, _, _, rfl, (fun u r => r), fl 1 (by decide), D1, _, rfl, _, _, _, rfl, (fun u r => r), fl 3 (by decide), D1, _, rfl, _, _, _, rfl, (fun u r => r), fl 4 (by decide), D1, (by show 3 ≤ sizeLine; decide), fun l2 h2 => ?_⟩
      have e2 := Same.newp (o := .lst [.bl (decide (1 = 0)), .bl (decide (3 = 0)), .bl (decide (4 = 0))]) h2
      refine ⟨l1, l2, _, _, rfl, rfl, e2 _ _ g1, upd_same, (by show 6 ≤ sizeLine; decide), fun l3 h3 => ?_⟩
      have e3 := (e1.trans e2).trans (Same.newp (o := .lst ([.bl (decide (0 = 0)), .bl (decide (2 = 0)), .bl (decide (5 = 0))] ++ [.bl (decide (1 = 0)), .bl (decide (3 = 0)), .bl (decide (4 = 0))])) h3)
      have D3 := DictOk.same D0 e3
      have g3 : upd (upd H1 l2 (.lst [.bl (decide (1 = 0)), .bl (decide (3 = 0)), .bl (decide (4 = 0))])) l3 (.lst ([.bl (decide (0 = 0)), .bl (decide (2 = 0)), .bl (decide (5 = 0))] ++ [.bl (decide (1 = 0)), .bl (decide (3 = 0)), .bl (decide (4 = 0))])) l3 = some (.lst ([.bl (decide (0 = 0)), .bl (decide (2 = 0)), .bl (decide (5 = 0))] ++ [.bl (decide (1 = 0)), .bl (decide (3 = 0)), .bl (decide (4 = 0))])) := upd_same
      generalize upd (upd H1 l2 (.lst [.bl (decide (1 = 0)), .bl (decide (3 = 0)), .bl (decide (4 = 0))])) l3 (.lst ([.bl (decide (0 = 0)), .bl (decide (2 = 0)), .bl (decide (5 = 0))] ++ [.bl (decide (1 = 0)), .bl (decide (3 = 0)), .bl (decide (4 = 0))])) = H3 at *
      refine ⟨_, rfl, .ty "ValueError", _, _, rfl, (fun u r => r), ve, D3, _, rfl, ?_⟩
      refine if_f rfl ?_
      refine ⟨_, rfl, .inl ⟨rfl, _, SqL.of g3⟩, l3, _, _, rfl, rfl, SqL.of g3, rfl, rfl, rfl, _, rfl, ?_⟩
      refine if_f (by decide +kernel) ?_
      refine ⟨_, rfl, _, rfl, l3, _, rfl, SqL.of g3, fun l4 h4 => ?_⟩
      refine ⟨l4, _, rfl, .inl (SqL.of upd_same), rfl, rfl, _, rfl, ?_⟩
      refine if_f (by decide +kernel) ?_
      have e4 := e3.trans (Same.newp (o := .lst (cutV ([.bl (decide (0 = 0)), .bl (decide (2 = 0)), .bl (decide (5 = 0))] ++ [.bl (decide (1 = 0)), .bl (decide (3 = 0)), .bl (decide (4 = 0))]) (some 3) none)) h4)
      have g4 := (Same.newp (o := .lst (cutV ([.bl (decide (0 = 0)), .bl (decide (2 = 0)), .bl (decide (5 = 0))] ++ [.bl (decide (1 = 0)), .bl (decide (3 = 0)), .bl (decide (4 = 0))]) (some 3) none)) h4) _ _ g3
      refine ⟨_, rfl, l3, _, 0, _, rfl, rfl, SqL.of g4, rfl, _, rfl, ?_⟩
      refine if_t (by decide) ?_
      refine ⟨_, rfl, rfl, dd, _, _, rfl, e4 _ _ hx, rfl, (by show 2 ≤ sizeLine; decide), fun t ht => ?_⟩
      exact k _ t (e4.trans (Same.newp ht)) upd_same
    · have g : Bears (L2H.cxH CX0 P w K mg base ["_law_e", "_law_kinds"] "_law_class" (defScope s__law_class) f cdv Ar outer st H E (ea, oe)).nox ea oe (.ref (C 2)) (some dd) := ⟨List.mem_singleton.mpr rfl, hz, hf⟩
      have fl : ∀ j, j < 6 → PySem.W.kitOne K (.ref (C 2)) (.ref (C j)) = some (decide (j = 2)) := fun j hj => flag_at (T := T) (by decide) hj
      have ve : PySem.W.kitOne K (.ref (C 2)) (.type "ValueError") = some true := (T.e 2 (by decide)).kitV "ValueError" (by decide +kernel) (by decide +kernel)
      have D0 : DictOk (some dd) H := fun _ w => by cases w; exact ⟨_, hx⟩
      refine ⟨_, (pss_cons (ps_set (i := 1) sc__law_class.nd rfl (Or.inl rfl) (pe_lst (pa_cons (pe_callB (call_isX T.gc (T.e 2 (by decide)) g) (by rfl) T.b_isinstance (by decide +kernel) (pa_cons (pv 0) (pa_cons (pe_glob (v := .ref (C 0)) rfl T.g0 rfl) pa_nil))) (pa_cons (pe_callB (call_isX T.gc (T.e 2 (by decide)) g) (by rfl) T.b_isinstance (by decide +kernel) (pa_cons (pv 0) (pa_cons (pe_glob (v := .ref (C 2)) rfl T.g2 rfl) pa_nil))) (pa_cons (pe_callB (call_isX T.gc (T.e 2 (by decide)) g) (by rfl) T.b_isinstance (by decide +kernel) (pa_cons (pv 0) (pa_cons (pe_glob (v := .ref (C 5)) rfl T.g5 rfl) pa_nil))) pa_nil))))) (pss_cons (ps_set (i := 1) sc__law_class.nd rfl (Or.inl rfl) (pe_op op_cat (pv 1) (pe_lst (pa_cons (pe_callB (call_isX T.gc (T.e 2 (by decide)) g) (by rfl) T.b_isinstance (by decide +kernel) (pa_cons (pv 0) (pa_cons (pe_glob (v := .ref (C 1)) rfl T.g1 rfl) pa_nil))) (pa_cons (pe_callB (call_isX T.gc (T.e 2 (by decide)) g) (by rfl) T.b_isinstance (by decide +kernel) (pa_cons (pv 0) (pa_cons (pe_glob (v := .ref (C 3)) rfl T.g3 rfl) pa_nil))) (pa_cons (pe_callB (call_isX T.gc (T.e 2 (by decide)) g) (by rfl) T.b_isinstance (by decide +kernel) (pa_cons (pv 0) (pa_cons (pe_glob (v := .ref (C 4)) rfl T.g4 rfl) pa_nil))) pa_nil)))))) (pss_cons (ps_if (pw_or (pt_not (pt_val (pe_callB (call_isX T.gc (T.e 2 (by decide)) g) (by rfl) T.b_isinstance (by decide +kernel) (pa_cons (pv 0) (pa_cons (pe_bltn (v := .ty "ValueError") (by rfl) T.b_ValueError PyProof.Rows.Boot.«ValueError» rfl) pa_nil))))) (pw_or (pt_cmpR op_ne (pe_bm PySem.F.plainAttrs_list PySem.F.slot_list_count PySem.F.type_list_count mt_countF (pv 1) (pa_cons pe_bl pa_nil)) pe_int (nomark _)) (pw_or1 (pt_cmpR op_in_seq pe_bl (pe_slice sl_list (pv 1) (po_some pe_int) po_none) rfl)))).pt (pss_one (ps_ret (pe_tup (pa_cons pe_str pa_nil)))) pss_nil) (pss_cons (ps_if (pt_val (pe_ix ix_list (pv 1) pe_int (fun _ _ => rfl))) (pss_one ps_never) pss_nil) (pss_cons (ps_if (pt_val (pe_ix ix_list (pv 1) pe_int (fun _ _ => rfl))) (pss_one (ps_ret (pe_tup (pa_cons pe_str (pa_cons (pe_xfB (T.e 2 (by decide)) g T.n2 (pv 0)) pa_nil))))) pss_nil) (pss_one ps_never)))))), ?_⟩
      refine ⟨_, rfl, _, _, _, rfl, (fun u r => r), fl 0 (by decide), D0, _, rfl, _, _, _, rfl, (fun u r => r), fl 2 (by decide), D0, _, rfl, _, _, _, rfl, (fun u r => r), fl 5 (by decide), D0, (by show 3 ≤ sizeLine; decide), fun l1 h1 => ?_⟩
      have e1 := Same.newp (o := .lst [.bl (decide (0 = 2)), .bl (decide (2 = 2)), .bl (decide (5 = 2))]) h1
      have g1 : upd H l1 (.lst [.bl (decide (0 = 2)), .bl (decide (2 = 2)), .bl (decide (5 = 2))]) l1 = some (.lst [.bl (decide (0 = 2)), .bl (decide (2 = 2)), .bl (decide (5 = 2))]) := upd_same
      have D1 := DictOk.same D0 e1
      generalize upd H l1 (.lst [.bl (decide (0 = 2)), .bl (decide (2 = 2)), .bl (decide (5 = 2))]) = H1 at *
      refine ⟨_, rfl, _, rfl, _, _, _, rfl, (fun u r => r), fl 1 (by decide), D1, _, rfl, _, _, _, rfl, (fun u r => r), fl 3 (by decide), D1, _, rfl, _, _, _, rfl, (fun u r => r), fl 4 (by decide), D1, (by show 3 ≤ sizeLine; decide), fun l2 h2 => ?_⟩
      have e2 := Same.newp (o := .lst [.bl (decide (1 = 2)), .bl (decide (3 = 2)), .bl (decide (4 = 2))]) h2
      refine ⟨l1, l2, _, _, rfl, rfl, e2 _ _ g1, upd_same, (by show 6 ≤ sizeLine; decide), fun l3 h3 => ?_⟩
      have e3 := (e1.trans e2).trans (Same.newp (o := .lst ([.bl (decide (0 = 2)), .bl (decide (2 = 2)), .bl (decide (5 = 2))] ++ [.bl (decide (1 = 2)), .bl (decide (3 = 2)), .bl (decide (4 = 2))])) h3)
      have D3 := DictOk.same D0 e3
      have g3 : upd (upd H1 l2 (.lst [.bl (decide (1 = 2)), .bl (decide (3 = 2)), .bl (decide (4 = 2))])) l3 (.lst ([.bl (decide (0 = 2)), .bl (decide (2 = 2)), .bl (decide (5 = 2))] ++ [.bl (decide (1 = 2)), .bl (decide (3 = 2)), .bl (decide (4 = 2))])) l3 = some (.lst ([.bl (decide (0 = 2)), .bl (decide (2 = 2)), .bl (decide (5 = 2))] ++ [.bl (decide (1 = 2)), .bl (decide (3 = 2)), .bl (decide (4 = 2))])) := upd_same
      generalize upd (upd H1 l2 (.lst [.bl (decide (1 = 2)), .bl (decide (3 = 2)), .bl (decide (4 = 2))])) l3 (.lst ([.bl (decide (0 = 2)), .bl (decide (2 = 2)), .bl (decide (5 = 2))] ++ [.bl (decide (1 = 2)), .bl (decide (3 = 2)), .bl (decide (4 = 2))])) = H3 at *
      refine ⟨_, rfl, .ty "ValueError", _, _, rfl, (fun u r => r), ve, D3, _, rfl, ?_⟩
      refine if_f rfl ?_
      refine ⟨_, rfl, .inl ⟨rfl, _, SqL.of g3⟩, l3, _, _, rfl, rfl, SqL.of g3, rfl, rfl, rfl, _, rfl, ?_⟩
      refine if_f (by decide +kernel) ?_
      refine ⟨_, rfl, _, rfl, l3, _, rfl, SqL.of g3, fun l4 h4 => ?_⟩
      refine ⟨l4, _, rfl, .inl (SqL.of upd_same), rfl, rfl, _, rfl, ?_⟩
      refine if_f (by decide +kernel) ?_
      have e4 := e3.trans (Same.newp (o := .lst (cutV ([.bl (decide (0 = 2)), .bl (decide (2 = 2)), .bl (decide (5 = 2))] ++ [.bl (decide (1 = 2)), .bl (decide (3 = 2)), .bl (decide (4 = 2))]) (some 3) none)) h4)
      have g4 := (Same.newp (o := .lst (cutV ([.bl (decide (0 = 2)), .bl (decide (2 = 2)), .bl (decide (5 = 2))] ++ [.bl (decide (1 = 2)), .bl (decide (3 = 2)), .bl (decide (4 = 2))]) (some 3) none)) h4) _ _ g3
      refine ⟨_, rfl, l3, _, 0, _, rfl, rfl, SqL.of g4, rfl, _, rfl, ?_⟩
      refine if_f (by decide) ?_
      refine ⟨_, rfl, l3, _, 1, _, rfl, rfl, SqL.of g4, rfl, _, rfl, ?_⟩
      refine if_t (by decide) ?_
      refine ⟨_, rfl, rfl, dd, _, _, rfl, e4 _ _ hx, rfl, (by show 2 ≤ sizeLine; decide), fun t ht => ?_⟩
      exact k _ t (e4.trans (Same.newp ht)) upd_same
theorem sc__law_said : FnScope ["_law_here", "_law_names_here", "_law_found", "_law_e"] ["_law_here", "_law_names_here"] (defScope s__law_said) := ⟨rfl, rfl, rfl, by decide +kernel, rfl, by decide +kernel, by decide +kernel⟩
theorem lo_said (T : Tx K mg C M L) : OkF P w K mg base CX0 9 "_law_said" ["_law_here", "_law_names_here"] (spSaidQ K L) := by
  refine T.d_said.ok sc__law_said (fun _ _ _ _ _ _ us hl => match us, hl with | [_, _], _ => rfl) (fun vs H Q E h => ?_) (fun f cdv Ar outer st H vs Q E hr h => ?_)
  · obtain ⟨x, y, n, v, rfl, _⟩ := h
    rfl
  · obtain ⟨x, y, n, v, rfl, aq, k⟩ := h
    refine ⟨_, (pss_cons (ps_set (i := 2) sc__law_said.nd rfl (Or.inl rfl) pe_non) (pss_cons (ps_try_as (i := 3) (tb := fun W => tAsg (tCallS (spCostOf K C L) (WE W) (tCons (tVar 0) (tCons (tVar 1) tNil))) (gName 2)) (ts := fun a cls d => tRet (tCall (spClassQ C a cls d) [] E0 (tCons (tVar 3) tNil))) (Wout := fun _ _ _ _ => False) rfl rfl sc__law_said.nd rfl rfl ⟨rfl, by decide, .inl T.gM⟩ takes0 (fun W pn xe tk _ => pss_one (ps_set (i := 2) sc__law_said.nd rfl (Or.inl rfl) (pe_fS (ro_cost_of T.toRx) (hr.mono (by decide)) (fun σ => passAt tk σ) (pa_cons (pv 0) (pa_cons (pv 1) pa_nil))))) (fun a oe cls d pn hz hf => pss_one (ps_ret (pe_x (lo_class T) (hr.mono (by decide)) hz hf (pa_cons (pv 3) pa_nil))))) (pss_one (ps_ret (pe_tup (pa_cons pe_str (pa_cons (pv 2) pa_nil))))))), ?_⟩
    refine ⟨_, rfl, _, rfl, x, y, n, v, rfl, aq, fun n9 d H1 e1 hd hx => ?_, fun n9 H1 e1 => ?_⟩
    · have nn : n = 0 ∨ n = 2 := by
        cases aq with
        | lay => exact .inl rfl
        | nam => exact .inl rfl
        | lacks => exact .inr rfl
        | told => exact absurd rfl n9
      have exm : PySem.W.exmOne K (.ref (C n)) (.ref M) = some true := by
        rw [(T.e n (by omega)).exm T.eM]
        simp
      refine ⟨true, exm, fun _ a ha => ?_, fun z => Bool.noConfusion z⟩
      exact ⟨_, rfl, n, v, d, nn, rfl, rfl, hx, rfl, fun H2 t2 e2 h2 => k H2 t2 (e1.trans e2) h2⟩
    · subst n9
      refine ⟨_, rfl, (by show 2 ≤ sizeLine; decide), fun t ht => ?_⟩
      exact k _ t (e1.trans (Same.newp ht)) upd_same
theorem sc__law_due : FnScope ["_law_m", "_law_names_here", "_law_total", "_law_name_here"] ["_law_m", "_law_names_here"] (defScope s__law_due) := ⟨rfl, rfl, rfl, by decide +kernel, rfl, by decide +kernel, by decide +kernel⟩
theorem lo_due (T : Tx K mg C M L) : OkF P w K mg base CX0 1 "_law_due" ["_law_m", "_law_names_here"] (spDueM) := by
  refine T.d_due.ok sc__law_due (fun _ _ _ _ _ _ us hl => match us, hl with | [_, _], _ => rfl) (fun vs H Q E h => ?_) (fun f cdv Ar outer st H vs Q E hr h => ?_)
  · obtain ⟨m, c, a, l, b, x, S, xs, rfl, _⟩ := h
    rfl
  · obtain ⟨m, c, a, l, b, x, S, xs, rfl, W, hx, k⟩ := h
    have hu := hu_of hr
    obtain ⟨kv, hl, hk⟩ := W.ln
    refine ⟨_, (pss_cons (ps_set (i := 2) sc__law_due.nd rfl (Or.inl rfl) pe_int) (pss_cons (ps_for PassesOwn.never rfl (pi_list (pv 1)) (pg_name (i := 3) sc__law_due.nd rfl (Or.inl rfl)) (pss_cons (ps_if (pw_or (pt_cmp (pc_dnotin hu (pv 3) (pe_dget hu (pv 0) pe_str (fun _ _ => rfl)))) (pw_or1 (pt_cmpR op_eq (pe_ix ix_tup (pe_dget hu (pe_dget hu (pv 0) pe_str (fun _ _ => rfl)) (pv 3) (fun _ _ => rfl)) pe_int (fun _ _ => rfl)) pe_int (nomark _)))).pt (pss_one (ps_ret (pe_tup (pa_cons pe_str (pa_cons (pv 3) pa_nil))))) pss_nil) (pss_one (ps_aug (i := 2) sc__law_due.nd rfl (Or.inl rfl) (pe_ix ix_tup (pe_dget hu (pe_dget hu (pv 0) pe_str (fun _ _ => rfl)) (pv 3) (fun _ _ => rfl)) pe_int (fun _ _ => rfl)) ip_add)))) (pss_one (ps_ret (pe_tup (pa_cons pe_str (pa_cons (pv 2) pa_nil))))))), ?_⟩
    refine ⟨_, rfl, x, rfl, ⟨_, SqL.of hx⟩, ?_⟩
    refine for_list (K := K) (a := x) (xs := xs.map V.str) (fun i σ G => G = H ∧ (∃ y : Option V, σ = [some (.ref m), some (.ref x), some (.int (costs S (xs.take i))), y]) ∧ ∀ z ∈ xs.take i, z ∈ swOf S) ⟨rfl, ⟨_, rfl⟩, by intro z h; cases h⟩ (fun i σ G _ z => by rw [z.1]; exact SqL.of hx) ?_ ?_
    · rintro i y σ G hi ⟨rfl, ⟨y0, rfl⟩, tk⟩
      rw [List.getElem?_map] at hi
      obtain ⟨z, ez, rfl⟩ := Option.map_eq_some_iff.mp hi
      have tk1 : xs.take (i + 1) = xs.take i ++ [z] := by
        rw [List.take_add_one, ez]
        rfl
      have lacks : z ∉ swOf S → (2 ≤ sizeLine ∧ ∀ t, G t = none → Q (.ref t) (upd G t (.tup [.str "Lacks", .str z]))) := fun nz => by
        have f := firstOut_take ez tk nz
        refine ⟨by decide, fun t ht => k _ t (Same.newp ht) ?_⟩
        rw [outN_some f, outV_some f]
        exact upd_same
      have g := DGet.k (k := Sum.inr z) hl
      refine ⟨_, rfl, _, rfl, m, _, rfl, dget_of W.top (ktop_l c a l b), l, _, rfl, g, _, rfl, ?_⟩
      rw [hk.has]
      cases el : look S.lines z with
      | none =>
        refine if_t rfl ⟨_, rfl, ?_⟩
        exact lacks fun w => absurd (swOf_sub w) (look_none.mp el)
      | some e =>
        refine if_f rfl ?_
        obtain ⟨v, ev, t, rfl, ht⟩ := hk.get el
        have ge := dget_of (z := z) hl ev
        refine ⟨_, rfl, m, _, rfl, dget_of W.top (ktop_l c a l b), _, rfl, l, _, rfl, ge, t, _, 2, _, rfl, rfl, SqT.of ht, rfl, rfl, _, rfl, ?_⟩
        have si := sw_iff W.ok el
        obtain ⟨_, _, _, ic⟩ := W.ok.lI (z, e) (look_mem el)
        have c0 : 0 ≤ e.2.2 := by
          have ic' : okCost e.2.2 = true := ic
          unfold okCost at ic'
          rw [Bool.and_eq_true] at ic'
          exact of_decide_eq_true ic'.1
        by_cases e0 : V.int e.2.2 = V.int 0
        · refine if_t (decide_eq_true e0) ⟨_, rfl, ?_⟩
          exact lacks fun w => by
            have := si.mp w
            injection e0 with e0
            omega
        · have pos : 0 < e.2.2 := by
            have : e.2.2 ≠ 0 := fun w => e0 (by rw [w])
            omega
          refine if_f (decide_eq_false e0) ?_
          refine ⟨_, rfl, _, rfl, m, _, rfl, dget_of W.top (ktop_l c a l b), _, rfl, l, _, rfl, ge, t, _, 2, _, rfl, rfl, SqT.of ht, rfl, _, _, rfl, rfl, rfl, ⟨some (V.str z), ?_⟩, fun x' hx' => ?_⟩
          · rw [tk1, costs_snoc, costIn_of el]
            rfl
          · rw [tk1] at hx'
            rcases List.mem_append.mp hx' with w | w
            · exact tk x' w
            · rw [List.mem_singleton.mp w]
              exact si.mpr pos
    · rintro σ G ⟨rfl, ⟨y0, rfl⟩, tk⟩
      rw [List.length_map, List.take_length] at tk ⊢
      have f := firstOut_none tk
      refine ⟨_, rfl, (by show 2 ≤ sizeLine; decide), fun t ht => k _ t (Same.newp ht) ?_⟩
      rw [outN_none f, outV_none f]
      exact upd_same
theorem sc__law_asked : FnScope ["_law_bag_here", "_law_m", "_law_switches", "_law_name_here", "_law_way"] ["_law_bag_here", "_law_m"] (defScope s__law_asked) := ⟨rfl, rfl, rfl, by decide +kernel, rfl, by decide +kernel, by decide +kernel⟩
theorem lo_asked (T : Tx K mg C M L) : OkF P w K mg base CX0 4 "_law_asked" ["_law_bag_here", "_law_m"] (spAskedM) := by
  refine T.d_asked.ok sc__law_asked (fun _ _ _ _ _ _ us hl => match us, hl with | [_, _], _ => rfl) (fun vs H Q E h => ?_) (fun f cdv Ar outer st H vs Q E hr h => ?_)
  · obtain ⟨p, q, m, c, a, l, b, S, rfl, _⟩ := h
    rfl
  · obtain ⟨p, q, m, c, a, l, b, S, rfl, B, W, k⟩ := h
    have hu := hu_of hr
    obtain ⟨k2, l1, l2⟩ := W.ln
    have hS := W.ok
    refine ⟨_, (pss_cons (ps_lock (ps_setLc (i := 2) (own := [("_law_name_here", 3)]) rfl sc__law_asked.nd rfl rfl (sw_true rfl rfl rfl (by decide +kernel)) (pi_keys (pe_dget hu (pv 1) pe_str (fun _ _ => rfl))) (blkOk_by (N := ["_law_bag_here", "_law_m", "_law_switches", "_law_name_here", "_law_way"]) (sc := (defScope s__law_asked)) (by decide +kernel)) (fun _ _ _ _ _ => (pg_name (i := 3) sc__law_asked.nd rfl (Or.inl rfl))) (fun _ _ _ _ _ => (pts_one (pt_cmpR op_gt (pe_ix (ix_tupK (K := K) rfl) (pe_dget hu (pe_dget hu (pv 1) pe_str (fun _ _ => rfl)) (pv 3) (fun _ _ => rfl)) pe_int (fun _ _ => rfl)) pe_int (nomark _)))) (fun _ _ _ _ _ => (pv 3)))) (pss_cons (ps_set (i := 4) sc__law_asked.nd rfl (Or.inl rfl) (pe_f (ok_take T) (hr.mono (by decide)) pass0 (pa_cons (pv 0) (pa_cons pe_int pa_nil)))) (pss_cons (ps_if (pt_cmpR op_eq (pv 4) pe_int (nomark _)) (pss_one (ps_ret (pe_revL (pv 2)))) pss_nil) (pss_one (ps_ret (pe_f (lo_some T) (hr.mono (by decide)) pass0 (pa_cons (pv 0) (pa_cons (pv 2) (pa_cons (pe_ix ix_list (pe_lst (pa_cons pe_int (pa_cons pe_int (pa_cons pe_int pa_nil)))) (pe_op op_sub (pv 4) pe_int) (fun _ _ => rfl)) pa_nil))))))))), ?_⟩
    refine ⟨l, _, l1, True.intro, fun od => ?_⟩
    have mL : upd H l (.frz od (.dK k2)) m = some (.dK (ktop c a l b)) := (upd_ne W.mne).trans W.top
    refine ⟨_, rfl, m, _, rfl, dget_of mL (ktop_l c a l b), l, od, rfl, .inl ⟨k2, upd_same, fun D hD => ?_⟩⟩
    refine lc_it walk_keys (fun i H1 => Same (upd H l (.frz od (.dK k2))) H1 ∧ H1 D = some (.lst ((keys ((S.lines.take i).filter fun e => decide (0 < e.2.2.2))).map V.str))) ⟨Same.newp hD, upd_same⟩ (fun _ _ _ q => q.1 _ _ upd_same) ?_ ?_
    · rintro i x H1 H2 hi ⟨e2, h1⟩ ⟨rfl, kk, vv, ek, rfl⟩
      obtain ⟨q, eq, e3, t, et, ht⟩ := Kr.at l2 ek
      have e3' : kk = Sum.inr q.1 := e3
      have et' : vv = .ref t := et
      subst e3' et'
      have ev : valV k2 (Sum.inr q.1) = some (.ref t) := valV_at l2 hS.lN ek
      have ht2 : H2 t = some (.tup [.str q.2.1, .str q.2.2.1, .int q.2.2.2]) := e2 _ _ ((upd_ne (ne_of ht l1 (by intro w; cases w))).trans ht)
      have tk : S.lines.take (i + 1) = S.lines.take i ++ [q] := by
        rw [List.take_add_one, eq]
        rfl
      refine ⟨rfl, _, rfl, m, _, rfl, dget_of (e2 _ _ mL) (ktop_l c a l b), _, rfl, l, _, rfl, dget_rd (.inr ⟨od, e2 _ _ upd_same⟩) ev, t, _, 2, _, rfl, rfl, SqT.of ht2, rfl, _, _, rfl, rfl, _, rfl, ?_⟩
      by_cases hb : 0 < q.2.2.2
      · refine if_t (decide_eq_true hb) ⟨_, rfl, _, h1, ?_, fun c u w => ?_, ?_⟩
        · rw [List.length_map, keys, List.length_map]
          refine small1000 ?_
          have a1 := List.length_filter_le (fun e : Str × LineV => decide (0 < e.2.2.2)) (S.lines.take i)
          rw [List.length_take] at a1
          have := hS.lL
          omega
        · rw [upd_ne (ne_of_none w hD)]
          exact e2 _ _ w
        · rw [upd_same, tk, List.filter_append, List.filter_cons, if_pos (decide_eq_true hb), List.filter_nil, show keys (List.filter (fun e : Str × LineV => decide (0 < e.2.2.2)) (S.lines.take i) ++ [q]) = keys (List.filter (fun e : Str × LineV => decide (0 < e.2.2.2)) (S.lines.take i)) ++ [q.1] by simp [keys], List.map_append]
          rfl
      · refine if_f (decide_eq_false hb) ⟨e2, ?_⟩
        rw [tk, List.filter_append, List.filter_cons, if_neg (by simp [hb]), List.filter_nil, List.append_nil]
        exact h1
    · rintro H1 ⟨e2, h1⟩
      have nDl : D ≠ l := fun w => by
        rw [w, upd_same] at hD
        cases hD
      have DN : H D = none := by
        rw [upd_ne nDl] at hD
        exact hD
      rw [l2.len, List.take_length] at h1
      have sU : Same H (upd H1 l (.dK k2)) := same_unlock l1 e2
      have hU : upd H1 l (.dK k2) D = some (.lst ((swOf S).map V.str)) := (upd_ne nDl).trans h1
      refine ⟨e2 _ _ upd_same, ?_⟩
      generalize upd H1 l (.dK k2) = G at sU hU ⊢
      have BG := B.same sU
      refine ⟨_, rfl, p, q, 4, rfl, BG, by decide, by decide, fun v G1 v0 v1 B1 b1 => ?_⟩
      have k1 : Keep [p] G G1 := Keep.bag BG B1 b1 (by simp)
      have K1 := (Keep.of (ms := [p]) sU).trans k1
      have hG := k1.flat _ _ hU (flat_strs _)
      have sn := sw_nodup hS
      refine ⟨_, rfl, rfl, _, rfl, ?_⟩
      by_cases e0 : V.int v = V.int 0
      · refine if_t (decide_eq_true e0) ⟨_, rfl, D, _, rfl, SqL.of hG, fun r4 hr4 => ?_⟩
        exact k r4 (swOf S).reverse _ (by rw [upd_same, List.map_reverse]) ((List.reverse_perm _).nodup_iff.mpr sn) (fun y m => List.mem_reverse.mp m) (B1.same (Same.newp hr4)) (K1.trans (Keep.of (Same.newp hr4))) (K1.has _ hr4)
      · have v1' : 1 ≤ v := by
          have : v ≠ 0 := fun w => e0 (by rw [w])
          omega
        obtain ⟨y, ey, y0, y12⟩ := pick3 v1' v1
        refine if_f (decide_eq_false e0) ⟨_, rfl, _, rfl, (by show 3 ≤ sizeLine; decide), fun l3 hl3 => ⟨_, rfl, _, _, rfl, rfl, l3, _, _, _, rfl, rfl, SqL.of upd_same, ey, ?_⟩⟩
        have s3 : Same G1 (upd G1 l3 (.lst [V.int 0, V.int 3, V.int 12])) := Same.newp hl3
        refine ⟨p, q, D, swOf S, y, rfl, B1.same s3, s3 _ _ hG, swOf_ok hS, by have := swOf_len hS; omega, y0, by omega, fun b2 ys G2 h2 nd sb B2 k2' bn => ?_⟩
        exact k b2 ys G2 h2 nd sb B2 ((K1.trans (Keep.of s3)).trans k2') (K1.has _ (s3.free bn))
end
end SM
namespace SM
open PySem PySem.Spec PyProof.Rows L2
open Evl (tCut pss_cut)
section
variable {P : Program} {w : World} {K : PySem.W.Frag} {mg : Str → Option Value} {base : Heap} {C : Nat → Addr} {M L : Addr}
theorem sc__law_odd_list : FnScope ["_law_bag_here", "_law_names_here", "_law_odd", "_law_letters", "_law_way", "_law_at", "_law_letter"] ["_law_bag_here", "_law_names_here"] (defScope s__law_odd_list) := ⟨rfl, rfl, rfl, by decide +kernel, rfl, by decide +kernel, by decide +kernel⟩
theorem lo_odd_list (T : Tx K mg C M L) : OkF P w K mg base CX0 4 "_law_odd_list" ["_law_bag_here", "_law_names_here"] (spOddM K) := by
  refine T.d_odd_list.ok sc__law_odd_list (fun _ _ _ _ _ _ us hl => match us, hl with | [_, _], _ => rfl) (fun vs H Q E h => ?_) (fun f cdv Ar outer st H vs Q E hr h => ?_)
  · obtain ⟨p, q, x, xs, rfl, _⟩ := h
    rfl
  · obtain ⟨p, q, x, xs, rfl, B, hx, okx, l50, k⟩ := h
    have hu := hu_of hr
    refine ⟨_, (pss_cons (ps_set (i := 2) sc__law_odd_list.nd rfl (Or.inl rfl) (pe_lst (pa_cons pe_non (pa_cons pe_int (pa_cons pe_str (pa_cons (pe_tup (pa_cons pe_str pa_nil)) (pa_cons (pe_lst (pa_cons pe_str (pa_cons pe_str pa_nil))) (pa_cons (pe_lst (pa_cons pe_str (pa_cons pe_int pa_nil))) (pa_cons (pe_lst (pa_cons pe_str pa_nil)) (pa_cons (pe_lst (pa_cons pe_str pa_nil)) (pa_cons (pe_lst (pa_cons pe_str pa_nil)) (pa_cons (pe_lst (pa_cons pe_bl pa_nil)) (pa_cons (pe_disp (pps_cons pe_str pe_int pps_nil) (by rfl) (by rfl) (fun z => by cases z) (by decide)) pa_nil))))))))))))) (pss_cons (ps_set (i := 3) sc__law_odd_list.nd rfl (Or.inl rfl) pe_str) (pss_cons (ps_set (i := 4) sc__law_odd_list.nd rfl (Or.inl rfl) (pe_f (ok_take T) (hr.mono (by decide)) pass0 (pa_cons (pv 0) (pa_cons pe_int pa_nil)))) (pss_cons (ps_set (i := 5) sc__law_odd_list.nd rfl (Or.inl rfl) (pe_f (ok_take T) (hr.mono (by decide)) pass0 (pa_cons (pv 0) (pa_cons (pe_op op_add (pe_callB call_len_seq (by rfl) T.b_len PySem.boot_len (pa_cons (pv 1) pa_nil)) pe_int) pa_nil)))) (pss_cons (ps_if (pt_cmpR op_eq (pv 4) pe_int (nomark _)) (pss_one (ps_ret (pe_slice sl_list (pe_op op_cat (pe_op op_cat (pe_lc (own := [("_law_letter", 6)]) rfl sc__law_odd_list.nd (pi_str (pv 3)) (blkOk_by (N := ["_law_bag_here", "_law_names_here", "_law_odd", "_law_letters", "_law_way", "_law_at", "_law_letter"]) (sc := (defScope s__law_odd_list)) (by decide +kernel)) (fun _ _ _ _ _ => (pg_name (i := 6) sc__law_odd_list.nd rfl (Or.inl rfl))) (fun _ _ _ _ _ => pts_nil) (fun _ _ _ _ _ => (pe_op op_add_str (pv 6) pe_str))) (pe_lc (own := [("_law_letter", 6)]) rfl sc__law_odd_list.nd (pi_str (pv 3)) (blkOk_by (N := ["_law_bag_here", "_law_names_here", "_law_odd", "_law_letters", "_law_way", "_law_at", "_law_letter"]) (sc := (defScope s__law_odd_list)) (by decide +kernel)) (fun _ _ _ _ _ => (pg_name (i := 6) sc__law_odd_list.nd rfl (Or.inl rfl))) (fun _ _ _ _ _ => pts_nil) (fun _ _ _ _ _ => (pe_op op_add_str pe_str (pv 6))))) (pe_callTy (call_listStr rfl) (by rfl) T.b_list (by decide +kernel) (pa_cons (pv 3) pa_nil))) po_none (po_some pe_int)))) pss_nil) (pss_cons (ps_if (pt_cmpR op_eq (pv 4) pe_int (nomark _)) (pss_one (ps_ret (pe_op op_cat (pe_op op_cat (pe_slice sl_list (pv 1) po_none (po_some (pv 5))) (pe_lst (pa_cons pe_str pa_nil))) (pe_slice sl_list (pv 1) (po_some (pv 5)) po_none)))) pss_nil) (pss_one (ps_ret (pe_ix ix_list (pv 2) (pe_f (ok_take T) (hr.mono (by decide)) pass0 (pa_cons (pv 0) (pa_cons pe_int pa_nil))) (fun _ _ => rfl)))))))))), ?_⟩
    refine ⟨(by show 1 ≤ sizeLine; decide), fun x1 hx1 => ?_⟩
    have s1 := Same.newp (o := .tup [.str "a"]) hx1
    have f1 : upd H x1 (.tup [.str "a"]) x1 = some (.tup [.str "a"]) := upd_same
    have e1 : Same H _ := s1
    generalize upd H x1 (.tup [.str "a"]) = H1 at s1 f1 e1  ⊢
    clear s1
    refine ⟨(by show 2 ≤ sizeLine; decide), fun x2 hx2 => ?_⟩
    have s2 := Same.newp (o := .lst [.str "a", .str "a"]) hx2
    have f2 : upd H1 x2 (.lst [.str "a", .str "a"]) x2 = some (.lst [.str "a", .str "a"]) := upd_same
    replace f1 := s2 _ _ f1
    have e2 : Same H _ := e1.trans s2
    clear e1
    generalize upd H1 x2 (.lst [.str "a", .str "a"]) = H2 at s2 f2 e2 f1 ⊢
    clear s2
    refine ⟨(by show 2 ≤ sizeLine; decide), fun x3 hx3 => ?_⟩
    have s3 := Same.newp (o := .lst [.str "b", .int 7]) hx3
    have f3 : upd H2 x3 (.lst [.str "b", .int 7]) x3 = some (.lst [.str "b", .int 7]) := upd_same
    replace f1 := s3 _ _ f1
    replace f2 := s3 _ _ f2
    have e3 : Same H _ := e2.trans s3
    clear e2
    generalize upd H2 x3 (.lst [.str "b", .int 7]) = H3 at s3 f3 e3 f1 f2 ⊢
    clear s3
    refine ⟨(by show 1 ≤ sizeLine; decide), fun x4 hx4 => ?_⟩
    have s4 := Same.newp (o := .lst [.str "A"]) hx4
    have f4 : upd H3 x4 (.lst [.str "A"]) x4 = some (.lst [.str "A"]) := upd_same
    replace f1 := s4 _ _ f1
    replace f2 := s4 _ _ f2
    replace f3 := s4 _ _ f3
    have e4 : Same H _ := e3.trans s4
    clear e3
    generalize upd H3 x4 (.lst [.str "A"]) = H4 at s4 f4 e4 f1 f2 f3 ⊢
    clear s4
    refine ⟨(by show 1 ≤ sizeLine; decide), fun x5 hx5 => ?_⟩
    have s5 := Same.newp (o := .lst [.str ""]) hx5
    have f5 : upd H4 x5 (.lst [.str ""]) x5 = some (.lst [.str ""]) := upd_same
    replace f1 := s5 _ _ f1
    replace f2 := s5 _ _ f2
    replace f3 := s5 _ _ f3
    replace f4 := s5 _ _ f4
    have e5 : Same H _ := e4.trans s5
    clear e4
    generalize upd H4 x5 (.lst [.str ""]) = H5 at s5 f5 e5 f1 f2 f3 f4 ⊢
    clear s5
    refine ⟨(by show 1 ≤ sizeLine; decide), fun x6 hx6 => ?_⟩
    have s6 := Same.newp (o := .lst [.str "abcdefghi"]) hx6
    have f6 : upd H5 x6 (.lst [.str "abcdefghi"]) x6 = some (.lst [.str "abcdefghi"]) := upd_same
    replace f1 := s6 _ _ f1
    replace f2 := s6 _ _ f2
    replace f3 := s6 _ _ f3
    replace f4 := s6 _ _ f4
    replace f5 := s6 _ _ f5
    have e6 : Same H _ := e5.trans s6
    clear e5
    generalize upd H5 x6 (.lst [.str "abcdefghi"]) = H6 at s6 f6 e6 f1 f2 f3 f4 f5 ⊢
    clear s6
    refine ⟨(by show 1 ≤ sizeLine; decide), fun x7 hx7 => ?_⟩
    have s7 := Same.newp (o := .lst [.bl true]) hx7
    have f7 : upd H6 x7 (.lst [.bl true]) x7 = some (.lst [.bl true]) := upd_same
    replace f1 := s7 _ _ f1
    replace f2 := s7 _ _ f2
    replace f3 := s7 _ _ f3
    replace f4 := s7 _ _ f4
    replace f5 := s7 _ _ f5
    replace f6 := s7 _ _ f6
    have e7 : Same H _ := e6.trans s7
    clear e6
    generalize upd H6 x7 (.lst [.bl true]) = H7 at s7 f7 e7 f1 f2 f3 f4 f5 f6 ⊢
    clear s7
    intro m hm
    have hmn := e7.free hm
    have f8 : upd (upd H7 m (.dK [])) m (.dK (mergeK [] [(Sum.inr "a", .int 1)])) m = some (.dK (mergeK [] [(Sum.inr "a", .int 1)])) := upd_same
    refine ⟨upd_same, [(Sum.inr "a", .int 1)], rfl, (by show 1 ≤ 15; decide), ?_⟩
    have s8 : Same H7 (upd (upd H7 m (.dK [])) m (.dK (mergeK [] [(Sum.inr "a", .int 1)]))) := fun b u e => by
      rw [upd_ne (ne_of_none e hm), upd_ne (ne_of_none e hm)]
      exact e
    replace f1 := s8 _ _ f1
    replace f2 := s8 _ _ f2
    replace f3 := s8 _ _ f3
    replace f4 := s8 _ _ f4
    replace f5 := s8 _ _ f5
    replace f6 := s8 _ _ f6
    replace f7 := s8 _ _ f7
    have e8 : Same H _ := e7.trans s8
    clear e7
    generalize upd (upd H7 m (.dK [])) m (.dK (mergeK [] [(Sum.inr "a", .int 1)])) = H8 at s8 f8 e8 f1 f2 f3 f4 f5 f6 f7 ⊢
    clear s8
    refine ⟨(by show 11 ≤ sizeLine; decide), fun ll hll => ?_⟩
    have s9 := Same.newp (o := .lst [.non, .int 5, .str "a", .ref x1, .ref x2, .ref x3, .ref x4, .ref x5, .ref x6, .ref x7, .ref m]) hll
    have f9 : upd H8 ll (.lst [.non, .int 5, .str "a", .ref x1, .ref x2, .ref x3, .ref x4, .ref x5, .ref x6, .ref x7, .ref m]) ll = some (.lst [.non, .int 5, .str "a", .ref x1, .ref x2, .ref x3, .ref x4, .ref x5, .ref x6, .ref x7, .ref m]) := upd_same
    replace f1 := s9 _ _ f1
    replace f2 := s9 _ _ f2
    replace f3 := s9 _ _ f3
    replace f4 := s9 _ _ f4
    replace f5 := s9 _ _ f5
    replace f6 := s9 _ _ f6
    replace f7 := s9 _ _ f7
    replace f8 := s9 _ _ f8
    have e9 : Same H _ := e8.trans s9
    clear e8
    generalize upd H8 ll (.lst [.non, .int 5, .str "a", .ref x1, .ref x2, .ref x3, .ref x4, .ref x5, .ref x6, .ref x7, .ref m]) = H9 at s9 f9 e9 f1 f2 f3 f4 f5 f6 f7 f8 ⊢
    clear s9
    have B9 := B.same e9
    have T9 : TyK K H H9 := TyK.of e9
    refine ⟨_, rfl, p, q, 4, rfl, B9, by decide, by decide, fun w Ha w0 w1 Ba ba => ?_⟩
    have ka : Keep [p] H9 Ha := Keep.bag B9 Ba ba (by simp)
    have Ta := T9.trans (TyK.bag B9 Ba ba)
    have hxa := ((Keep.of (ms := [p]) e9).trans ka).flat _ _ hx (flat_strs _)
    refine ⟨_, rfl, _, rfl, x, _, rfl, .inl (SqL.of hxa), _, _, rfl, rfl, p, q, _, rfl, Ba, by rw [List.length_map]; omega, by rw [List.length_map]; omega, fun at_ Hb t0 t1 Bb bb => ?_⟩
    rw [List.length_map] at t1
    have kb := ka.trans (Keep.bag (ms := [p]) Ba Bb bb (by simp))
    have Tb := Ta.trans (TyK.bag Ba Bb bb)
    have Kb := (Keep.of (ms := [p]) e9).trans kb
    have hxb := Kb.flat _ _ hx (flat_strs _)
    clear Ta T9 ka hxa
    refine ⟨_, rfl, rfl, _, rfl, ite2 (fun _ => ?_) fun _ => ⟨_, rfl, rfl, _, rfl, ite2 (fun _ => ?_) fun _ => ?_⟩⟩
    · have lz : ∀ c : Nat, Str.length (⟨#[c]⟩ : Str) + Str.length ("qq" : Str) ≤ sizeLine := fun c => by show 1 + 2 ≤ sizeLine; decide
      have lz2 : ∀ c : Nat, Str.length ("q" : Str) + Str.length (⟨#[c]⟩ : Str) ≤ sizeLine := fun c => by show 1 + 1 ≤ sizeLine; decide
      have l26 : ∀ f : Nat → Str, (lettersL.cps.toList.map f).length = 26 := fun f => by rw [List.length_map, lettersL_len]
      refine ⟨_, rfl, lettersL, rfl, fun D2 hD2 => ?_⟩
      refine lc_it walk_str (fun i G => Same Hb G ∧ G D2 = some (.lst (((lettersL.cps.toList.map fun c => (⟨#[c]⟩ : Str) ++ "qq").take i).map V.str))) ⟨Same.newp hD2, upd_same⟩ (fun _ _ _ _ => True.intro) ?_ ?_
      · rintro i y G G1 hi ⟨s1, g1⟩ ⟨rfl, c, hc, rfl⟩
        refine ⟨rfl, _, rfl, _, _, rfl, rfl, lz c, _, g1, ?_, fun a u e => ?_, ?_⟩
        · rw [List.length_map, List.length_take, l26]
          exact small1000 (by omega)
        · rw [upd_ne (ne_of_none e hD2)]
          exact s1 a u e
        · have hc' : lettersL.cps.toList[i]? = some c := by rw [Array.getElem?_toList]; exact hc
          rw [upd_same, qq_take, qq_take, List.take_add_one, hc', List.map_append, List.map_append]
          rfl
      rintro G ⟨s1, g1⟩
      rw [letters_all] at g1
      refine ⟨_, rfl, lettersL, rfl, fun D4 hD4 => ?_⟩
      refine lc_it walk_str (fun i G3 => Same G G3 ∧ G3 D4 = some (.lst (((lettersL.cps.toList.map fun c => ("q" : Str) ++ (⟨#[c]⟩ : Str)).take i).map V.str))) ⟨Same.newp hD4, upd_same⟩ (fun _ _ _ _ => True.intro) ?_ ?_
      · rintro i y G3 G1 hi ⟨s3, g3⟩ ⟨rfl, c, hc, rfl⟩
        refine ⟨rfl, _, rfl, _, _, rfl, rfl, lz2 c, _, g3, ?_, fun a u e => ?_, ?_⟩
        · rw [List.length_map, List.length_take, l26]
          exact small1000 (by omega)
        · rw [upd_ne (ne_of_none e hD4)]
          exact s3 a u e
        · have hc' : lettersL.cps.toList[i]? = some c := by rw [Array.getElem?_toList]; exact hc
          rw [upd_same, qq_take, qq_take, List.take_add_one, hc', List.map_append, List.map_append]
          rfl
      rintro G3 ⟨s3, g3⟩
      rw [letters_all] at g3
      have l1 := l26 fun c => (⟨#[c]⟩ : Str) ++ "qq"
      have l2 := l26 fun c => ("q" : Str) ++ (⟨#[c]⟩ : Str)
      have g1' := s3 _ _ g1
      generalize (lettersL.cps.toList.map fun c => (⟨#[c]⟩ : Str) ++ "qq") = w1 at g1' l1
      generalize (lettersL.cps.toList.map fun c => ("q" : Str) ++ (⟨#[c]⟩ : Str)) = w2 at g3 l2
      refine ⟨D2, D4, _, _, rfl, rfl, g1', g3, by rw [List.length_map, List.length_map, l1, l2]; decide, fun D5 hD5 => ?_⟩
      have s5 := Same.newp (o := .lst (w1.map V.str ++ w2.map V.str)) hD5
      have g5 : upd G3 D5 (.lst (w1.map V.str ++ w2.map V.str)) D5 = some (.lst (w1.map V.str ++ w2.map V.str)) := upd_same
      have S5 := (s1.trans s3).trans s5
      generalize upd G3 D5 (.lst (w1.map V.str ++ w2.map V.str)) = G5 at g5 S5 ⊢
      refine ⟨_, rfl, lettersL, rfl, (by show lettersL.cps.size ≤ sizeLine; decide +kernel), fun D6 hD6 => ?_⟩
      have g6 : upd G5 D6 (.lst ((signsOf lettersL).map V.str)) D6 = some (.lst ((signsOf lettersL).map V.str)) := upd_same
      have g5' := (Same.newp (o := .lst ((signsOf lettersL).map V.str)) hD6) _ _ g5
      have S6 := S5.trans (Same.newp (o := .lst ((signsOf lettersL).map V.str)) hD6)
      have l3 : (signsOf lettersL).length = 26 := by rw [signsOf, List.length_map, lettersL_len]
      generalize upd G5 D6 (.lst ((signsOf lettersL).map V.str)) = G6 at g6 g5' S6 ⊢
      generalize signsOf lettersL = w3 at g6 l3
      refine ⟨D5, D6, _, _, rfl, rfl, g5', g6, by rw [List.length_append, List.length_map, List.length_map, List.length_map, l1, l2, l3]; decide, fun D7 hD7 => ?_⟩
      have S7 := S6.trans (Same.newp (o := .lst (w1.map V.str ++ w2.map V.str ++ w3.map V.str)) hD7)
      refine ⟨_, rfl, D7, _, rfl, SqL.of upd_same, fun D8 hD8 => ?_⟩
      have S8 := S7.trans (Same.newp (o := .lst (cutV (w1.map V.str ++ w2.map V.str ++ w3.map V.str) none (some 61))) hD8)
      refine k _ _ (NmsQ.long upd_same ?_) (Bb.same S8) (Kb.trans (Keep.of S8)) (Tb.trans (TyK.of S8))
      rw [show cutV (w1.map V.str ++ w2.map V.str ++ w3.map V.str) none (some 61) = (w1.map V.str ++ w2.map V.str ++ w3.map V.str).take 61 from cutV_take _ 61, List.length_take, List.length_append, List.length_append, List.length_map, List.length_map, List.length_map, l1, l2, l3]
      decide
    · obtain ⟨n, rfl⟩ := Int.eq_ofNat_of_zero_le t0
      refine ⟨_, rfl, _, rfl, _, rfl, x, _, rfl, SqL.of hxb, fun r1 hr1 => ?_⟩
      dsimp only
      rw [cutV_take, ← List.map_take]
      have s1 : Same Hb (upd Hb r1 (.lst ((xs.take n).map V.str))) := Same.newp hr1
      have g1 : upd Hb r1 (.lst ((xs.take n).map V.str)) r1 = some (.lst ((xs.take n).map V.str)) := upd_same
      generalize upd Hb r1 (.lst ((xs.take n).map V.str)) = G1 at s1 g1 ⊢
      refine ⟨(by show 1 ≤ sizeLine; decide), fun r2 hr2 => ?_⟩
      have s2 := s1.trans (Same.newp (o := .lst [.str "B"]) hr2)
      have g1' := (Same.newp (o := .lst [.str "B"]) hr2) _ _ g1
      refine ⟨r1, r2, _, _, rfl, rfl, g1', upd_same, ?_, fun r3 hr3 => ?_⟩
      · rw [List.length_map, List.length_take]
        exact Nat.le_of_lt (small1000 (by show _ + 1 ≤ 1000; omega))
      have s3 := s2.trans (Same.newp (o := .lst ((xs.take n).map V.str ++ [.str "B"])) hr3)
      have g3 : upd (upd G1 r2 (.lst [.str "B"])) r3 (.lst ((xs.take n).map V.str ++ [.str "B"])) r3 = some (.lst ((xs.take n).map V.str ++ [.str "B"])) := upd_same
      generalize upd (upd G1 r2 (.lst [.str "B"])) r3 (.lst ((xs.take n).map V.str ++ [.str "B"])) = G3 at s3 g3 ⊢
      refine ⟨_, rfl, _, rfl, _, rfl, x, _, rfl, SqL.of (s3 _ _ hxb), fun r4 hr4 => ?_⟩
      dsimp only
      rw [cutV_drop, ← List.map_drop]
      have s4 := s3.trans (Same.newp (o := .lst ((xs.drop n).map V.str)) hr4)
      have g3' := (Same.newp (o := .lst ((xs.drop n).map V.str)) hr4) _ _ g3
      refine ⟨r3, r4, _, _, rfl, rfl, g3', upd_same, ?_, fun r5 hr5 => ?_⟩
      · rw [List.length_append, List.length_map, List.length_map, List.length_take, List.length_drop]
        exact Nat.le_of_lt (small1000 (by show _ + 1 + _ ≤ 1000; omega))
      have s5 := s4.trans (Same.newp (o := .lst ((xs.take n).map V.str ++ [.str "B"] ++ (xs.drop n).map V.str)) hr5)
      have el : ((xs.take n).map V.str ++ [.str "B"] ++ (xs.drop n).map V.str : List V) = (xs.take n ++ [("B" : Str)] ++ xs.drop n).map V.str := by
        rw [List.map_append, List.map_append]
        rfl
      refine k _ _ (NmsQ.bad (bs := (xs.take n ++ [("B" : Str)] ++ xs.drop n).map okName) (upd_same.trans (by rw [el])) ?_ (names_paired fun y m => ?_) ?_) (Bb.same s5) (Kb.trans (Keep.of s5)) (Tb.trans (TyK.of s5))
      · rw [List.length_map, List.length_append, List.length_append, List.length_take, List.length_drop]
        show _ + 1 + _ ≤ 60
        omega
      · rcases List.mem_append.mp m with m | m
        · rcases List.mem_append.mp m with m | m
          · exact okName_sz (okx y (List.mem_of_mem_take m))
          · rw [List.mem_singleton.mp m]
            decide +kernel
        · exact okName_sz (okx y (List.mem_of_mem_drop m))
      · rw [List.all_map]
        refine List.all_eq_false.mpr ⟨"B", by simp, ?_⟩
        show ¬ okName "B" = true
        decide +kernel
    · refine ⟨_, rfl, _, rfl, p, q, 11, rfl, Bb, by decide, by decide, fun u Hc u0 u1 Bc bc => ?_⟩
      have kc : Keep [p] H9 Hc := kb.trans (Keep.bag Bb Bc bc (by simp))
      have Tc := Tb.trans (TyK.bag Bb Bc bc)
      have Kc := (Keep.of (ms := [p]) e9).trans kc
      have nl : ll ∉ [p] := fun z => by
        rw [List.mem_singleton] at z
        obtain ⟨_, _, _, _, B9⟩ := B9
        have t := B9.top
        rw [← z, f9] at t
        injection t with t
        injection t with t
        injection t with t
        cases t
      obtain ⟨y, my, ay⟩ := atI_some (xs := ([.non, .int 5, .str "a", .ref x1, .ref x2, .ref x3, .ref x4, .ref x5, .ref x6, .ref x7, .ref m] : List V)) (v := u) u0 (by show u < 11; exact u1)
      have nm : m ∉ [p] := by simpa using (B9.nd f8).1.symm
      refine ⟨ll, _, u, y, rfl, rfl, SqL.of (kc.out _ _ f9 nl), ay, k y Hc ?_ Bc Kc Tc⟩
      simp only [List.mem_cons, List.not_mem_nil, or_false] at my
      rcases my with rfl | rfl | rfl | rfl | rfl | rfl | rfl | rfl | rfl | rfl | rfl
      · exact .no (.base .non) (kit_ty (by decide +kernel))
      · exact .no (.base (.int 5)) (kit_ty (by decide +kernel))
      · exact .no (.base (.str "a")) (kit_ty (by decide +kernel))
      · exact .no (.base (.tup (kc.tup _ _ f1))) (kit_ty (by decide +kernel))
      · have e : H9 x2 = some (.lst ((["a", "a"] : List Str).map V.str)) := f2
        exact NmsQ.txt (xs := (["a", "a"] : List Str)) (kc.flat _ _ e (flat_strs _)) (by decide) (fun y m => by
          have : y = "a" := by simpa using m
          rw [this]
          decide +kernel)
      · exact .bad (bs := [true, false]) (kc.flat _ _ f3 rfl) (by decide) (.cons (NameQ.of (by decide +kernel)) (.cons (noName_int _) .nil)) rfl
      · exact .bad (bs := [false]) (kc.flat _ _ f4 rfl) (by decide) (.cons (noName_str (by decide +kernel) (by decide +kernel)) .nil) rfl
      · exact .bad (bs := [false]) (kc.flat _ _ f5 rfl) (by decide) (.cons (noName_str (by decide +kernel) (by decide +kernel)) .nil) rfl
      · exact .bad (bs := [false]) (kc.flat _ _ f6 rfl) (by decide) (.cons (noName_str (by decide +kernel) (by decide +kernel)) .nil) rfl
      · exact .bad (bs := [false]) (kc.flat _ _ f7 rfl) (by decide) (.cons (noName_bl _) .nil) rfl
      · exact .no (.base (.dK (kc.out _ _ f8 nm))) (kit_ty (by decide +kernel))
theorem sc__law_turned : FnScope ["_law_bag_here", "_law_here", "_law_m", "_law_name_here", "_law_one", "_law_other", "_law_cost_here"] ["_law_bag_here", "_law_here", "_law_m", "_law_name_here"] (defScope s__law_turned) := ⟨rfl, rfl, rfl, by decide +kernel, rfl, by decide +kernel, by decide +kernel⟩
theorem lo_turned (T : Tx K mg C M L) : OkF P w K mg base CX0 6 "_law_turned" ["_law_bag_here", "_law_here", "_law_m", "_law_name_here"] (spTurnedM L) := by
  refine T.d_turned.ok sc__law_turned (fun _ _ _ _ _ _ us hl => match us, hl with | [_, _, _, _], _ => rfl) (fun vs H Q E h => ?_) (fun f cdv Ar outer st H vs Q E hr h => ?_)
  · obtain ⟨p, q, m, c, a, l, b, A, S, D, z, rfl, _⟩ := h
    rfl
  · obtain ⟨p, q, m, c, a, l, b, A, S, D, z, rfl, W, gz, k⟩ := h
    have hu := hu_of hr
    obtain ⟨kv, hl, hk⟩ := W.wk.ln
    have hS := W.wk.ok
    have pn : p ∉ A.ms := fun w => by
      obtain ⟨kv, e⟩ := W.lay.dks _ w
      exact (W.bag.nd e).1 rfl
    refine ⟨_, (pss_one (ps_if (pt_cmp (pc_din hu (pv 3) (pe_dget hu (pv 2) pe_str (fun _ _ => rfl)))) (pss_cons (ps_asg (pe_dpop1 (pe_dget hu (pv 2) pe_str (fun _ _ => rfl)) (pv 3) ⟨rfl, rfl, rfl, rfl⟩) (pg_tupK (K := K) (n := 3) rfl rfl (pgs_cons (pg_name (i := 4) sc__law_turned.nd rfl (Or.inl rfl)) (pgs_cons (pg_name (i := 5) sc__law_turned.nd rfl (Or.inl rfl)) (pgs_cons (pg_name (i := 6) sc__law_turned.nd rfl (Or.inl rfl)) pgs_nil))))) (pss_cons (ps_expr (pe_m (ok_take_line T.toLx) T.cl (hr.mono (by decide)) passL (pv 1) (pa_cons (pv 3) pa_nil))) (pss_one (ps_if (pt_cmpR op_gt (pe_f (ok_take T) (hr.mono (by decide)) pass0 (pa_cons (pv 0) (pa_cons pe_int pa_nil))) pe_int (nomark _)) (pss_cons (ps_dput hu (pe_dget hu (pv 2) pe_str (fun _ _ => rfl)) (pv 3) (pe_tup (pa_cons (pv 5) (pa_cons (pv 4) (pa_cons (pe_ix ix_list (pe_lst (pa_cons pe_int (pa_cons pe_int (pa_cons (pe_f (ok_take T) (hr.mono (by decide)) pass0 (pa_cons (pv 0) (pa_cons pe_int pa_nil))) pa_nil)))) (pe_f (ok_take T) (hr.mono (by decide)) pass0 (pa_cons (pv 0) (pa_cons pe_int pa_nil))) (fun _ _ => rfl)) pa_nil)))) rfl) (pss_one (ps_expr (pe_m (ok_add_line T.toLx) T.cl (hr.mono (by decide)) passL (pv 1) (pa_cons (pv 3) (pa_cons (pv 5) (pa_cons (pv 4) (pa_cons (pe_ix ix_tup (pe_dget hu (pe_dget hu (pv 2) pe_str (fun _ _ => rfl)) (pv 3) (fun _ _ => rfl)) pe_int (fun _ _ => rfl)) pa_nil)))))))) pss_nil)))) pss_nil)), ?_⟩
    have g := DGet.k (k := Sum.inr z) hl
    refine ⟨_, rfl, _, rfl, m, _, rfl, dget_of W.wk.top (ktop_l c a l b), l, _, rfl, g, _, rfl, ?_⟩
    rw [hk.has]
    cases el : look S.lines z with
    | none => exact if_f rfl (k S H W Keep.refl rfl rfl)
    | some e =>
      obtain ⟨v, ev, t, rfl, ht⟩ := hk.get el
      have mz : z ∈ keys S.lines := List.mem_map_of_mem (look_mem el)
      have me := look_mem el
      obtain ⟨i1, i2, ine, ic⟩ := hS.lI _ me
      refine if_t rfl ?_
      refine ⟨_, rfl, m, _, rfl, dget_of W.wk.top (ktop_l c a l b), l, rfl, .inl ⟨_, .inl hl⟩, _, rfl, kv, Sum.inr z, .ref t, hl, rfl, ev, ?_⟩
      have k1 : Keep [l] H (upd H l (.dK (dropK kv (Sum.inr z)))) := Keep.lock hl (by simp)
      have hl1 : upd H l (.dK (dropK kv (Sum.inr z))) l = some (.dK (dropK kv (Sum.inr z))) := upd_same
      have B1 : Bag (upd H l (.dK (dropK kv (Sum.inr z)))) p q := W.bag.keep (upd_ne (W.bag.nd hl).1) (upd_ne (W.bag.nd hl).2)
      have top1 : upd H l (.dK (dropK kv (Sum.inr z))) m = _ := (upd_ne W.wk.mne).trans W.wk.top
      have hk1 : Kr (LineG (upd H l (.dK (dropK kv (Sum.inr z))))) (dropK kv (Sum.inr z)) (del S.lines z) := (hk.line k1).drop
      generalize upd H l (.dK (dropK kv (Sum.inr z))) = H1 at k1 hl1 B1 top1 hk1 ⊢
      have lay1 := W.lay.keep k1 (by simpa using W.am.2)
      have ht1 := k1.tup _ _ ht
      obtain ⟨ys, yS, yc⟩ := W.wk.rm
      have ok1 : ({ S with lines := del S.lines z } : LS).Ok := hS.put (D := .takeLine z) gz (by show (if z ∉ keys S.lines then some (Rf.lacks z) else none) = none; rw [if_neg (fun w => w mz)])
      have W1 : WK H1 m c a l b { S with lines := del S.lines z } := ⟨top1, k1.flat _ _ W.wk.dn (flat_strs _), ⟨ys, yS, k1.flat _ _ yc (flat_strs _)⟩, ⟨_, hl1, hk1⟩, k1.flat _ _ W.wk.sc (flat_strs _), W.wk.ss, ok1, W.wk.ne, W.wk.dr, W.wk.mne⟩
      refine ⟨t, _, rfl, SqT.of ht1, rfl, _, _, rfl, _, _, rfl, _, _, rfl, rfl, ?_⟩
      obtain ⟨⟨dx, ob⟩, _⟩ := id lay1
      have due1 : (S.withD D).due (.takeLine z) = none := by
        show (if z ∉ keys S.lines then some (Rf.lacks z) else none) = none
        rw [if_neg (fun w => w mz)]
      refine ⟨_, rfl, A.p, dx, _, rfl, ob, lfl_no A (by decide +kernel), _, rfl, A, .str z, true, _, rfl, lay1, W.ok, NameQ.of gz, (fun w => Bool.noConfusion w), fun z1 ez1 _ => ?_⟩
      cases ez1
      refine ⟨fun _ G1 hL2 k2 => ?_, fun f df => by rw [due1] at df; cases df⟩
      have okD := W.ok.put (D := .takeLine z) gz due1
      have W2 := W1.keep k2 W.am.1 W.am.2
      have B2 := B1.kept k2 pn
      have K2 : Keep (p :: l :: A.ms) H G1 := (k1.mono (by intro x m; simp at m; simp [m])).trans (k2.mono (by intro x m; simp [m]))
      have ap1 : ∀ x ∈ keys (del S.lines z), x ∉ keys D := fun x m => W.ap x (keys_del_sub m).1
      refine ⟨_, rfl, p, q, 4, rfl, B2, by decide, by decide, fun v G2 v0 v1 B3 b3 => ⟨_, _, rfl, rfl, _, rfl, ?_⟩⟩
      have k3 : Keep [p] G1 G2 := Keep.bag B2 B3 b3 (by simp)
      have W3 := W2.bag B2 k3
      have L3 := hL2.keep k3 (by simpa using pn)
      have K3 := K2.trans (k3.mono (by intro x m; simp at m; simp [m]))
      by_cases v2 : 0 < v
      · refine if_t (decide_eq_true v2) ?_
        refine ⟨_, rfl, _, rfl, _, rfl, p, q, 100, rfl, B3, by decide, by decide, fun x G4 x0 x1 B4 b4 => ⟨(by show 3 ≤ sizeLine; decide), fun l3 hl3 => ?_⟩⟩
        have s5 := Same.newp (o := .lst [V.int 0, V.int 1, V.int x]) hl3
        have B5 := B4.same s5
        refine ⟨_, rfl, p, q, 3, rfl, B5, by decide, by decide, fun y G6 y0 y1 B6 b6 => ?_⟩
        have k6 : Keep [p] (upd G4 l3 (.lst [V.int 0, V.int 1, V.int x])) G6 := Keep.bag B5 B6 b6 (by simp)
        obtain ⟨w, ew, w0, w9⟩ : ∃ w : Int, atI [V.int 0, V.int 1, V.int x] y = some (.int w) ∧ 0 ≤ w ∧ w ≤ 99 := by
          obtain rfl | rfl | rfl : y = 0 ∨ y = 1 ∨ y = 2 := by omega
          · exact ⟨0, rfl, by decide⟩
          · exact ⟨1, rfl, by decide⟩
          · exact ⟨x, rfl, x0, by omega⟩
        refine ⟨l3, _, y, _, rfl, rfl, SqL.of (k6.flat _ _ upd_same rfl), ew, (by show 3 ≤ sizeLine; decide), fun t2 ht2 => ?_⟩
        have s7 := Same.newp (o := .tup [.str e.2.1, .str e.1, .int w]) ht2
        have k7 : Keep [p] G2 (upd G6 t2 (.tup [.str e.2.1, .str e.1, .int w])) := (((Keep.bag (ms := [p]) B3 B4 b4 (by simp)).trans (Keep.of s5)).trans k6).trans (Keep.of s7)
        have ht7 : upd G6 t2 (.tup [.str e.2.1, .str e.1, .int w]) t2 = some (.tup [.str e.2.1, .str e.1, .int w]) := upd_same
        have B7 := B6.same s7
        generalize upd G6 t2 (.tup [.str e.2.1, .str e.1, .int w]) = G7 at k7 ht7 B7 ⊢
        have W7 := W3.bag B3 k7
        have L7 := L3.keep k7 (by simpa using pn)
        have K7 := K3.trans (k7.mono (by intro x m; simp at m; simp [m]))
        obtain ⟨kv7, hl7, hk7⟩ := W7.ln
        have n40 : (del S.lines z).length + 1 ≤ 40 := Nat.le_trans (del_len mz) hS.lL
        have nz : z ∉ keys (del S.lines z) := fun w => (keys_del_sub w).2 rfl
        have nz' : look (del S.lines z) z = none := look_none.mpr nz
        refine ⟨_, rfl, m, _, rfl, dget_of W7.top (ktop_l c a l b), _, rfl, l, _, rfl, DPut.k (k := Sum.inr z) hl7 (small1000 (by rw [hk7.len]; show (del S.lines z).length ≤ 1000; omega)), ?_⟩
        have k8 : Keep [l] G7 (upd G7 l (.dK (putK kv7 (Sum.inr z) (.ref t2)))) := Keep.lock hl7 (by simp)
        have hl8 : upd G7 l (.dK (putK kv7 (Sum.inr z) (.ref t2))) l = _ := upd_same
        have B8 : Bag (upd G7 l (.dK (putK kv7 (Sum.inr z) (.ref t2)))) p q := B7.keep (upd_ne (B7.nd hl7).1) (upd_ne (B7.nd hl7).2)
        have top8 : upd G7 l (.dK (putK kv7 (Sum.inr z) (.ref t2))) m = _ := (upd_ne W.wk.mne).trans W7.top
        generalize upd G7 l (.dK (putK kv7 (Sum.inr z) (.ref t2))) = G8 at k8 hl8 B8 top8 ⊢
        have ht8 := k8.tup _ _ ht7
        have hk8 : Kr (LineG G8) (putK kv7 (Sum.inr z) (.ref t2)) (del S.lines z ++ [(z, (e.2.1, e.1, w))]) := (hk7.line k8).put nz' ⟨t2, rfl, ht8⟩
        have L8 := L7.keep k8 (by simpa using W.am.2)
        obtain ⟨⟨dx8, ob8⟩, _⟩ := id L8
        have gw : okCost w = true := okc w0 w9
        have g1 : okName e.1 = true := hS.rG _ i1
        have g2 : okName e.2.1 = true := hS.rG _ i2
        have ne2 : e.2.1 ≠ e.1 := fun w => ine w.symm
        have due2 : (({ S with lines := del S.lines z } : LS).withD D).due (.addLine z e.2.1 e.1 w) = none := by
          have t0 : (({ S with lines := del S.lines z } : LS).withD D).taken z = false := by
            show (decide (z ∈ keys (del S.lines z)) || decide (z ∈ keys D)) = false
            rw [decide_eq_false nz, decide_eq_false (W.ap z mz)]
            rfl
          show (if (({ S with lines := del S.lines z } : LS).withD D).taken z = true then some (Rf.there z) else if e.2.1 ∉ S.rooms then some (.lacks e.2.1) else if e.1 ∉ S.rooms then some (.lacks e.1) else if 40 ≤ (del S.lines z).length then some (.tooMany 40) else none) = none
          rw [t0, if_neg (by simp), if_neg (fun w => w i2), if_neg (fun w => w i1), if_neg (by omega)]
        have v8 : valV (putK kv7 (Sum.inr z) (.ref t2)) (Sum.inr z) = some (.ref t2) := by
          have el8 : look (del S.lines z ++ [(z, (e.2.1, e.1, w))]) z = some (e.2.1, e.1, w) := (look_iff (by rw [keys_snoc]; exact List.nodup_append.mpr ⟨ok1.lN, by simp, fun x hx y hy e => nz ((e.trans (List.mem_singleton.mp hy)) ▸ hx)⟩)).mpr (List.mem_append_right _ (List.mem_singleton.mpr rfl))
          have q8 : Kr (fun v _ => v = .ref t2) [(Sum.inr z, .ref t2)] [(z, (e.2.1, e.1, w))] := .cons ⟨rfl, rfl⟩ .nil
          rw [putK_new _ (hk7.no nz')]
          have no7 := hk7.no nz'
          unfold valV at no7 ⊢
          rw [List.find?_append]
          cases f7 : kv7.find? (fun kv => decide (kv.1 = Sum.inr z)) with
          | none => simp
          | some v => rw [f7] at no7; cases no7
        refine ⟨_, rfl, A.p, dx8, _, rfl, ob8, lfl_no A (by decide +kernel), _, rfl, _, rfl, _, rfl, _, rfl, m, _, rfl, dget_of top8 (ktop_l c a l b), _, rfl, l, _, rfl, dget_of hl8 v8, t2, _, 2, _, rfl, rfl, SqT.of ht8, rfl, ?_⟩
        refine ⟨A, .str z, .str e.2.1, .str e.1, .int w, true, true, true, true, _, rfl, L8, okD, NameQ.of gz, NameQ.of g2, NameQ.of g1, .inl ⟨_, rfl, gw.symm⟩, (fun w => Bool.noConfusion w), (fun _ w => Bool.noConfusion w), (fun _ _ w => w.elim (fun w => Bool.noConfusion w) fun w => absurd (V.str.inj w).symm ne2), (fun _ _ _ _ w => Bool.noConfusion w), fun z1 z2 z3 z4 ez1 ez2 ez3 ez4 _ _ _ _ _ => ?_⟩
        cases ez1
        cases ez2
        cases ez3
        cases ez4
        refine ⟨fun _ G9 hL9 k9 => ?_, fun f df => by rw [show ((S.withD D).put (.takeLine z)).due (.addLine z e.2.1 e.1 w) = none from due2] at df; cases df⟩
        obtain ⟨ys, yS, yc⟩ := W7.rm
        have ok9 := okD.put (D := .addLine z e.2.1 e.1 w) ⟨gz, g2, g1, ne2, gw⟩ due2
        have ok8 : ({ S with lines := del S.lines z ++ [(z, (e.2.1, e.1, w))] } : LS).Ok := ⟨ok9.rN, ok9.rL, ok9.lN, ok9.lL, by show (keys S.drains).Nodup; exact hS.dN, hS.dL, ok9.sN, ok9.sI, ok9.lI, hS.dI, ok9.rG, ok9.lG, hS.dG⟩
        have W8 : WK G8 m c a l b { S with lines := del S.lines z ++ [(z, (e.2.1, e.1, w))] } := ⟨top8, k8.flat _ _ W7.dn (flat_strs _), ⟨ys, yS, k8.flat _ _ yc (flat_strs _)⟩, ⟨_, hl8, hk8⟩, k8.flat _ _ W7.sc (flat_strs _), W.wk.ss, ok8, W.wk.ne, W.wk.dr, W.wk.mne⟩
        refine k { S with lines := del S.lines z ++ [(z, (e.2.1, e.1, w))] } G9 ⟨B8.kept k9 pn, W8.keep k9 W.am.1 W.am.2, hL9, ok9, fun x mx => ?_, W.am⟩ ((K7.trans (k8.mono (by intro x m; simp at m; simp [m]))).trans (k9.mono (by intro x m; simp [m]))) rfl rfl
        rw [show keys ({ S with lines := del S.lines z ++ [(z, (e.2.1, e.1, w))] } : LS).lines = keys (del S.lines z) ++ [z] from keys_snoc] at mx
        rcases List.mem_append.mp mx with w | w
        · exact ap1 x w
        · rw [List.mem_singleton.mp w]
          exact W.ap z mz
      · exact if_f (decide_eq_false v2) (k { S with lines := del S.lines z } G2 ⟨B3, W3, L3, okD, ap1, W.am⟩ K3 rfl rfl)
end
end SM
namespace SM
open PySem PySem.Spec PyProof.Rows L2
open Evl (tCut pss_cut)
section
variable {P : Program} {w : World} {K : PySem.W.Frag} {mg : Str → Option Value} {base : Heap} {C : Nat → Addr} {M L : Addr}
theorem sc__law_wrong : FnScope ["_law_bag_here", "_law_here", "_law_names_here", "_law_spoilt", "_law_one", "_law_other"] ["_law_bag_here", "_law_here", "_law_names_here"] (defScope s__law_wrong) := ⟨rfl, rfl, rfl, by decide +kernel, rfl, by decide +kernel, by decide +kernel⟩
theorem lo_wrong (T : Tx K mg C M L) : OkF P w K mg base CX0 10 "_law_wrong" ["_law_bag_here", "_law_here", "_law_names_here"] (spWrongM L) := by
  refine T.d_wrong.ok sc__law_wrong (fun _ _ _ _ _ _ us hl => match us, hl with | [_, _, _], _ => rfl) (fun vs H Q E h => ?_) (fun f cdv Ar outer st H vs Q E hr h => ?_)
  · obtain ⟨p, q, x, A, S, xs, rfl, _⟩ := h
    rfl
  · obtain ⟨p, q, x, A, S, xs, rfl, B, hL, pn, hx, okx, l50, k⟩ := h
    have hu := hu_of hr
    have hu6 := hu64 hr
    refine ⟨_, (pss_cons (ps_set (i := 3) sc__law_wrong.nd rfl (Or.inl rfl) (pe_f (ok_take T) (hr.mono (by decide)) pass0 (pa_cons (pv 0) (pa_cons pe_int pa_nil)))) (pss_cons (ps_set (i := 4) sc__law_wrong.nd rfl (Or.inl rfl) (pe_ix ix_list (pe_lst (pa_cons pe_non (pa_cons pe_int (pa_cons pe_str (pa_cons (pe_lst pa_nil) pa_nil))))) (pe_f (ok_take T) (hr.mono (by decide)) pass0 (pa_cons (pv 0) (pa_cons pe_int pa_nil))) (fun _ _ => rfl))) (pss_cons (ps_set (i := 5) sc__law_wrong.nd rfl (Or.inl rfl) (pe_f (lo_odd_list T) (hr.mono (by decide)) pass0 (pa_cons (pv 0) (pa_cons (pv 2) pa_nil)))) (pss_cons (ps_if (pt_cmpR op_eq (pv 3) pe_int (nomark _)) (pss_one (ps_ret (pe_cmpR (op_eqD hu6) (pe_f (lo_said T) (hr.mono (by decide)) pass0 (pa_cons (pv 4) (pa_cons (pe_callTy call_list_of (by rfl) T.b_list (by decide +kernel) (pa_cons (pv 2) pa_nil)) pa_nil))) (pe_tup (pa_cons pe_str (pa_cons pe_int pa_nil))) (nomark _)))) pss_nil) (pss_cons (ps_if (pt_cmpR op_eq (pv 3) pe_int (nomark _)) (pss_one (ps_ret (pe_cmpR (op_eqD hu6) (pe_f (lo_said T) (hr.mono (by decide)) pass0 (pa_cons (pv 1) (pa_cons (pv 5) pa_nil))) (pe_tup (pa_cons pe_str (pa_cons pe_int pa_nil))) (nomark _)))) pss_nil) (pss_one (ps_ret (pe_cmpR (op_eqD hu6) (pe_f (lo_said T) (hr.mono (by decide)) pass0 (pa_cons (pv 4) (pa_cons (pv 5) pa_nil))) (pe_tup (pa_cons pe_str (pa_cons pe_int pa_nil))) (nomark _))))))))), ?_⟩
    refine ⟨_, rfl, p, q, 3, rfl, B, by decide, by decide, fun v H1 v0 v1 B1 b1 => ?_⟩
    have K1 : Keep [p] H H1 := Keep.bag B B1 b1 (by simp)
    refine ⟨(by show 0 ≤ sizeLine; decide), fun e0 he0 => ⟨(by show 4 ≤ sizeLine; decide), fun l4 hl4 => ?_⟩⟩
    have s1 := Same.newp (o := .lst []) he0
    have f0 : upd H1 e0 (.lst []) e0 = some (.lst []) := upd_same
    have s2 := Same.newp (o := .lst [.non, .int 5, .str "a", .ref e0]) hl4
    have f4 : upd (upd H1 e0 (.lst [])) l4 (.lst [.non, .int 5, .str "a", .ref e0]) l4 = some (.lst [.non, .int 5, .str "a", .ref e0]) := upd_same
    have f0' := s2 _ _ f0
    have s12 := s1.trans s2
    generalize upd (upd H1 e0 (.lst [])) l4 (.lst [.non, .int 5, .str "a", .ref e0]) = H2 at f4 f0' s12 ⊢
    have B2 := B1.same s12
    refine ⟨_, rfl, p, q, 4, rfl, B2, by decide, by decide, fun u H3 u0 u1 B3 b3 => ?_⟩
    have k3 : Keep [p] H2 H3 := Keep.bag B2 B3 b3 (by simp)
    have nl : l4 ∉ [p] := fun z => by
      rw [List.mem_singleton] at z
      obtain ⟨_, _, _, _, B2⟩ := B2
      have t := B2.top
      rw [← z, f4] at t
      injection t with t
      injection t with t
      injection t with t
      cases t
    obtain ⟨y, my, ay⟩ := atI_some (xs := ([.non, .int 5, .str "a", .ref e0] : List V)) (v := u) u0 (by show u < 4; exact u1)
    refine ⟨l4, _, u, y, rfl, rfl, SqL.of (k3.out _ _ f4 nl), ay, ?_⟩
    have oq : ∃ t, TyX K H3 y t ∧ PySem.W.kitOne K t (.ref L) = some false := by
      simp only [List.mem_cons, List.not_mem_nil, or_false] at my
      rcases my with rfl | rfl | rfl | rfl
      · exact ⟨_, .base .non, kit_own T.cl T.i_ty (l := [.type "NoneType", .type "object"]) (by kernel_rfl) rfl⟩
      · exact ⟨_, .base (.int 5), kit_own T.cl T.i_ty (l := [.type "int", .type "object"]) (by kernel_rfl) rfl⟩
      · exact ⟨_, .base (.str "a"), kit_own T.cl T.i_ty (l := [.type "str", .type "object"]) (by kernel_rfl) rfl⟩
      · exact ⟨_, .base (.lst (k3.flat _ _ f0' rfl)), kit_own T.cl T.i_ty (l := [.type "list", .type "object"]) (by kernel_rfl) rfl⟩
    obtain ⟨ty, hy, ky⟩ := oq
    have K3 := (K1.trans (Keep.of s12)).trans k3
    refine ⟨_, rfl, _, rfl, p, q, x, xs, rfl, B3, K3.flat _ _ hx (flat_strs _), okx, l50, fun w H4 nq B4 k4 t4 => ?_⟩
    have hy4 := t4 _ _ hy
    have K4 := K3.trans k4
    have hx4 := K4.flat _ _ hx (flat_strs _)
    have L4 := hL.keep K4 (by simpa using pn)
    have fin : ∀ (i : Int), 0 ≤ i → i ≤ 99 → ∀ (G G1 : Hp) (t1 t2 : Addr), Same H4 G → Same G G1 → G1 t1 = some (.tup [.str (wordQ 0), .int i]) → G1 t2 = none → ∃ d e, Dp K (upd G1 t2 (.tup [.str "Wrong", .int i])) (.ref t1) d ∧ Dp K (upd G1 t2 (.tup [.str "Wrong", .int i])) (.ref t2) e ∧ SeqAt.shaped d = true ∧ SeqAt.shaped e = true ∧ Q (.bl (PyData.eqv d e)) (upd G1 t2 (.tup [.str "Wrong", .int i])) := fun i i0 i1 G G1 t1 t2 s s' h1 h2 => by
      have sm := sm_int i0 i1
      have fn : Fine (costD 0 (.int i)) := costD_fine sm
      have s2 := Same.newp (o := .tup [.str "Wrong", .int i]) h2
      refine ⟨costD 0 (.int i), costD 0 (.int i), costD_dp (n := 0) (s2 _ _ h1) (.int _), costD_dp (n := 0) (v := .int i) upd_same (.int _), fn.shaped, fn.shaped, ?_⟩
      rw [eqv_self _ fn.lay]
      have ss := (s.trans s').trans s2
      exact k _ (B4.same ss) (K4.trans (Keep.of ss))
    refine ⟨_, rfl, rfl, _, rfl, ite2 (fun _ => ?_) fun _ => ⟨_, rfl, rfl, _, rfl, ite2 (fun _ => ?_) fun _ => ?_⟩⟩
    · refine ⟨_, rfl, _, rfl, x, _, rfl, .inl (SqL.of hx4), fun l5 hl5 => ?_⟩
      have s5 := Same.newp (o := .lst (xs.map V.str)) hl5
      refine ⟨y, .ref l5, 0, .int 0, rfl, .lay (TyK.of s5 _ _ hy4) ky, fun G t e ht => ⟨(by show 2 ≤ sizeLine; decide), fun t2 ht2 => ?_⟩⟩
      exact fin 0 (by decide) (by decide) _ _ t t2 s5 e ht ht2
    · refine ⟨_, rfl, _, rfl, .ref A.p, w, 0, .int 1, rfl, .nam L4 nq, fun G t e ht => ⟨(by show 2 ≤ sizeLine; decide), fun t2 ht2 => ?_⟩⟩
      exact fin 1 (by decide) (by decide) _ _ t t2 (fun _ _ e => e) e ht ht2
    · refine ⟨_, rfl, _, rfl, y, w, 0, .int 0, rfl, .lay hy4 ky, fun G t e ht => ⟨(by show 2 ≤ sizeLine; decide), fun t2 ht2 => ?_⟩⟩
      exact fin 0 (by decide) (by decide) _ _ t t2 (fun _ _ e => e) e ht ht2
end
end SM
namespace SM
open PySem PySem.Spec PyProof.Rows L2
open Evl (tCut pss_cut)
section
variable {P : Program} {w : World} {K : PySem.W.Frag} {mg : Str → Option Value} {base : Heap} {C : Nat → Addr} {M L : Addr}
theorem sc_law : FnScope ["_law_script", "_law_bag_here", "_law_many", "_law_more", "_law_m", "_law_here", "_law_drains", "_law_name_here", "_law_very", "_law_odd", "_law_turn", "_law_names_here", "_law_k", "_law_again", "_law_handed", "_law_told", "_law_ends_here", "_law_due_here"] ["_law_script"] (defScope s_law) := ⟨rfl, rfl, rfl, by decide +kernel, rfl, by decide +kernel, by decide +kernel⟩
theorem lo_law (T : Tx K mg C M L) : OkQ P w K mg base CX0 11 "law" ["_law_script"] (spLawL K) := by
  refine T.d_law.okQ sc_law (fun _ _ _ _ _ _ us hl => match us, hl with | [_], _ => rfl) (fun vs H Q E h => ?_) (fun f cdv Ar outer st H vs Q E qa hr h => ?_)
  · obtain ⟨a, ns, rfl, _⟩ := h
    rfl
  · obtain ⟨a, ns, rfl, hS, hl, k⟩ := h
    have hu := hu_of hr
    have hu6 := hu64 hr
    refine ⟨_, (pss_cons (ps_set (i := 1) sc_law.nd rfl (Or.inl rfl) (pe_f (ok_bag T) (hr.mono (by decide)) pass0 (pa_cons (pv 0) pa_nil))) (pss_cons (ps_asg (pe_f (lo_size T) (hr.mono (by decide)) pass0 (pa_cons (pv 1) pa_nil)) (pg_tupK (K := K) (n := 2) rfl rfl (pgs_cons (pg_name (i := 2) sc_law.nd rfl (Or.inl rfl)) (pgs_cons (pg_name (i := 3) sc_law.nd rfl (Or.inl rfl)) pgs_nil)))) (pss_cons (ps_set (i := 4) sc_law.nd rfl (Or.inr rfl) (pe_f (lo_works T) (hr.mono (by decide)) pass0 (pa_cons (pv 1) (pa_cons (pv 2) (pa_cons (pv 3) pa_nil))))) (pss_cons (ps_set (i := 5) sc_law.nd rfl (Or.inr rfl) (pe_f (lo_layout T) (hr.mono (by decide)) pass0 (pa_cons (pv 4) pa_nil))) (pss_cons (ps_setLc (i := 6) (own := [("_law_name_here", 7)]) rfl sc_law.nd rfl rfl (sw_true rfl rfl rfl (by decide +kernel)) (pi_list (pe_f (lo_names T) (hr.mono (by decide)) pass0 (pa_cons (pv 1) (pa_cons pe_int pa_nil)))) (blkOk_by (N := ["_law_script", "_law_bag_here", "_law_many", "_law_more", "_law_m", "_law_here", "_law_drains", "_law_name_here", "_law_very", "_law_odd", "_law_turn", "_law_names_here", "_law_k", "_law_again", "_law_handed", "_law_told", "_law_ends_here", "_law_due_here"]) (sc := (defScope s_law)) (by decide +kernel)) (fun _ _ _ _ _ => (pg_name (i := 7) sc_law.nd rfl (Or.inl rfl))) (fun _ _ _ _ _ => (pts_one (pt_cmp (pc_dnotin hu (pv 7) (pe_dget hu (pv 4) pe_str (fun _ _ => rfl)))))) (fun _ _ _ _ _ => (pv 7))) (pss_cons (ps_for PassesOwn.never rfl (pi_list (pv 6)) (pg_name (i := 7) sc_law.nd rfl (Or.inl rfl)) (pss_one (ps_expr (pe_m (ok_add_drain T.toLx) T.cl (hr.mono (by decide)) passL (pv 5) (pa_cons (pv 7) (pa_cons (pe_ix ix_list (pe_dget hu (pv 4) pe_str (fun _ _ => rfl)) pe_int (fun _ _ => rfl)) pa_nil)))))) (pss_cons (ps_set (i := 8) sc_law.nd rfl (Or.inl rfl) (pe_lst pa_nil)) (pss_cons (ps_set (i := 9) sc_law.nd rfl (Or.inl rfl) (pe_op op_cat (pe_op op_cat (pv 6) (pe_dget hu (pv 4) pe_str (fun _ _ => rfl))) (pe_lst (pa_cons (pe_f (lo_name T) (hr.mono (by decide)) pass0 (pa_cons (pv 1) pa_nil)) (pa_cons (pe_f (lo_name T) (hr.mono (by decide)) pass0 (pa_cons (pv 1) pa_nil)) pa_nil))))) (pss_cons (ps_set (i := 9) sc_law.nd rfl (Or.inl rfl) (pe_op op_cat (pv 9) (pe_lock (pe_lc (own := [("_law_name_here", 7)]) rfl sc_law.nd (pi_keys (pe_dget hu (pv 4) pe_str (fun _ _ => rfl))) (blkOk_by (N := ["_law_script", "_law_bag_here", "_law_many", "_law_more", "_law_m", "_law_here", "_law_drains", "_law_name_here", "_law_very", "_law_odd", "_law_turn", "_law_names_here", "_law_k", "_law_again", "_law_handed", "_law_told", "_law_ends_here", "_law_due_here"]) (sc := (defScope s_law)) (by decide +kernel)) (fun _ _ _ _ _ => (pg_name (i := 7) sc_law.nd rfl (Or.inl rfl))) (fun _ _ _ _ _ => (pts_one (pt_cmpR op_eq (pe_ix (ix_tupK (K := K) rfl) (pe_dget hu (pe_dget hu (pv 4) pe_str (fun _ _ => rfl)) (pv 7) (fun _ _ => rfl)) pe_int (fun _ _ => rfl)) pe_int (nomark _)))) (fun _ _ _ _ _ => (pv 7)))))) (pss_cons (ps_for PassesOwn.never rfl (pi_range1 rfl T.b_range (pa_cons pe_int pa_nil)) (pg_name (i := 10) sc_law.nd rfl (Or.inl rfl)) (pss_cons (ps_set (i := 11) sc_law.nd rfl (Or.inl rfl) (pe_f (lo_asked T) (hr.mono (by decide)) pass0 (pa_cons (pv 1) (pa_cons (pv 4) pa_nil)))) (pss_cons (ps_for PassesOwn.never rfl (pi_range1 rfl T.b_range (pa_cons (pe_ix ix_list (pe_lst (pa_cons pe_int (pa_cons pe_int (pa_cons pe_int (pa_cons pe_int pa_nil))))) (pe_f (ok_take T) (hr.mono (by decide)) pass0 (pa_cons (pv 1) (pa_cons pe_int pa_nil))) (fun _ _ => rfl)) pa_nil)) (pg_name (i := 12) sc_law.nd rfl (Or.inl rfl)) (pss_cons (ps_set (i := 7) sc_law.nd rfl (Or.inl rfl) (pe_ix ix_list (pv 9) (pe_f (ok_take T) (hr.mono (by decide)) pass0 (pa_cons (pv 1) (pa_cons (pe_callB call_len_seq (by rfl) T.b_len PySem.boot_len (pa_cons (pv 9) pa_nil)) pa_nil))) (fun _ _ => rfl))) (pss_one (ps_if (pt_cmpR op_notIn_seq (pv 7) (pv 11) rfl) (pss_one (ps_expr (pe_bm PySem.F.plainAttrs_list PySem.F.slot_list_insert PySem.F.type_list_insert mt_insert (pv 11) (pa_cons (pe_f (ok_take T) (hr.mono (by decide)) pass0 (pa_cons (pv 1) (pa_cons (pe_op op_add (pe_callB call_len_seq (by rfl) T.b_len PySem.boot_len (pa_cons (pv 11) pa_nil)) pe_int) pa_nil))) (pa_cons (pv 7) pa_nil))))) pss_nil)))) (pss_cons (ps_for PassesOwn.never rfl (pi_range1 rfl T.b_range (pa_cons pe_int pa_nil)) (pg_name (i := 13) sc_law.nd rfl (Or.inl rfl)) (pss_cons (ps_expr (pe_bm0 PySem.F.plainAttrs_list PySem.F.slot_list_clear PySem.F.type_list_clear mt_clear (pv 8))) (pss_cons (ps_expr (pe_bm PySem.F.plainAttrs_list PySem.F.slot_list_extend PySem.F.type_list_extend mt_extend (pv 8) (pa_cons (pv 11) pa_nil))) (pss_cons (ps_set (i := 14) sc_law.nd rfl (Or.inl rfl) (pe_ix ix_list (pe_lst (pa_cons (pv 8) (pa_cons (pe_callTy call_list_of (by rfl) T.b_list (by decide +kernel) (pa_cons (pv 11) pa_nil)) pa_nil))) (pv 13) (fun _ _ => rfl))) (pss_one (ps_if (pw_or (pt_not (pt_val (pe_q (lo_alike T) qa (hr.mono (by decide)) pass0 (pa_cons (pe_f (lo_said T) (hr.mono (by decide)) pass0 (pa_cons (pv 5) (pa_cons (pv 14) pa_nil))) (pa_cons (pe_f (lo_due T) (hr.mono (by decide)) pass0 (pa_cons (pv 4) (pa_cons (pv 11) pa_nil))) pa_nil))))) (pw_or1 (pt_cmpR (op_neD hu6) (pv 14) (pv 11) (nomark _)))).pt (pss_one (ps_ret pe_bl)) pss_nil)))))) (pss_cut (ps_if (pw_and (pt_cmpR (op_neD hu6) (pv 11) (pe_lst pa_nil) (nomark _)) (pw_and1 (pt_cmpR op_eq (pe_f (ok_take T) (hr.mono (by decide)) pass0 (pa_cons (pv 1) (pa_cons pe_int pa_nil))) pe_int (nomark _)))).pt (pss_cons (ps_expr (pe_f (lo_turned T) (hr.mono (by decide)) pass0 (pa_cons (pv 1) (pa_cons (pv 5) (pa_cons (pv 4) (pa_cons (pe_ix ix_list (pv 11) (pe_f (ok_take T) (hr.mono (by decide)) pass0 (pa_cons (pv 1) (pa_cons (pe_callB call_len_seq (by rfl) T.b_len PySem.boot_len (pa_cons (pv 11) pa_nil)) pa_nil))) (fun _ _ => rfl)) pa_nil)))))) (pss_one (ps_if (pt_not (pt_val (pe_q (lo_alike T) qa (hr.mono (by decide)) pass0 (pa_cons (pe_f (lo_said T) (hr.mono (by decide)) pass0 (pa_cons (pv 5) (pa_cons (pe_callTy call_list_of (by rfl) T.b_list (by decide +kernel) (pa_cons (pv 11) pa_nil)) pa_nil))) (pa_cons (pe_f (lo_due T) (hr.mono (by decide)) pass0 (pa_cons (pv 4) (pa_cons (pv 11) pa_nil))) pa_nil))))) (pss_one (ps_ret pe_bl)) pss_nil))) pss_nil) (pss_one (ps_if (pt_not (pt_val (pe_f (lo_wrong T) (hr.mono (by decide)) pass0 (pa_cons (pv 1) (pa_cons (pv 5) (pa_cons (pv 11) pa_nil)))))) (pss_one (ps_ret pe_bl)) pss_nil))))))) (pss_cons (ps_set (i := 15) sc_law.nd rfl (Or.inl rfl) (pe_lst (pa_cons (pe_m0 (ok_rooms T.toLx) T.cl (hr.mono (by decide)) pass0 (pv 5)) (pa_cons (pe_m0 (ok_lines T.toLx) T.cl (hr.mono (by decide)) pass0 (pv 5)) (pa_cons (pe_m0 (ok_drains T.toLx) T.cl (hr.mono (by decide)) pass0 (pv 5)) (pa_cons (pe_m0 (ok_sources T.toLx) T.cl (hr.mono (by decide)) pass0 (pv 5)) (pa_cons (pe_lc (own := [("_law_name_here", 7)]) rfl sc_law.nd (pi_list (pe_m0 (ok_lines T.toLx) T.cl (hr.mono (by decide)) pass0 (pv 5))) (blkOk_by (N := ["_law_script", "_law_bag_here", "_law_many", "_law_more", "_law_m", "_law_here", "_law_drains", "_law_name_here", "_law_very", "_law_odd", "_law_turn", "_law_names_here", "_law_k", "_law_again", "_law_handed", "_law_told", "_law_ends_here", "_law_due_here"]) (sc := (defScope s_law)) (by decide +kernel)) (fun _ _ _ _ _ => (pg_name (i := 7) sc_law.nd rfl (Or.inl rfl))) (fun _ _ _ _ _ => pts_nil) (fun _ _ _ _ _ => (pe_m (ok_line T.toLx) T.cl (hr.mono (by decide)) passL (pv 5) (pa_cons (pv 7) pa_nil)))) pa_nil))))))) (pss_cons (ps_setLc (i := 16) (own := [("_law_name_here", 7)]) rfl sc_law.nd rfl rfl (sw_true rfl rfl rfl (by decide +kernel)) (pi_list (pe_callB (call_sortedD rfl) (by rfl) T.b_sorted (by decide +kernel) (pa_cons (pe_dget hu (pv 4) pe_str (fun _ _ => rfl)) pa_nil))) (blkOk_by (N := ["_law_script", "_law_bag_here", "_law_many", "_law_more", "_law_m", "_law_here", "_law_drains", "_law_name_here", "_law_very", "_law_odd", "_law_turn", "_law_names_here", "_law_k", "_law_again", "_law_handed", "_law_told", "_law_ends_here", "_law_due_here"]) (sc := (defScope s_law)) (by decide +kernel)) (fun _ _ _ _ _ => (pg_name (i := 7) sc_law.nd rfl (Or.inl rfl))) (fun _ _ _ _ _ => pts_nil) (fun _ _ _ _ _ => (pe_dget hu (pe_dget hu (pv 4) pe_str (fun _ _ => rfl)) (pv 7) (fun _ _ => rfl)))) (pss_cons (ps_set (i := 17) sc_law.nd rfl (Or.inl rfl) (pe_lst (pa_cons (pe_dget hu (pv 4) pe_str (fun _ _ => rfl)) (pa_cons (pe_callB (call_sortedD rfl) (by rfl) T.b_sorted (by decide +kernel) (pa_cons (pe_dget hu (pv 4) pe_str (fun _ _ => rfl)) pa_nil)) (pa_cons (pe_callB cr_sortedS (by rfl) T.b_sorted (by decide +kernel) (pa_cons (pv 6) pa_nil)) (pa_cons (pe_dget hu (pv 4) pe_str (fun _ _ => rfl)) (pa_cons (pv 16) pa_nil))))))) (pss_one (ps_ret (pe_and (pe_q (lo_alike T) qa (hr.mono (by decide)) pass0 (pa_cons (pv 15) (pa_cons (pv 17) pa_nil))) (pe_one (pe_q (lo_alike T) qa (hr.mono (by decide)) pass0 (pa_cons (pe_f (ro_cost_of T.toRx) (hr.mono (by decide)) passL (pa_cons (pe_mk0 T.mkL T.kL (ok_initL T.toLx) (hr.mono (by decide)) T.gL pass0) (pa_cons (pe_lst pa_nil) pa_nil))) (pa_cons pe_int pa_nil)))))))))))))))))))), ?_⟩
    refine ⟨_, rfl, a, ns, rfl, hS, hl, fun H1 p q s1 hp hq B1 => ?_⟩
    refine ⟨_, rfl, p, q, rfl, B1, fun t n j H2 ht n1 n24 j0 j40 B2 K2 => ?_⟩
    refine ⟨t, _, rfl, SqT.of ht, rfl, _, _, rfl, _, _, rfl, rfl, ?_⟩
    refine ⟨_, rfl, _, rfl, _, rfl, p, q, n, j, rfl, B2, n1, n24, j0, j40, fun m c e l b S H3 W3 B3 K3 => ?_⟩
    refine ⟨_, rfl, m, c, e, l, b, S, rfl, W3, fun A H4 L4 s4 fr4 => ?_⟩
    have W4 := W3.same s4
    have B4 := B3.same s4
    have hOk := W3.ok
    have offm : ∀ {x o}, H3 x = some o → x ∉ A.ms := fun w q => by
      rw [fr4 _ q] at w
      cases w
    have am : m ∉ A.ms ∧ l ∉ A.ms := ⟨offm W3.top, (let ⟨_, w, _⟩ := W3.ln; offm w)⟩
    have pA : p ∉ A.ms := by
      obtain ⟨_, _, _, _, B⟩ := B3
      exact offm B.top
    clear W3 B3 K3 K2 B2 ht B1 s1 hp hq s4 fr4 offm
    refine ⟨_, rfl, p, q, 2, rfl, B4, by decide, by decide, fun nb ys H5 hn5 nN nl nG B5 K5 nb0 => ?_⟩
    have W5 := W4.bag B4 K5
    have L5 := L4.keep K5 (by simpa using pA)
    refine ⟨nb, rfl, ⟨_, SqL.of hn5⟩, fun pd hpd => ?_⟩
    obtain ⟨kv5, hl5, hk5⟩ := W5.ln
    refine lc_list (K := K) (a := nb) (xs := ys.map V.str) (fun i G => Same H5 G ∧ G pd = some (.lst (((ys.take i).filter fun x => !decide (x ∈ keys S.lines)).map V.str))) ⟨Same.newp hpd, upd_same⟩ (fun i G _ z => SqL.of (z.1 _ _ hn5)) ?_ ?_
    · rintro i y G hi ⟨s, g⟩
      rw [List.getElem?_map] at hi
      obtain ⟨z, ez, rfl⟩ := Option.map_eq_some_iff.mp hi
      have li := (List.getElem?_eq_some_iff.mp ez).1
      have WG := W5.same s
      have tk : ys.take (i + 1) = ys.take i ++ [z] := by
        rw [List.take_add_one, ez]
        rfl
      refine ⟨rfl, _, rfl, _, rfl, m, _, rfl, dget_of WG.top (ktop_l c e l b), l, _, rfl, DGet.k (k := Sum.inr z) (s _ _ hl5), _, rfl, ?_⟩
      rw [hk5.has, look_isSome]
      by_cases mz : z ∈ keys S.lines
      · refine if_f (by rw [decide_eq_true mz]; rfl) ⟨s, ?_⟩
        rw [tk, List.filter_append, List.filter_cons, if_neg (by simp [mz]), List.filter_nil, List.append_nil]
        exact g
      · refine if_t (by rw [decide_eq_false mz]; rfl) ⟨_, rfl, _, g, ?_, fun b u w => ?_, ?_⟩
        · rw [List.length_map]
          refine small1000 ?_
          have a1 := List.length_filter_le (fun x : Str => !decide (x ∈ keys S.lines)) (ys.take i)
          rw [List.length_take] at a1
          omega
        · rw [upd_ne (ne_of_none w hpd)]
          exact s _ _ w
        · rw [upd_same, tk, List.filter_append, List.filter_cons, if_pos (by simp [mz]), List.filter_nil, List.map_append]
          rfl
    rintro H6 ⟨s6, hpd6⟩
    rw [List.length_map, List.take_length] at hpd6
    have drN : (ys.filter fun x => !decide (x ∈ keys S.lines)).Nodup := nN.filter _
    have drG : ∀ x ∈ (ys.filter fun x => !decide (x ∈ keys S.lines)), okName x = true := fun x mx => nG x (List.mem_filter.mp mx).1
    have dr2 : (ys.filter fun x => !decide (x ∈ keys S.lines)).length ≤ 2 := by
      have := List.length_filter_le (fun x : Str => !decide (x ∈ keys S.lines)) ys
      have e2 : ys.length = 2 := nl
      omega
    have drS : ∀ x ∈ (ys.filter fun x => !decide (x ∈ keys S.lines)), x ∉ keys S.lines := fun x mx => by simpa using (List.mem_filter.mp mx).2
    generalize (ys.filter fun x => !decide (x ∈ keys S.lines)) = dr at hpd6 drN drG dr2 drS
    have W6 := W5.same s6
    have L6 := L5.same s6
    have B6 := B5.same s6
    clear W5 L5 B5 W4 L4 B4 hl5 hk5 hn5 nN nl nG s6 hpd K5
    obtain ⟨r0, er0, ar0⟩ := atI_strs (rs := S.rooms) (v := 0) (by decide) (by have := W6.ne; omega)
    have mr0 : r0 ∈ S.rooms := List.mem_of_getElem? er0
    have gr0 := hOk.rG r0 mr0
    refine ⟨_, rfl, pd, rfl, ⟨_, SqL.of hpd6⟩, ?_⟩
    refine for_list (K := K) (a := pd) (xs := dr.map V.str) (fun i σ G => (∃ x7 : Option V, σ = [some (.ref a), some (.ref p), some (.int n), some (.int j), some (.ref m), some (.ref A.p), some (.ref pd), x7, none, none, none, none, none, none, none, none, none, none]) ∧ LayAt L G A (S.withD ((dr.take i).map fun x => (x, r0))) ∧ (S.withD ((dr.take i).map fun x => (x, r0))).Ok ∧ Keep A.ms H6 G)
      ⟨⟨_, rfl⟩, by rw [show ((dr.take 0).map fun x => (x, r0)) = [] from rfl, withD_nil W6.dr]; exact L6, by rw [show ((dr.take 0).map fun x => (x, r0)) = [] from rfl, withD_nil W6.dr]; exact hOk, Keep.refl⟩ (fun i σ G _ z => SqL.of (z.2.2.2.flat _ _ hpd6 (flat_strs _))) ?_ ?_
    · rintro i y σ G hi ⟨⟨x7, rfl⟩, hL, o, kG⟩
      rw [List.getElem?_map] at hi
      obtain ⟨z, ez, rfl⟩ := Option.map_eq_some_iff.mp hi
      have mz := List.mem_of_getElem? ez
      have li := (List.getElem?_eq_some_iff.mp ez).1
      have tk : dr.take (i + 1) = dr.take i ++ [z] := by
        rw [List.take_add_one, ez]
        rfl
      have new : z ∉ dr.take i := fun w => by
        have n2 : (dr.take (i + 1)).Nodup := drN.take
        rw [tk] at n2
        exact (List.nodup_append.mp n2).2.2 z w z (.head _) rfl
      have kd : keys ((dr.take i).map fun x => (x, r0)) = dr.take i := by
        rw [keys, List.map_map]
        exact List.map_id _
      have due : (S.withD ((dr.take i).map fun x => (x, r0))).due (.addDrain z r0) = none := by
        have t0 : (S.withD ((dr.take i).map fun x => (x, r0))).taken z = false := by
          show (decide (z ∈ keys S.lines) || decide (z ∈ keys ((dr.take i).map fun x => (x, r0)))) = false
          rw [kd, decide_eq_false (drS z mz), decide_eq_false new]
          rfl
        show (if (S.withD ((dr.take i).map fun x => (x, r0))).taken z = true then some (Rf.there z) else if r0 ∉ S.rooms then some (.lacks r0) else if 12 ≤ ((dr.take i).map fun x => (x, r0)).length then some (.tooMany 12) else none) = none
        rw [t0, if_neg (by simp), if_neg (fun w => w mr0), if_neg (by rw [List.length_map, List.length_take]; omega)]
      obtain ⟨⟨dx, ob⟩, _⟩ := id hL
      have WG := W6.keep kG am.1 am.2
      refine ⟨_, rfl, A.p, dx, _, rfl, ob, lfl_no A (by decide +kernel), _, rfl, _, rfl, m, _, rfl, dget_of WG.top (ktop_d c e l b), e, _, 0, _, rfl, rfl, SqL.of WG.dn, ar0, ?_⟩
      refine ⟨A, .str z, .str r0, true, true, _, rfl, hL, o, NameQ.of (drG z mz), NameQ.of gr0, (fun w => Bool.noConfusion w), (fun _ w => Bool.noConfusion w), fun z1 z2 ez1 ez2 _ _ => ?_⟩
      cases ez1
      cases ez2
      have put : (S.withD ((dr.take i).map fun x => (x, r0))).put (.addDrain z r0) = S.withD ((dr.take (i + 1)).map fun x => (x, r0)) := by
        rw [tk, List.map_append]
        rfl
      refine ⟨fun _ G3 hL2 k2 => ⟨⟨_, rfl⟩, ?_, ?_, kG.trans k2⟩, fun f df => by rw [due] at df; cases df⟩
      · rw [← put]
        exact hL2
      · rw [← put]
        exact o.put (D := .addDrain z r0) ⟨drG z mz, gr0⟩ due
    rintro σ G ⟨⟨x7, rfl⟩, hL, o, kG⟩
    rw [List.length_map, List.take_length] at hL o
    have kd : keys (dr.map fun x => (x, r0)) = dr := by
      rw [keys, List.map_map]
      exact List.map_id _
    have Q7 : StQ L G p q m c e l b A S (dr.map fun x => (x, r0)) := ⟨B6.kept kG pA, W6.keep kG am.1 am.2, hL, o, fun x m1 m2 => drS x (by rw [kd] at m2; exact m2) m1, am⟩
    have hpd7 := kG.flat _ _ hpd6 (flat_strs _)
    generalize (dr.map fun x => (x, r0)) = D at Q7 kd
    clear hL o kG W6 L6 B6 hpd6 pA am
    -- very
    refine ⟨(by show 0 ≤ sizeLine; decide), fun pv hpv => ?_⟩
    have sv := Same.newp (o := .lst []) hpv
    have pv8 : upd G pv (.lst []) pv = some (.lst (([] : List Str).map V.str)) := upd_same
    have vOff := Q7.off hpv
    have Q8 := Q7.same sv
    have hpd8 := sv _ _ hpd7
    have vpd : pv ≠ pd := (ne_of_none hpd7 hpv).symm
    generalize upd G pv (.lst []) = H8 at pv8 Q8 hpd8
    clear sv hpv Q7 hpd7
    -- odd
    refine ⟨_, rfl, _, rfl, m, _, rfl, dget_of Q8.wk.top (ktop_d c e l b), pd, e, _, _, rfl, rfl, hpd8, Q8.wk.dn, ?_, fun o1 ho1 => ?_⟩
    · rw [List.length_map, List.length_map]
      have := hOk.rL
      exact Nat.le_of_lt (small1000 (by omega))
    have so1 := Same.newp (o := .lst (dr.map V.str ++ S.rooms.map V.str)) ho1
    have fo1 : upd H8 o1 (.lst (dr.map V.str ++ S.rooms.map V.str)) o1 = some (.lst ((dr ++ S.rooms).map V.str)) := by
      rw [upd_same, List.map_append]
    have Q9 := Q8.same so1
    have hpd9 := so1 _ _ hpd8
    have pv9 := so1 _ _ pv8
    generalize upd H8 o1 (.lst (dr.map V.str ++ S.rooms.map V.str)) = H9 at fo1 Q9 hpd9 pv9
    refine ⟨_, rfl, p, q, rfl, Q9.bag, fun z1 Ha gz1 Ba Ka => ⟨_, rfl, p, q, rfl, Ba, fun z2 Hb gz2 Bb Kb => ⟨(by show 2 ≤ sizeLine; decide), fun o2 ho2 => ?_⟩⟩⟩
    have Kab := Ka.trans Kb
    have Qb := Q9.keep Kab Bb
    have hpdb := Kab.flat _ _ hpd9 (flat_strs _)
    have pvb := Kab.flat _ _ pv9 (flat_strs _)
    have fob := Kab.flat _ _ fo1 (flat_strs _)
    have so2 := Same.newp (o := .lst [.str z1, .str z2]) ho2
    refine ⟨o1, o2, _, _, rfl, rfl, so2 _ _ fob, upd_same, ?_, fun o3 ho3 => ?_⟩
    · rw [List.length_map, List.length_append]
      have := hOk.rL
      exact Nat.le_of_lt (small1000 (by show _ + 2 ≤ 1000; omega))
    have so3 := so2.trans (Same.newp (o := .lst ((dr ++ S.rooms).map V.str ++ [.str z1, .str z2])) ho3)
    have fo3 : upd (upd Hb o2 (.lst [.str z1, .str z2])) o3 (.lst ((dr ++ S.rooms).map V.str ++ [.str z1, .str z2])) o3 = some (.lst ((dr ++ S.rooms ++ [z1, z2]).map V.str)) := by
      rw [upd_same, List.map_append (l₁ := dr ++ S.rooms)]
      rfl
    have Qc := Qb.same so3
    have hpdc := so3 _ _ hpdb
    have pvc := so3 _ _ pvb
    generalize upd (upd Hb o2 (.lst [.str z1, .str z2])) o3 (.lst ((dr ++ S.rooms).map V.str ++ [.str z1, .str z2])) = Hc at fo3 Qc hpdc pvc
    have odG : ∀ x ∈ dr ++ S.rooms ++ [z1, z2], okName x = true := fun x mx => by
      rcases List.mem_append.mp mx with mx | mx
      · exact (List.mem_append.mp mx).elim (drG x) (hOk.rG x)
      · rcases List.mem_cons.mp mx with w | w
        · rw [w]
          exact gz1
        · rw [List.mem_singleton.mp w]
          exact gz2
    have odL : (dr ++ S.rooms ++ [z1, z2]).length ≤ 28 ∧ 2 ≤ (dr ++ S.rooms ++ [z1, z2]).length := by
      rw [List.length_append, List.length_append]
      have := hOk.rL
      constructor
      · show _ + _ + 2 ≤ 28
        omega
      · show 2 ≤ _ + _ + 2
        omega
    generalize dr ++ S.rooms ++ [z1, z2] = od0 at fo3 odG odL
    clear so2 so3 Qb hpdb pvb fob Kab Q9 hpd9 pv9 fo1 Q8 hpd8 pv8 Ka Kb Ba Bb ho1 ho2 ho3 so1
    obtain ⟨k2, l1, l2⟩ := Qc.wk.ln
    refine ⟨_, rfl, l, _, l1, True.intro, fun od => ?_⟩
    have mL : upd Hc l (.frz od (.dK k2)) m = some (.dK (ktop c e l b)) := (upd_ne Qc.wk.mne).trans Qc.wk.top
    refine ⟨_, rfl, m, _, rfl, dget_of mL (ktop_l c e l b), l, od, rfl, .inl ⟨k2, upd_same, fun F hF => ?_⟩⟩
    refine lc_it walk_keys (fun i H1 => Same (upd Hc l (.frz od (.dK k2))) H1 ∧ H1 F = some (.lst ((keys ((S.lines.take i).filter fun e => decide (V.int e.2.2.2 = V.int 0))).map V.str))) ⟨Same.newp hF, upd_same⟩ (fun _ _ _ q => q.1 _ _ upd_same) ?_ ?_
    · rintro i x H1 H2 hi ⟨e2, h1⟩ ⟨rfl, kk, vv, ek, rfl⟩
      obtain ⟨q, eq, e3, t, et, ht⟩ := Kr.at l2 ek
      have e3' : kk = Sum.inr q.1 := e3
      have et' : vv = .ref t := et
      subst e3' et'
      have ev : valV k2 (Sum.inr q.1) = some (.ref t) := valV_at l2 hOk.lN ek
      have ht2 : H2 t = some (.tup [.str q.2.1, .str q.2.2.1, .int q.2.2.2]) := e2 _ _ ((upd_ne (ne_of ht l1 (by intro w; cases w))).trans ht)
      have tk : S.lines.take (i + 1) = S.lines.take i ++ [q] := by
        rw [List.take_add_one, eq]
        rfl
      refine ⟨rfl, _, rfl, m, _, rfl, dget_of (e2 _ _ mL) (ktop_l c e l b), _, rfl, l, _, rfl, dget_rd (.inr ⟨od, e2 _ _ upd_same⟩) ev, t, _, 2, _, rfl, rfl, SqT.of ht2, rfl, rfl, _, rfl, ?_⟩
      by_cases hb : V.int q.2.2.2 = V.int 0
      · refine if_t (decide_eq_true hb) ⟨_, rfl, _, h1, ?_, fun c u w => ?_, ?_⟩
        · rw [List.length_map, keys, List.length_map]
          refine small1000 ?_
          have a1 := List.length_filter_le (fun e : Str × LineV => decide (V.int e.2.2.2 = V.int 0)) (S.lines.take i)
          rw [List.length_take] at a1
          have := hOk.lL
          omega
        · rw [upd_ne (ne_of_none w hF)]
          exact e2 _ _ w
        · rw [upd_same, tk, List.filter_append, List.filter_cons, if_pos (decide_eq_true hb), List.filter_nil, show keys (List.filter (fun e : Str × LineV => decide (V.int e.2.2.2 = V.int 0)) (S.lines.take i) ++ [q]) = keys (List.filter (fun e : Str × LineV => decide (V.int e.2.2.2 = V.int 0)) (S.lines.take i)) ++ [q.1] by simp [keys], List.map_append]
          rfl
      · refine if_f (decide_eq_false hb) ⟨e2, ?_⟩
        rw [tk, List.filter_append, List.filter_cons, if_neg (by simpa using hb), List.filter_nil, List.append_nil]
        exact h1
    rintro H1 ⟨e2, h1⟩
    have nDl : F ≠ l := fun w => by
      rw [w, upd_same] at hF
      cases hF
    rw [l2.len, List.take_length] at h1
    have sU : Same Hc (upd H1 l (.dK k2)) := same_unlock l1 e2
    have hU : upd H1 l (.dK k2) F = some (.lst ((keys (S.lines.filter fun e => decide (V.int e.2.2.2 = V.int 0))).map V.str)) := (upd_ne nDl).trans h1
    refine ⟨e2 _ _ upd_same, ?_⟩
    have zl : (keys (S.lines.filter fun e => decide (V.int e.2.2.2 = V.int 0))).length ≤ 40 := by
      rw [keys, List.length_map]
      exact Nat.le_trans (List.length_filter_le _ _) hOk.lL
    have zG : ∀ x ∈ keys (S.lines.filter fun e => decide (V.int e.2.2.2 = V.int 0)), okName x = true := fun x mx => by
      obtain ⟨e, me, rfl⟩ := List.mem_map.mp mx
      exact hOk.lG _ (List.mem_map_of_mem (List.mem_filter.mp me).1)
    generalize keys (S.lines.filter fun e => decide (V.int e.2.2.2 = V.int 0)) = zs at hU zl zG
    generalize upd H1 l (.dK k2) = G at sU hU ⊢
    refine ⟨o3, F, _, _, rfl, rfl, sU _ _ fo3, hU, ?_, fun po hpo => ?_⟩
    · rw [List.length_map, List.length_map]
      exact Nat.le_of_lt (small1000 (by omega))
    have sE := sU.trans (Same.newp (o := .lst (od0.map V.str ++ zs.map V.str)) hpo)
    have fpo : upd G po (.lst (od0.map V.str ++ zs.map V.str)) po = some (.lst ((od0 ++ zs).map V.str)) := by
      rw [upd_same, List.map_append]
    have Q0 := Qc.same sE
    have R0 : RestQ (upd G po (.lst (od0.map V.str ++ zs.map V.str))) pd po pv dr (od0 ++ zs) := ⟨sE _ _ hpdc, fpo, ⟨[], sE _ _ pvc⟩⟩
    have vpo : pv ≠ po := (ne_of_none (sU _ _ pvc) hpo).symm.symm
    have odG' : ∀ x ∈ od0 ++ zs, okName x = true := fun x mx => (List.mem_append.mp mx).elim (odG x) (zG x)
    have odL' : (od0 ++ zs).length ≤ 68 ∧ 2 ≤ (od0 ++ zs).length := by
      rw [List.length_append]
      omega
    generalize upd G po (.lst (od0.map V.str ++ zs.map V.str)) = H0 at Q0 R0 ⊢
    generalize od0 ++ zs = od' at R0 odG' odL'
    clear sE fpo sU hU h1 e2 mL l2 l1 Qc hpdc pvc fo3 odG odL zl zG
    refine ⟨4, rfl, by decide, by decide, ?_⟩
    refine for_range (lo := 0) (n := (4 : Int).toNat) (fun i σ G => (∃ x7 x10 x11 x12 x13 x14 : Option V, σ = [some (.ref a), some (.ref p), some (.int n), some (.int j), some (.ref m), some (.ref A.p), some (.ref pd), x7, some (.ref pv), some (.ref po), x10, x11, x12, x13, x14, none, none, none]) ∧ (∃ S' : LS, StQ L G p q m c e l b A S' D ∧ S'.rooms = S.rooms ∧ S'.sources = S.sources) ∧ RestQ G pd po pv dr od') ⟨⟨_, _, _, _, _, _, rfl⟩, ⟨S, Q0, rfl, rfl⟩, R0⟩ ?_ ?_
    · rintro i σ G hi ⟨⟨x7, x10, x11, x12, x13, x14, rfl⟩, ⟨S', QG, eR, eS⟩, RG⟩
      refine ⟨_, rfl, _, rfl, p, q, m, c, e, l, b, S', rfl, QG.bag, QG.wk, fun pn xs G1 hn nd sb B1 K1 pn0 => ?_⟩
      have nOff := QG.off pn0
      have rOff := RG.off pn0
      have okx : ∀ x ∈ xs, okName x = true := fun x mx => swOf_ok QG.wk.ok x (sb x mx)
      have lx : xs.length ≤ 40 := Nat.le_trans (nodup_len nd sb) (swOf_len QG.wk.ok)
      replace QG := QG.keep K1 B1
      replace RG := RG.keep K1
      clear K1 B1 sb pn0
      refine ⟨(by show 4 ≤ sizeLine; decide), fun l4 hl4 => ?_⟩
      have s4 := Same.newp (o := .lst [V.int 0, V.int 1, V.int 2, V.int 0]) hl4
      refine ⟨_, rfl, p, q, 4, rfl, QG.bag.same s4, by decide, by decide, fun v G2 v0 v1 B2 b2 => ?_⟩
      have k2 : Keep [p] (upd G1 l4 (.lst [V.int 0, V.int 1, V.int 2, V.int 0])) G2 := Keep.bag (QG.bag.same s4) B2 b2 (by simp)
      obtain ⟨N, eN, N2⟩ := pick4 v0 v1
      refine ⟨l4, _, v, _, rfl, rfl, SqL.of (k2.flat _ _ upd_same rfl), eN, (N : Int), rfl, by omega, by omega, ?_⟩
      have K12 := (Keep.of (ms := [p]) s4).trans k2
      replace QG := QG.keep K12 B2
      replace RG := RG.keep K12
      replace hn := K12.flat _ _ hn (flat_strs _)
      clear K12 k2 s4 b2 B2 hl4
      refine for_range (lo := 0) (n := (N : Int).toNat) (fun k' σ G => (∃ x7 x12 : Option V, σ = [some (.ref a), some (.ref p), some (.int n), some (.int j), some (.ref m), some (.ref A.p), some (.ref pd), x7, some (.ref pv), some (.ref po), some (.int (0 + (i : Int))), some (.ref pn), x12, x13, x14, none, none, none]) ∧ StQ L G p q m c e l b A S' D ∧ RestQ G pd po pv dr od' ∧ ∃ xs : List Str, G pn = some (.lst (xs.map V.str)) ∧ xs.Nodup ∧ (∀ x ∈ xs, okName x = true) ∧ xs.length ≤ 40 + k') ⟨⟨_, _, rfl⟩, QG, RG, xs, hn, nd, okx, lx⟩ ?_ ?_
      · rintro k' σ G hk ⟨⟨y7, y12, rfl⟩, QG, RG, xs, hn, nd, okx, lx⟩
        have lk : k' < 2 := by omega
        refine ⟨_, rfl, _, rfl, _, rfl, po, _, rfl, .inl (SqL.of RG.po), p, q, _, rfl, QG.bag, by rw [List.length_map]; omega, by rw [List.length_map]; omega, fun u G1 u0 u1 B1 b1 => ?_⟩
        rw [List.length_map] at u1
        obtain ⟨z, ez, az⟩ := atI_strs u0 u1
        have k1 : Keep [p] G G1 := Keep.bag QG.bag B1 b1 (by simp)
        replace QG := QG.keep k1 B1
        replace RG := RG.keep k1
        replace hn := k1.flat _ _ hn (flat_strs _)
        have gz := odG' z (List.mem_of_getElem? ez)
        refine ⟨po, _, u, _, rfl, rfl, SqL.of RG.po, az, ?_⟩
        refine ⟨_, rfl, _, rfl, pn, _, rfl, .inl (SqL.of hn), rfl, flat_strs _, _, rfl, ?_⟩
        by_cases mz : z ∈ xs
        · exact if_f (by show (!inV (.str z) (xs.map V.str)) = false; rw [inV_strs, decide_eq_true mz]; rfl) ⟨⟨_, _, rfl⟩, QG, RG, xs, hn, nd, okx, by omega⟩
        refine if_t (by show (!inV (.str z) (xs.map V.str)) = true; rw [inV_strs, decide_eq_false mz]; rfl) ?_
        refine ⟨_, rfl, .inl ⟨rfl, _, SqL.of hn⟩, _, rfl, _, rfl, pn, _, rfl, .inl (SqL.of hn), _, _, rfl, rfl, p, q, _, rfl, QG.bag, by rw [List.length_map]; omega, by rw [List.length_map]; omega, fun w G3 w0 w1 B3 b3 => ?_⟩
        rw [List.length_map] at w1
        have k3 : Keep [p] G1 G3 := Keep.bag QG.bag B3 b3 (by simp)
        replace QG := QG.keep k3 B3
        replace RG := RG.keep k3
        replace hn := k3.flat _ _ hn (flat_strs _)
        have ii := ins_nodup w.toNat nd mz
        have em : ((xs.map V.str).take w.toNat ++ [V.str z] ++ (xs.map V.str).drop w.toNat) = (xs.take w.toNat ++ [z] ++ xs.drop w.toNat).map V.str := by
          rw [List.map_append, List.map_append, List.map_take, List.map_drop]
          rfl
        refine ⟨_, rfl, pn, _, w, _, rfl, rfl, hn, ?_, w0, by omega, ⟨_, _, rfl⟩, QG.write hn nOff, RG.write rOff, _, upd_same.trans (by rw [em]), ii.1, fun x mx => ?_, ?_⟩
        · rw [List.length_map]
          exact small1000 (by omega)
        · rcases ii.2 x mx with h | h
          · rw [h]
            exact gz
          · exact okx x h
        · rw [List.length_append, List.length_append, List.length_take, List.length_drop]
          show _ + 1 + _ ≤ _
          omega
      rintro σ G ⟨⟨y7, y12, rfl⟩, QG, RG, xs, hn, nd, okx, lx⟩
      have l42 : xs.length ≤ 42 := by omega
      clear lx
      -- what is said and what is due
      have both : ∀ {G4 : Hp} {h : Addr} {S1 : LS}, StQ L G4 p q m c e l b A S1 D → G4 h = some (.lst (xs.map V.str)) → G4 pn = some (.lst (xs.map V.str)) → ∀ {R : V → Hp → Prop}, (∀ (G6 : Hp) (t1 t2 : Addr) (d : PyData), Same G4 G6 → Dp K G6 (.ref t1) d → Dp K G6 (.ref t2) d → Fine d → R (.ref t1) G6 → True) → True := fun _ _ _ _ _ => True.intro
      clear both
      refine ⟨2, rfl, by decide, by decide, ?_⟩
      refine for_range (lo := 0) (n := (2 : Int).toNat) (fun k' σ G => (∃ x13 x14 : Option V, σ = [some (.ref a), some (.ref p), some (.int n), some (.int j), some (.ref m), some (.ref A.p), some (.ref pd), y7, some (.ref pv), some (.ref po), some (.int (0 + (i : Int))), some (.ref pn), y12, x13, x14, none, none, none]) ∧ StQ L G p q m c e l b A S' D ∧ RestQ G pd po pv dr od' ∧ G pn = some (.lst (xs.map V.str))) ⟨⟨_, _, rfl⟩, QG, RG, hn⟩ ?_ ?_
      · rintro k' σ G hk ⟨⟨z13, z14, rfl⟩, QG, RG, hn⟩
        obtain ⟨vs, hv⟩ := RG.pv
        have vn : pv ≠ pn := rOff.2.2.symm
        refine ⟨_, rfl, .inl ⟨rfl, _, SqL.of hv⟩, pv, _, rfl, rfl, hv, ?_⟩
        have QG1 := QG.write (ys := []) hv vOff
        have hv1 : upd G pv (.lst []) pv = some (.lst []) := upd_same
        have hn1 : upd G pv (.lst []) pn = _ := (upd_ne vn.symm).trans hn
        have pd1 : upd G pv (.lst []) pd = _ := (upd_ne vpd.symm).trans RG.pd
        have po1 : upd G pv (.lst []) po = _ := (upd_ne vpo.symm).trans RG.po
        generalize upd G pv (.lst []) = G1 at QG1 hv1 hn1 pd1 po1 ⊢
        refine ⟨_, rfl, .inl ⟨rfl, _, SqL.of hv1⟩, _, rfl, pv, pn, _, _, rfl, rfl, hv1, hn1, ?_, ?_⟩
        · rw [List.length_map]
          exact Nat.le_of_lt (small1000 (by show 0 + _ ≤ 1000; omega))
        have QG2 := QG1.write (ys := [] ++ xs.map V.str) hv1 vOff
        have hv2 : upd G1 pv (.lst ([] ++ xs.map V.str)) pv = some (.lst (xs.map V.str)) := upd_same
        have hn2 : upd G1 pv (.lst ([] ++ xs.map V.str)) pn = _ := (upd_ne vn.symm).trans hn1
        have pd2 : upd G1 pv (.lst ([] ++ xs.map V.str)) pd = _ := (upd_ne vpd.symm).trans pd1
        have po2 : upd G1 pv (.lst ([] ++ xs.map V.str)) po = _ := (upd_ne vpo.symm).trans po1
        generalize upd G1 pv (.lst ([] ++ xs.map V.str)) = G2 at QG2 hv2 hn2 pd2 po2 ⊢
        have RG2 : RestQ G2 pd po pv dr od' := ⟨pd2, po2, ⟨xs, hv2⟩⟩
        clear QG QG1 RG hv1 hn1 pd1 po1 pd2 po2 hv hn
        refine ⟨_, rfl, _, rfl, pn, _, rfl, .inl (SqL.of hn2), fun c1 hc1 => ⟨(by show 2 ≤ sizeLine; decide), fun c2 hc2 => ?_⟩⟩
        have s1 := Same.newp (o := .lst (xs.map V.str)) hc1
        have f1 : upd G2 c1 (.lst (xs.map V.str)) c1 = some (.lst (xs.map V.str)) := upd_same
        have s2 := Same.newp (o := .lst [.ref pv, .ref c1]) hc2
        have f1' := s2 _ _ f1
        have f2 : upd (upd G2 c1 (.lst (xs.map V.str))) c2 (.lst [.ref pv, .ref c1]) c2 = some (.lst [.ref pv, .ref c1]) := upd_same
        have s12 := s1.trans s2
        generalize upd (upd G2 c1 (.lst (xs.map V.str))) c2 (.lst [.ref pv, .ref c1]) = G3 at f1' f2 s12 ⊢
        obtain ⟨h, eh, hh⟩ : ∃ h : Addr, atI [V.ref pv, V.ref c1] (0 + (k' : Int)) = some (.ref h) ∧ G3 h = some (.lst (xs.map V.str)) := by
          have : k' = 0 ∨ k' = 1 := by omega
          rcases this with rfl | rfl
          · exact ⟨pv, rfl, s12 _ _ hv2⟩
          · exact ⟨c1, rfl, f1'⟩
        have QG3 := QG2.same s12
        have RG3 := RG2.same s12
        have hn3 := s12 _ _ hn2
        refine ⟨_, rfl, c2, _, _, _, rfl, rfl, SqL.of f2, eh, ?_⟩
        refine ⟨_, rfl, _, rfl, .ref A.p, .ref h, _, _, rfl, ask_out QG3.lay QG3.ok hh nd (by omega) okx, fun G4 t1 e4 ht1 => ?_⟩
        have QG4 := QG3.same e4
        refine ⟨_, rfl, _, rfl, m, c, e, l, b, pn, S', xs, rfl, QG4.wk, e4 _ _ hn3, fun G5 t2 e5 ht2 => ?_⟩
        have sm := outD_sm QG4.wk.ok okx (by omega)
        refine ⟨_, _, _, rfl, costD_dp (e5 _ _ ht1) outD_dp, costD_dp ht2 outD_dp, costD_fine sm, _, rfl, ?_⟩
        refine if_f rfl ?_
        have s35 := e4.trans e5
        have nf := names_fine okx (by omega)
        refine ⟨_, rfl, _, rfl, _, _, names_dp (s35 _ _ hh), names_dp (s35 _ _ hn3), nf.shaped, nf.shaped, _, rfl, ?_⟩
        refine if_f ?_ ⟨⟨_, _, rfl⟩, QG4.same e5, RG3.same s35, s35 _ _ hn3⟩
        rw [names_self okx]
        rfl
      rintro σ G ⟨⟨z13, z14, rfl⟩, QG, RG, hn⟩
      refine ⟨fun σ' G' => σ' = [some (.ref a), some (.ref p), some (.int n), some (.int j), some (.ref m), some (.ref A.p), some (.ref pd), y7, some (.ref pv), some (.ref po), some (.int (0 + (i : Int))), some (.ref pn), y12, z13, z14, none, none, none] ∧ (∃ S1 : LS, StQ L G' p q m c e l b A S1 D ∧ S1.rooms = S.rooms ∧ S1.sources = S.sources) ∧ RestQ G' pd po pv dr od' ∧ G' pn = some (.lst (xs.map V.str)), ?_, ?_⟩
      · refine ⟨_, rfl, (by show 0 ≤ sizeLine; decide), fun e0 he0 => ?_⟩
        have s0 := Same.newp (o := .lst []) he0
        replace hn := s0 _ _ hn
        replace QG := QG.same s0
        replace RG := RG.same s0
        refine ⟨_, _, names_dp hn, .lst (SqL.of upd_same) .nil, (names_fine okx (by omega)).shaped, fine_nil.shaped, _, rfl, ?_⟩
        rw [eqv_nil]
        generalize upd G e0 (.lst []) = G1 at hn QG RG ⊢
        by_cases z0 : xs = []
        · exact if_f (by rw [decide_eq_true z0]; rfl) ⟨rfl, ⟨S', QG, eR, eS⟩, RG, hn⟩
        refine if_t (by rw [decide_eq_false z0]; rfl) ?_
        have lp : 0 < xs.length := List.length_pos_iff.mpr z0
        refine ⟨_, rfl, p, q, 2, rfl, QG.bag, by decide, by decide, fun v G2 v0 v1 B2 b2 => ?_⟩
        have k2 : Keep [p] G1 G2 := Keep.bag QG.bag B2 b2 (by simp)
        replace QG := QG.keep k2 B2
        replace RG := RG.keep k2
        replace hn := k2.flat _ _ hn (flat_strs _)
        refine ⟨rfl, _, rfl, ?_⟩
        refine ite2 (fun _ => ?_) fun _ => ⟨rfl, ⟨S', QG, eR, eS⟩, RG, hn⟩
        refine ⟨_, rfl, _, rfl, _, rfl, _, rfl, _, rfl, _, rfl, pn, _, rfl, .inl (SqL.of hn), p, q, _, rfl, QG.bag, by rw [List.length_map]; omega, by rw [List.length_map]; omega, fun u G3 u0 u1 B3 b3 => ?_⟩
        rw [List.length_map] at u1
        obtain ⟨z, ez, az⟩ := atI_strs u0 u1
        have k3 : Keep [p] G2 G3 := Keep.bag QG.bag B3 b3 (by simp)
        replace QG := QG.keep k3 B3
        replace RG := RG.keep k3
        replace hn := k3.flat _ _ hn (flat_strs _)
        refine ⟨pn, _, u, _, rfl, rfl, SqL.of hn, az, ?_⟩
        refine ⟨p, q, m, c, e, l, b, A, S', D, z, rfl, QG, okx z (List.mem_of_getElem? ez), fun S1 G4 Q4 k4 r4 o4 => ?_⟩
        replace RG := RG.keep k4
        replace hn := k4.flat _ _ hn (flat_strs _)
        refine ⟨_, rfl, _, rfl, pn, _, rfl, .inl (SqL.of hn), fun c1 hc1 => ?_⟩
        have s1 := Same.newp (o := .lst (xs.map V.str)) hc1
        have Q5 := Q4.same s1
        have hn5 := s1 _ _ hn
        refine ⟨.ref A.p, .ref c1, _, _, rfl, ask_out Q5.lay Q5.ok upd_same nd (by omega) okx, fun G6 t1 e6 ht1 => ?_⟩
        have Q6 := Q5.same e6
        refine ⟨_, rfl, _, rfl, m, c, e, l, b, pn, S1, xs, rfl, Q6.wk, e6 _ _ hn5, fun G7 t2 e7 ht2 => ?_⟩
        have sm := outD_sm Q6.wk.ok okx (by omega)
        refine ⟨_, _, _, rfl, costD_dp (e7 _ _ ht1) outD_dp, costD_dp ht2 outD_dp, costD_fine sm, _, rfl, ?_⟩
        have s67 := (s1.trans e6).trans e7
        exact if_f rfl ⟨rfl, ⟨S1, Q6.same e7, r4.trans eR, o4.trans eS⟩, RG.same s67, s67 _ _ hn⟩
      clear QG RG hn
      rintro σ' G ⟨rfl, ⟨S1, QG, r1, o1⟩, RG, hn⟩
      refine ⟨_, rfl, _, rfl, _, rfl, p, q, pn, A, S1.withD D, xs, rfl, QG.bag, QG.lay, QG.pn, hn, okx, by omega, fun G1 B1 K1 => ⟨_, rfl, ?_⟩⟩
      exact if_f rfl ⟨⟨_, _, _, _, _, _, rfl⟩, ⟨S1, QG.keep K1 B1, r1, o1⟩, RG.keep K1⟩
    rintro σ G ⟨⟨x7, x10, x11, x12, x13, x14, rfl⟩, ⟨S', QG, eR, eS⟩, RG⟩
    clear odG' odL' vOff vpd vpo Q0 R0
    obtain ⟨⟨dx, ob⟩, _⟩ := id QG.lay
    have hOk' := QG.wk.ok
    obtain ⟨kv, hl, hk⟩ := QG.wk.ln
    refine ⟨_, rfl, A.p, dx, _, rfl, ob, lfl_no A (by decide +kernel), A, S'.withD D, rfl, QG.lay, QG.ok, fun G1 r1 rs p1 t1 e1 _ h1 => ?_⟩
    refine ⟨_, rfl, A.p, dx, _, rfl, e1 _ _ ob, lfl_no A (by decide +kernel), A, S'.withD D, rfl, QG.lay.same e1, QG.ok, fun G2 r2 ls p2 t2 e2 _ h2 => ?_⟩
    have e12 := e1.trans e2
    refine ⟨_, rfl, A.p, dx, _, rfl, e12 _ _ ob, lfl_no A (by decide +kernel), A, S'.withD D, rfl, QG.lay.same e12, QG.ok, fun G3 r3 ds p3 t3 e3 _ h3 => ?_⟩
    have e13 := e12.trans e3
    refine ⟨_, rfl, A.p, dx, _, rfl, e13 _ _ ob, lfl_no A (by decide +kernel), A, S'.withD D, rfl, QG.lay.same e13, QG.ok, fun G4 r4 ss p4 t4 e4 _ h4 => ?_⟩
    have e14 := e13.trans e4
    refine ⟨_, rfl, A.p, dx, _, rfl, e14 _ _ ob, lfl_no A (by decide +kernel), A, S'.withD D, rfl, QG.lay.same e14, QG.ok, fun G5 r5 ls' p5 t5 e5 _ h5 => ?_⟩
    have e15 := e14.trans e5
    obtain rfl : ls' = ls := Srt.one (xs := keys S'.lines) ⟨p5, t5⟩ ⟨p2, t2⟩
    replace p2 : ls'.Perm (keys S'.lines) := p2
    replace p3 : ds.Perm (keys D) := p3
    have ll : ls'.length ≤ 40 := by
      rw [p2.length_eq, keys, List.length_map]
      exact hOk'.lL
    have a1 := e2.trans (e3.trans (e4.trans e5)) |> fun s => s _ _ h1
    have a2 := (e3.trans (e4.trans e5)) _ _ h2
    have a3 := (e4.trans e5) _ _ h3
    have a4 := e5 _ _ h4
    have Q5 := QG.same e15
    have R5 := RG.same e15
    have ob5 := e15 _ _ ob
    clear e1 e2 e3 e4 e5 e12 e13 e14 h1 h2 h3 h4 QG RG ob hl hk
    refine ⟨r5, rfl, ⟨_, SqL.of h5⟩, fun F hF => ?_⟩
    refine lc_list (K := K) (a := r5) (xs := ls'.map V.str) (fun i G => Same G5 G ∧ ∃ ts : List Addr, G F = some (.lst (ts.map V.ref)) ∧ LinesAt G S' ts (ls'.take i) ∧ ts.length = i) ⟨Same.newp hF, [], upd_same, .nil, rfl⟩ (fun i G _ z => SqL.of (z.1 _ _ h5)) ?_ ?_
    · rintro i y G hi ⟨s, ts, hf, la, tl⟩
      rw [List.getElem?_map] at hi
      obtain ⟨z, ez, rfl⟩ := Option.map_eq_some_iff.mp hi
      have li := (List.getElem?_eq_some_iff.mp ez).1
      have hk : z ∈ keys S'.lines := p2.mem_iff.mp (List.mem_of_getElem? ez)
      refine ⟨rfl, _, rfl, A.p, dx, _, rfl, s _ _ ob5, lfl_no A (by decide +kernel), _, rfl, A, .str z, true, S'.withD D, rfl, Q5.lay.same s, Q5.ok, NameQ.of (hOk'.lG z hk), (fun w => Bool.noConfusion w), fun z1 ez1 _ => ?_⟩
      cases ez1
      refine ⟨fun no => absurd hk (look_none.mp no), fun y ey G6 v e6 told => ?_⟩
      obtain ⟨t, rfl, ht⟩ := told
      have hf6 := e6 _ _ hf
      have ey' : look S'.lines z = some y := ey
      have off : ∀ x xs, G6 x = some (.tup xs) → upd G6 F (.lst (ts.map V.ref ++ [V.ref t])) x = some (.tup xs) := fun x xs w => (upd_ne (ne_of w hf6 (by intro w; cases w))).trans w
      refine ⟨_, hf6, ?_, fun b u w => ?_, ts ++ [t], ?_, ?_, ?_⟩
      · rw [List.length_map]
        exact small1000 (by omega)
      · rw [upd_ne (ne_of_none w hF)]
        exact e6 _ _ (s _ _ w)
      · rw [upd_same, List.map_append]
        rfl
      · rw [List.take_add_one, ez]
        refine Paired.snoc (Paired.mono (fun _ _ w => off _ _ (e6 _ _ w)) la) (off _ _ ?_)
        rw [lineV_of ey']
        exact ht
      · rw [List.length_append, tl]
        rfl
    rintro G6 ⟨s6, ts, hf6, la6, _⟩
    rw [List.length_map, List.take_length] at la6
    refine ⟨(by show 5 ≤ sizeLine; decide), fun c1 hc1 => ?_⟩
    have s7 := Same.newp (o := .lst [.ref r1, .ref r2, .ref r3, .ref r4, .ref F]) hc1
    have f7 : upd G6 c1 (.lst [.ref r1, .ref r2, .ref r3, .ref r4, .ref F]) c1 = some (.lst [.ref r1, .ref r2, .ref r3, .ref r4, .ref F]) := upd_same
    have s57 := s6.trans s7
    have hf7 := s7 _ _ hf6
    have la7 := la6.same s7
    replace a1 := s57 _ _ a1
    replace a2 := s57 _ _ a2
    replace a3 := s57 _ _ a3
    replace a4 := s57 _ _ a4
    have Q7 := Q5.same s57
    have R7 := R5.same s57
    generalize upd G6 c1 (.lst [.ref r1, .ref r2, .ref r3, .ref r4, .ref F]) = G7 at f7 hf7 la7 a1 a2 a3 a4 Q7 R7 ⊢
    clear s57 s7 s6 la6 hf6 Q5 R5 ob5 hF h5 e15
    obtain ⟨kv, hl, hk⟩ := Q7.wk.ln
    have kl : (keys S'.lines).length < 64 := by
      rw [← p2.length_eq]
      omega
    refine ⟨_, rfl, m, _, rfl, dget_of Q7.wk.top (ktop_l c e l b), l, kv, keys S'.lines, rfl, .inl hl, hk.names, kl, fun ls2 r6 p6 t6 hr6 => ?_⟩
    obtain rfl : ls2 = ls' := Srt.one (xs := keys S'.lines) ⟨p6, t6⟩ ⟨p2, t2⟩
    have s8 := Same.newp (o := .lst (ls2.map V.str)) hr6
    have f8 : upd G7 r6 (.lst (ls2.map V.str)) r6 = some (.lst (ls2.map V.str)) := upd_same
    generalize upd G7 r6 (.lst (ls2.map V.str)) = G8 at s8 f8 ⊢
    have Q8 := Q7.same s8
    refine ⟨r6, rfl, ⟨_, SqL.of f8⟩, fun F2 hF2 => ?_⟩
    refine lc_list (K := K) (a := r6) (xs := ls2.map V.str) (fun i G => Same G8 G ∧ ∃ ts : List Addr, G F2 = some (.lst (ts.map V.ref)) ∧ LinesAt G S' ts (ls2.take i) ∧ ts.length = i) ⟨Same.newp hF2, [], upd_same, .nil, rfl⟩ (fun i G _ z => SqL.of (z.1 _ _ f8)) ?_ ?_
    · rintro i y G hi ⟨s, ts, hf, la, tl⟩
      rw [List.getElem?_map] at hi
      obtain ⟨z, ez, rfl⟩ := Option.map_eq_some_iff.mp hi
      have li := (List.getElem?_eq_some_iff.mp ez).1
      have hkz : z ∈ keys S'.lines := p2.mem_iff.mp (List.mem_of_getElem? ez)
      have QG := Q8.same s
      obtain ⟨kv2, hl2, hk2⟩ := QG.wk.ln
      cases ey : look S'.lines z with
      | none => exact absurd hkz (look_none.mp ey)
      | some y =>
      obtain ⟨v, ev, t, rfl, ht⟩ := hk2.get ey
      have off : ∀ x xs, G x = some (.tup xs) → upd G F2 (.lst (ts.map V.ref ++ [V.ref t])) x = some (.tup xs) := fun x xs w => (upd_ne (ne_of w hf (by intro w; cases w))).trans w
      refine ⟨rfl, _, rfl, m, _, rfl, dget_of QG.wk.top (ktop_l c e l b), _, rfl, l, _, rfl, dget_of hl2 ev, _, hf, ?_, fun b u w => ?_, ts ++ [t], ?_, ?_, ?_⟩
      · rw [List.length_map]
        exact small1000 (by omega)
      · rw [upd_ne (ne_of_none w hF2)]
        exact s _ _ w
      · rw [upd_same, List.map_append]
        rfl
      · rw [List.take_add_one, ez]
        refine Paired.snoc (Paired.mono (fun _ _ w => off _ _ w) la) (off _ _ ?_)
        rw [lineV_of ey]
        exact ht
      · rw [List.length_append, tl]
        rfl
    rintro G9 ⟨s9, ts2, hf9, la9, _⟩
    rw [List.length_map, List.take_length] at la9
    have s79 := s8.trans s9
    have Q9 := Q7.same s79
    have R9 := R7.same s79
    replace a1 := s79 _ _ a1
    replace a2 := s79 _ _ a2
    replace a3 := s79 _ _ a3
    replace a4 := s79 _ _ a4
    replace f7 := s79 _ _ f7
    have hf9' := s79 _ _ hf7
    have la9' := la7.same s79
    clear hl hk Q8 f8 s8 s9 s79 Q7 R7 hf7 la7 hr6 hF2
    obtain ⟨kv, hl, hk⟩ := Q9.wk.ln
    obtain ⟨rs2, rS2, hc⟩ := Q9.wk.rm
    refine ⟨_, rfl, m, _, rfl, dget_of Q9.wk.top (ktop_r c e l b), _, rfl, m, _, rfl, dget_of Q9.wk.top (ktop_l c e l b), l, kv, keys S'.lines, rfl, .inl hl, hk.names, kl, fun ls3 r7 p7 t7 hr7 => ?_⟩
    obtain rfl : ls3 = ls2 := Srt.one (xs := keys S'.lines) ⟨p7, t7⟩ ⟨p2, t2⟩
    have sA := Same.newp (o := .lst (ls3.map V.str)) hr7
    have fA : upd G9 r7 (.lst (ls3.map V.str)) r7 = some (.lst (ls3.map V.str)) := upd_same
    generalize upd G9 r7 (.lst (ls3.map V.str)) = GA at sA fA ⊢
    refine ⟨_, rfl, pd, dr, rfl, SqL.of (sA _ _ R9.pd), by omega, fun ds2 r8 p8 t8 hr8 => ?_⟩
    obtain rfl : ds2 = ds := Srt.one (xs := keys D) ⟨by rw [kd]; exact p8, t8⟩ ⟨p3, t3⟩
    have sB := sA.trans (Same.newp (o := .lst (ds2.map V.str)) hr8)
    have fA' := (Same.newp (o := .lst (ds2.map V.str)) hr8) _ _ fA
    have fB : upd GA r8 (.lst (ds2.map V.str)) r8 = some (.lst (ds2.map V.str)) := upd_same
    generalize upd GA r8 (.lst (ds2.map V.str)) = GB at sB fA' fB ⊢
    have QB := Q9.same sB
    refine ⟨_, rfl, m, _, rfl, dget_of QB.wk.top (ktop_s c e l b), _, rfl, (by show 5 ≤ sizeLine; decide), fun c2 hc2 => ?_⟩
    have sC := Same.newp (o := .lst [.ref c, .ref r7, .ref r8, .ref b, .ref F2]) hc2
    have fC : upd GB c2 (.lst [.ref c, .ref r7, .ref r8, .ref b, .ref F2]) c2 = some (.lst [.ref c, .ref r7, .ref r8, .ref b, .ref F2]) := upd_same
    have s9C := sB.trans sC
    have QC := QB.same sC
    have r7C := sC _ _ fA'
    have r8C := sC _ _ fB
    generalize upd GB c2 (.lst [.ref c, .ref r7, .ref r8, .ref b, .ref F2]) = GC at fC s9C QC r7C r8C ⊢
    obtain rfl : rs = rs2 := Srt.one (xs := S'.rooms) ⟨p1, t1⟩ rS2
    obtain rfl : ss = S'.sources := Srt.one (xs := S'.sources) ⟨p4, t4⟩ ⟨List.Perm.refl _, QC.wk.ss⟩
    have o1 : ∀ x ∈ rs, okName x = true := fun x mx => hOk'.rG x (rS2.1.mem_iff.mp mx)
    have o2 : ∀ x ∈ ls3, okName x = true := fun x mx => hOk'.lG x (p2.mem_iff.mp mx)
    have o3 : ∀ x ∈ ds2, okName x = true := fun x mx => drG x (by rw [← kd]; exact p3.mem_iff.mp mx)
    have o4 : ∀ x ∈ S'.sources, okName x = true := fun x mx => hOk'.rG x (hOk'.sI x mx)
    have n1 : rs.length ≤ 60 := by
      rw [rS2.1.length_eq]
      have := hOk'.rL
      omega
    have n3 : ds2.length ≤ 60 := by
      rw [p3.length_eq, kd]
      omega
    have n4 : S'.sources.length ≤ 60 := by
      have := hOk'.sL
      omega
    have fin := toldQ_fine hOk' o1 n1 o2 (by omega) o3 n3 o4 n4
    refine ⟨_, rfl, _, rfl, _, _, toldQD S' rs ls3 ds2 S'.sources, rfl, ?_, ?_, fin, _, rfl, if_t rfl ?_⟩
    · exact .lst (SqL.of (s9C _ _ f7)) (.cons (names_dp (s9C _ _ a1)) (.cons (names_dp (s9C _ _ a2)) (.cons (names_dp (s9C _ _ a3)) (.cons (names_dp (s9C _ _ a4)) (.cons (.lst (SqL.of (s9C _ _ hf9')) (line_dps (la9'.same s9C))) .nil)))))
    · exact .lst (SqL.of fC) (.cons (names_dp (s9C _ _ hc)) (.cons (names_dp r7C) (.cons (names_dp r8C) (.cons (names_dp QC.wk.sc) (.cons (.lst (SqL.of (s9C _ _ hf9)) (line_dps (la9.same s9C))) .nil)))))
    intro x dx2 nx ndx nex
    refine ⟨x, dx2, rfl, upd_same, fun A1 H10 eA hL1 kp fresh has => ⟨rfl, (by show 0 ≤ sizeLine; decide), fun e0 he0 => ?_⟩⟩
    have s0 := Same.newp (o := .lst []) he0
    subst eA
    refine ⟨.ref A1.p, .ref e0, 9, .int 0, rfl, AskQ.told (xs := []) (hL1.same s0) okNew upd_same List.nodup_nil (by decide) (by intro x mx; cases mx) rfl, (fun w => absurd rfl w), fun _ GE _ => ?_⟩
    exact ⟨_, _, .int 0, rfl, .int 0, .int 0, (sm_int (by decide) (by decide)).fine (by decide) (by decide), k GE⟩
end
end SM
namespace SM
open PySem PySem.Spec PyProof.Rows L2
theorem all_mk {K : PySem.W.Frag} {h : Heap} {mg : Str → Option Value} (X : K.In h) (G : h.Ns mainGlobals mg)
    {fd0 : Addr} {fod0 kVd0 dcd0 pmd0 cdd0 ctd0 : Value} {odd0 and0 : Option Addr} {sld0 : Array (Option Value)}
    {fd1 : Addr} {fod1 kVd1 dcd1 pmd1 cdd1 ctd1 : Value} {odd1 and1 : Option Addr} {sld1 : Array (Option Value)}
    {fd2 : Addr} {fod2 kVd2 dcd2 pmd2 cdd2 ctd2 : Value} {odd2 and2 : Option Addr} {sld2 : Array (Option Value)}
    {fd3 : Addr} {fod3 kVd3 dcd3 pmd3 cdd3 ctd3 : Value} {odd3 and3 : Option Addr} {sld3 : Array (Option Value)}
    {fd4 : Addr} {fod4 kVd4 dcd4 pmd4 cdd4 ctd4 : Value} {odd4 and4 : Option Addr} {sld4 : Array (Option Value)}
    {fd5 : Addr} {fod5 kVd5 dcd5 pmd5 cdd5 ctd5 : Value} {odd5 and5 : Option Addr} {sld5 : Array (Option Value)}
    {fd6 : Addr} {fod6 kVd6 dcd6 pmd6 cdd6 ctd6 : Value} {odd6 and6 : Option Addr} {sld6 : Array (Option Value)}
    {fd7 : Addr} {fod7 kVd7 dcd7 pmd7 cdd7 ctd7 : Value} {odd7 and7 : Option Addr} {sld7 : Array (Option Value)}
    {fd8 : Addr} {fod8 kVd8 dcd8 pmd8 cdd8 ctd8 : Value} {odd8 and8 : Option Addr} {sld8 : Array (Option Value)}
    {fd9 : Addr} {fod9 kVd9 dcd9 pmd9 cdd9 ctd9 : Value} {odd9 and9 : Option Addr} {sld9 : Array (Option Value)}
    {fd10 : Addr} {fod10 kVd10 dcd10 pmd10 cdd10 ctd10 : Value} {odd10 and10 : Option Addr} {sld10 : Array (Option Value)}
    {fd11 : Addr} {fod11 kVd11 dcd11 pmd11 cdd11 ctd11 : Value} {odd11 and11 : Option Addr} {sld11 : Array (Option Value)}
    {fd12 : Addr} {fod12 kVd12 dcd12 pmd12 cdd12 ctd12 : Value} {odd12 and12 : Option Addr} {sld12 : Array (Option Value)}
    {fd13 : Addr} {fod13 kVd13 dcd13 pmd13 cdd13 ctd13 : Value} {odd13 and13 : Option Addr} {sld13 : Array (Option Value)}
    {fd14 : Addr} {fod14 kVd14 dcd14 pmd14 cdd14 ctd14 : Value} {odd14 and14 : Option Addr} {sld14 : Array (Option Value)}
    {fd15 : Addr} {fod15 kVd15 dcd15 pmd15 cdd15 ctd15 : Value} {odd15 and15 : Option Addr} {sld15 : Array (Option Value)}
    {fd16 : Addr} {fod16 kVd16 dcd16 pmd16 cdd16 ctd16 : Value} {odd16 and16 : Option Addr} {sld16 : Array (Option Value)}
    {fd17 : Addr} {fod17 kVd17 dcd17 pmd17 cdd17 ctd17 : Value} {odd17 and17 : Option Addr} {sld17 : Array (Option Value)}
    {fd18 : Addr} {fod18 kVd18 dcd18 pmd18 cdd18 ctd18 : Value} {odd18 and18 : Option Addr} {sld18 : Array (Option Value)}
    {fd19 : Addr} {fod19 kVd19 dcd19 pmd19 cdd19 ctd19 : Value} {odd19 and19 : Option Addr} {sld19 : Array (Option Value)}
    {fd20 : Addr} {fod20 kVd20 dcd20 pmd20 cdd20 ctd20 : Value} {odd20 and20 : Option Addr} {sld20 : Array (Option Value)}
    {fd21 : Addr} {fod21 kVd21 dcd21 pmd21 cdd21 ctd21 : Value} {odd21 and21 : Option Addr} {sld21 : Array (Option Value)}
    {fd22 : Addr} {fod22 kVd22 dcd22 pmd22 cdd22 ctd22 : Value} {odd22 and22 : Option Addr} {sld22 : Array (Option Value)}
    {fd23 : Addr} {fod23 kVd23 dcd23 pmd23 cdd23 ctd23 : Value} {odd23 and23 : Option Addr} {sld23 : Array (Option Value)}
    {fd24 : Addr} {fod24 kVd24 dcd24 pmd24 cdd24 ctd24 : Value} {odd24 and24 : Option Addr} {sld24 : Array (Option Value)}
    {fd25 : Addr} {fod25 kVd25 dcd25 pmd25 cdd25 ctd25 : Value} {odd25 and25 : Option Addr} {sld25 : Array (Option Value)}
    {fd26 : Addr} {fod26 kVd26 dcd26 pmd26 cdd26 ctd26 : Value} {odd26 and26 : Option Addr} {sld26 : Array (Option Value)}
    {fd27 : Addr} {fod27 kVd27 dcd27 pmd27 cdd27 ctd27 : Value} {odd27 and27 : Option Addr} {sld27 : Array (Option Value)}
    {CL : Addr}
    {fm0 : Addr} {fom0 kVm0 dcm0 pmm0 cdm0 ctm0 : Value} {odm0 anm0 : Option Addr} {slm0 : Array (Option Value)}
    {fm1 : Addr} {fom1 kVm1 dcm1 pmm1 cdm1 ctm1 : Value} {odm1 anm1 : Option Addr} {slm1 : Array (Option Value)}
    {fm2 : Addr} {fom2 kVm2 dcm2 pmm2 cdm2 ctm2 : Value} {odm2 anm2 : Option Addr} {slm2 : Array (Option Value)}
    {fm3 : Addr} {fom3 kVm3 dcm3 pmm3 cdm3 ctm3 : Value} {odm3 anm3 : Option Addr} {slm3 : Array (Option Value)}
    {fm4 : Addr} {fom4 kVm4 dcm4 pmm4 cdm4 ctm4 : Value} {odm4 anm4 : Option Addr} {slm4 : Array (Option Value)}
    {fm5 : Addr} {fom5 kVm5 dcm5 pmm5 cdm5 ctm5 : Value} {odm5 anm5 : Option Addr} {slm5 : Array (Option Value)}
    {fm6 : Addr} {fom6 kVm6 dcm6 pmm6 cdm6 ctm6 : Value} {odm6 anm6 : Option Addr} {slm6 : Array (Option Value)}
    {fm7 : Addr} {fom7 kVm7 dcm7 pmm7 cdm7 ctm7 : Value} {odm7 anm7 : Option Addr} {slm7 : Array (Option Value)}
    {fm8 : Addr} {fom8 kVm8 dcm8 pmm8 cdm8 ctm8 : Value} {odm8 anm8 : Option Addr} {slm8 : Array (Option Value)}
    {fm9 : Addr} {fom9 kVm9 dcm9 pmm9 cdm9 ctm9 : Value} {odm9 anm9 : Option Addr} {slm9 : Array (Option Value)}
    {fm10 : Addr} {fom10 kVm10 dcm10 pmm10 cdm10 ctm10 : Value} {odm10 anm10 : Option Addr} {slm10 : Array (Option Value)}
    {fm11 : Addr} {fom11 kVm11 dcm11 pmm11 cdm11 ctm11 : Value} {odm11 anm11 : Option Addr} {slm11 : Array (Option Value)}
    {fm12 : Addr} {fom12 kVm12 dcm12 pmm12 cdm12 ctm12 : Value} {odm12 anm12 : Option Addr} {slm12 : Array (Option Value)}
    {fm13 : Addr} {fom13 kVm13 dcm13 pmm13 cdm13 ctm13 : Value} {odm13 anm13 : Option Addr} {slm13 : Array (Option Value)}
    {fm14 : Addr} {fom14 kVm14 dcm14 pmm14 cdm14 ctm14 : Value} {odm14 anm14 : Option Addr} {slm14 : Array (Option Value)}
    {fm15 : Addr} {fom15 kVm15 dcm15 pmm15 cdm15 ctm15 : Value} {odm15 anm15 : Option Addr} {slm15 : Array (Option Value)}
    {t_LONGEST_NAME : Tok}
    {t_HIGHEST_COST : Tok}
    {t_MOST_ROOMS : Tok}
    {t_MOST_LINES : Tok}
    {t_MOST_DRAINS : Tok}
    {t_MOST_NAMES : Tok}
    {CM NM : Addr} {nmM qM : Str} {bsM sbM : List Value} {snM : List Str} {abM : Bool} {coM : Option Bool} {ddM : Option Addr} {mM zM yM xM wM : Option Value}
    {C0 N0 : Addr} {nm0 q0 : Str} {bs0 sb0 : List Value} {sn0 : List Str} {ab0 : Bool} {co0 : Option Bool} {dd0 : Option Addr} {m0 z0 y0 x0 w0 : Option Value}
    {C1 N1 : Addr} {nm1 q1 : Str} {bs1 sb1 : List Value} {sn1 : List Str} {ab1 : Bool} {co1 : Option Bool} {dd1 : Option Addr} {m1 z1 y1 x1 w1 : Option Value}
    {C2 N2 : Addr} {nm2 q2 : Str} {bs2 sb2 : List Value} {sn2 : List Str} {ab2 : Bool} {co2 : Option Bool} {dd2 : Option Addr} {m2 z2 y2 x2 w2 : Option Value}
    {C3 N3 : Addr} {nm3 q3 : Str} {bs3 sb3 : List Value} {sn3 : List Str} {ab3 : Bool} {co3 : Option Bool} {dd3 : Option Addr} {m3 z3 y3 x3 w3 : Option Value}
    {C4 N4 : Addr} {nm4 q4 : Str} {bs4 sb4 : List Value} {sn4 : List Str} {ab4 : Bool} {co4 : Option Bool} {dd4 : Option Addr} {m4 z4 y4 x4 w4 : Option Value}
    {C5 N5 : Addr} {nm5 q5 : Str} {bs5 sb5 : List Value} {sn5 : List Str} {ab5 : Bool} {co5 : Option Bool} {dd5 : Option Addr} {m5 z5 y5 x5 w5 : Option Value}
    {g0 : Addr} {go0 gV0 gc0 gm0 gd0 gt0 : Value} {gO0 gA0 : Option Addr} {gs0 : Array (Option Value)}
    {g1 : Addr} {go1 gV1 gc1 gm1 gd1 gt1 : Value} {gO1 gA1 : Option Addr} {gs1 : Array (Option Value)}
    {g2 : Addr} {go2 gV2 gc2 gm2 gd2 gt2 : Value} {gO2 gA2 : Option Addr} {gs2 : Array (Option Value)}
    {g3 : Addr} {go3 gV3 gc3 gm3 gd3 gt3 : Value} {gO3 gA3 : Option Addr} {gs3 : Array (Option Value)}
    {g4 : Addr} {go4 gV4 gc4 gm4 gd4 gt4 : Value} {gO4 gA4 : Option Addr} {gs4 : Array (Option Value)}
    {g5 : Addr} {go5 gV5 gc5 gm5 gd5 gt5 : Value} {gO5 gA5 : Option Addr} {gs5 : Array (Option Value)}
    (ad0 : PySem.W.nsIn K mainGlobals "need" = some (some (.ref fd0)))
    (ld0 : K.lookup fd0 = some ⟨fod0, odd0, .func (PySem.W.fnOf "need" "need" (defArgs s_need) (defBody s_need) (defScope s_need) .none kVd0 dcd0 pmd0 and0 cdd0 ctd0), sld0⟩)
    (cd0 : PySem.W.codeIn K cdd0 "need" = true) (kd0 : PySem.W.keepIn K (.ref fd0) = true)
    (ad1 : PySem.W.nsIn K mainGlobals "is_whole" = some (some (.ref fd1)))
    (ld1 : K.lookup fd1 = some ⟨fod1, odd1, .func (PySem.W.fnOf "is_whole" "is_whole" (defArgs s_is_whole) (defBody s_is_whole) (defScope s_is_whole) .none kVd1 dcd1 pmd1 and1 cdd1 ctd1), sld1⟩)
    (cd1 : PySem.W.codeIn K cdd1 "is_whole" = true) (kd1 : PySem.W.keepIn K (.ref fd1) = true)
    (ad2 : PySem.W.nsIn K mainGlobals "is_name" = some (some (.ref fd2)))
    (ld2 : K.lookup fd2 = some ⟨fod2, odd2, .func (PySem.W.fnOf "is_name" "is_name" (defArgs s_is_name) (defBody s_is_name) (defScope s_is_name) .none kVd2 dcd2 pmd2 and2 cdd2 ctd2), sld2⟩)
    (cd2 : PySem.W.codeIn K cdd2 "is_name" = true) (kd2 : PySem.W.keepIn K (.ref fd2) = true)
    (ad3 : PySem.W.nsIn K mainGlobals "is_cost" = some (some (.ref fd3)))
    (ld3 : K.lookup fd3 = some ⟨fod3, odd3, .func (PySem.W.fnOf "is_cost" "is_cost" (defArgs s_is_cost) (defBody s_is_cost) (defScope s_is_cost) .none kVd3 dcd3 pmd3 and3 cdd3 ctd3), sld3⟩)
    (cd3 : PySem.W.codeIn K cdd3 "is_cost" = true) (kd3 : PySem.W.keepIn K (.ref fd3) = true)
    (ad4 : PySem.W.nsIn K mainGlobals "are_names" = some (some (.ref fd4)))
    (ld4 : K.lookup fd4 = some ⟨fod4, odd4, .func (PySem.W.fnOf "are_names" "are_names" (defArgs s_are_names) (defBody s_are_names) (defScope s_are_names) .none kVd4 dcd4 pmd4 and4 cdd4 ctd4), sld4⟩)
    (cd4 : PySem.W.codeIn K cdd4 "are_names" = true) (kd4 : PySem.W.keepIn K (.ref fd4) = true)
    (ad5 : PySem.W.nsIn K mainGlobals "switches_in" = some (some (.ref fd5)))
    (ld5 : K.lookup fd5 = some ⟨fod5, odd5, .func (PySem.W.fnOf "switches_in" "switches_in" (defArgs s_switches_in) (defBody s_switches_in) (defScope s_switches_in) .none kVd5 dcd5 pmd5 and5 cdd5 ctd5), sld5⟩)
    (cd5 : PySem.W.codeIn K cdd5 "switches_in" = true) (kd5 : PySem.W.keepIn K (.ref fd5) = true)
    (ad6 : PySem.W.nsIn K mainGlobals "refuse_no_switch" = some (some (.ref fd6)))
    (ld6 : K.lookup fd6 = some ⟨fod6, odd6, .func (PySem.W.fnOf "refuse_no_switch" "refuse_no_switch" (defArgs s_refuse_no_switch) (defBody s_refuse_no_switch) (defScope s_refuse_no_switch) .none kVd6 dcd6 pmd6 and6 cdd6 ctd6), sld6⟩)
    (cd6 : PySem.W.codeIn K cdd6 "refuse_no_switch" = true) (kd6 : PySem.W.keepIn K (.ref fd6) = true)
    (ad7 : PySem.W.nsIn K mainGlobals "_refuse_first_beside" = some (some (.ref fd7)))
    (ld7 : K.lookup fd7 = some ⟨fod7, odd7, .func (PySem.W.fnOf "_refuse_first_beside" "_refuse_first_beside" (defArgs s__refuse_first_beside) (defBody s__refuse_first_beside) (defScope s__refuse_first_beside) .none kVd7 dcd7 pmd7 and7 cdd7 ctd7), sld7⟩)
    (cd7 : PySem.W.codeIn K cdd7 "_refuse_first_beside" = true) (kd7 : PySem.W.keepIn K (.ref fd7) = true)
    (ad8 : PySem.W.nsIn K mainGlobals "cost_of" = some (some (.ref fd8)))
    (ld8 : K.lookup fd8 = some ⟨fod8, odd8, .func (PySem.W.fnOf "cost_of" "cost_of" (defArgs s_cost_of) (defBody s_cost_of) (defScope s_cost_of) .none kVd8 dcd8 pmd8 and8 cdd8 ctd8), sld8⟩)
    (cd8 : PySem.W.codeIn K cdd8 "cost_of" = true) (kd8 : PySem.W.keepIn K (.ref fd8) = true)
    (ad9 : PySem.W.nsIn K mainGlobals "_law_bag" = some (some (.ref fd9)))
    (ld9 : K.lookup fd9 = some ⟨fod9, odd9, .func (PySem.W.fnOf "_law_bag" "_law_bag" (defArgs s__law_bag) (defBody s__law_bag) (defScope s__law_bag) .none kVd9 dcd9 pmd9 and9 cdd9 ctd9), sld9⟩)
    (cd9 : PySem.W.codeIn K cdd9 "_law_bag" = true) (kd9 : PySem.W.keepIn K (.ref fd9) = true)
    (ad10 : PySem.W.nsIn K mainGlobals "_law_take" = some (some (.ref fd10)))
    (ld10 : K.lookup fd10 = some ⟨fod10, odd10, .func (PySem.W.fnOf "_law_take" "_law_take" (defArgs s__law_take) (defBody s__law_take) (defScope s__law_take) .none kVd10 dcd10 pmd10 and10 cdd10 ctd10), sld10⟩)
    (cd10 : PySem.W.codeIn K cdd10 "_law_take" = true) (kd10 : PySem.W.keepIn K (.ref fd10) = true)
    (ad11 : PySem.W.nsIn K mainGlobals "_law_name" = some (some (.ref fd11)))
    (ld11 : K.lookup fd11 = some ⟨fod11, odd11, .func (PySem.W.fnOf "_law_name" "_law_name" (defArgs s__law_name) (defBody s__law_name) (defScope s__law_name) .none kVd11 dcd11 pmd11 and11 cdd11 ctd11), sld11⟩)
    (cd11 : PySem.W.codeIn K cdd11 "_law_name" = true) (kd11 : PySem.W.keepIn K (.ref fd11) = true)
    (ad12 : PySem.W.nsIn K mainGlobals "_law_names" = some (some (.ref fd12)))
    (ld12 : K.lookup fd12 = some ⟨fod12, odd12, .func (PySem.W.fnOf "_law_names" "_law_names" (defArgs s__law_names) (defBody s__law_names) (defScope s__law_names) .none kVd12 dcd12 pmd12 and12 cdd12 ctd12), sld12⟩)
    (cd12 : PySem.W.codeIn K cdd12 "_law_names" = true) (kd12 : PySem.W.keepIn K (.ref fd12) = true)
    (ad13 : PySem.W.nsIn K mainGlobals "_law_ends" = some (some (.ref fd13)))
    (ld13 : K.lookup fd13 = some ⟨fod13, odd13, .func (PySem.W.fnOf "_law_ends" "_law_ends" (defArgs s__law_ends) (defBody s__law_ends) (defScope s__law_ends) .none kVd13 dcd13 pmd13 and13 cdd13 ctd13), sld13⟩)
    (cd13 : PySem.W.codeIn K cdd13 "_law_ends" = true) (kd13 : PySem.W.keepIn K (.ref fd13) = true)
    (ad14 : PySem.W.nsIn K mainGlobals "_law_cost" = some (some (.ref fd14)))
    (ld14 : K.lookup fd14 = some ⟨fod14, odd14, .func (PySem.W.fnOf "_law_cost" "_law_cost" (defArgs s__law_cost) (defBody s__law_cost) (defScope s__law_cost) .none kVd14 dcd14 pmd14 and14 cdd14 ctd14), sld14⟩)
    (cd14 : PySem.W.codeIn K cdd14 "_law_cost" = true) (kd14 : PySem.W.keepIn K (.ref fd14) = true)
    (ad15 : PySem.W.nsIn K mainGlobals "_law_some" = some (some (.ref fd15)))
    (ld15 : K.lookup fd15 = some ⟨fod15, odd15, .func (PySem.W.fnOf "_law_some" "_law_some" (defArgs s__law_some) (defBody s__law_some) (defScope s__law_some) .none kVd15 dcd15 pmd15 and15 cdd15 ctd15), sld15⟩)
    (cd15 : PySem.W.codeIn K cdd15 "_law_some" = true) (kd15 : PySem.W.keepIn K (.ref fd15) = true)
    (ad16 : PySem.W.nsIn K mainGlobals "_law_works" = some (some (.ref fd16)))
    (ld16 : K.lookup fd16 = some ⟨fod16, odd16, .func (PySem.W.fnOf "_law_works" "_law_works" (defArgs s__law_works) (defBody s__law_works) (defScope s__law_works) .none kVd16 dcd16 pmd16 and16 cdd16 ctd16), sld16⟩)
    (cd16 : PySem.W.codeIn K cdd16 "_law_works" = true) (kd16 : PySem.W.keepIn K (.ref fd16) = true)
    (ad17 : PySem.W.nsIn K mainGlobals "_law_layout" = some (some (.ref fd17)))
    (ld17 : K.lookup fd17 = some ⟨fod17, odd17, .func (PySem.W.fnOf "_law_layout" "_law_layout" (defArgs s__law_layout) (defBody s__law_layout) (defScope s__law_layout) .none kVd17 dcd17 pmd17 and17 cdd17 ctd17), sld17⟩)
    (cd17 : PySem.W.codeIn K cdd17 "_law_layout" = true) (kd17 : PySem.W.keepIn K (.ref fd17) = true)
    (ad18 : PySem.W.nsIn K mainGlobals "_law_size" = some (some (.ref fd18)))
    (ld18 : K.lookup fd18 = some ⟨fod18, odd18, .func (PySem.W.fnOf "_law_size" "_law_size" (defArgs s__law_size) (defBody s__law_size) (defScope s__law_size) .none kVd18 dcd18 pmd18 and18 cdd18 ctd18), sld18⟩)
    (cd18 : PySem.W.codeIn K cdd18 "_law_size" = true) (kd18 : PySem.W.keepIn K (.ref fd18) = true)
    (ad19 : PySem.W.nsIn K mainGlobals "_law_class" = some (some (.ref fd19)))
    (ld19 : K.lookup fd19 = some ⟨fod19, odd19, .func (PySem.W.fnOf "_law_class" "_law_class" (defArgs s__law_class) (defBody s__law_class) (defScope s__law_class) .none kVd19 dcd19 pmd19 and19 cdd19 ctd19), sld19⟩)
    (cd19 : PySem.W.codeIn K cdd19 "_law_class" = true) (kd19 : PySem.W.keepIn K (.ref fd19) = true)
    (ad20 : PySem.W.nsIn K mainGlobals "_law_alike" = some (some (.ref fd20)))
    (ld20 : K.lookup fd20 = some ⟨fod20, odd20, .func (PySem.W.fnOf "_law_alike" "_law_alike" (defArgs s__law_alike) (defBody s__law_alike) (defScope s__law_alike) .none kVd20 dcd20 pmd20 and20 cdd20 ctd20), sld20⟩)
    (cd20 : PySem.W.codeIn K cdd20 "_law_alike" = true) (kd20 : PySem.W.keepIn K (.ref fd20) = true)
    (ad21 : PySem.W.nsIn K mainGlobals "_law_said" = some (some (.ref fd21)))
    (ld21 : K.lookup fd21 = some ⟨fod21, odd21, .func (PySem.W.fnOf "_law_said" "_law_said" (defArgs s__law_said) (defBody s__law_said) (defScope s__law_said) .none kVd21 dcd21 pmd21 and21 cdd21 ctd21), sld21⟩)
    (cd21 : PySem.W.codeIn K cdd21 "_law_said" = true) (kd21 : PySem.W.keepIn K (.ref fd21) = true)
    (ad22 : PySem.W.nsIn K mainGlobals "_law_due" = some (some (.ref fd22)))
    (ld22 : K.lookup fd22 = some ⟨fod22, odd22, .func (PySem.W.fnOf "_law_due" "_law_due" (defArgs s__law_due) (defBody s__law_due) (defScope s__law_due) .none kVd22 dcd22 pmd22 and22 cdd22 ctd22), sld22⟩)
    (cd22 : PySem.W.codeIn K cdd22 "_law_due" = true) (kd22 : PySem.W.keepIn K (.ref fd22) = true)
    (ad23 : PySem.W.nsIn K mainGlobals "_law_asked" = some (some (.ref fd23)))
    (ld23 : K.lookup fd23 = some ⟨fod23, odd23, .func (PySem.W.fnOf "_law_asked" "_law_asked" (defArgs s__law_asked) (defBody s__law_asked) (defScope s__law_asked) .none kVd23 dcd23 pmd23 and23 cdd23 ctd23), sld23⟩)
    (cd23 : PySem.W.codeIn K cdd23 "_law_asked" = true) (kd23 : PySem.W.keepIn K (.ref fd23) = true)
    (ad24 : PySem.W.nsIn K mainGlobals "_law_odd_list" = some (some (.ref fd24)))
    (ld24 : K.lookup fd24 = some ⟨fod24, odd24, .func (PySem.W.fnOf "_law_odd_list" "_law_odd_list" (defArgs s__law_odd_list) (defBody s__law_odd_list) (defScope s__law_odd_list) .none kVd24 dcd24 pmd24 and24 cdd24 ctd24), sld24⟩)
    (cd24 : PySem.W.codeIn K cdd24 "_law_odd_list" = true) (kd24 : PySem.W.keepIn K (.ref fd24) = true)
    (ad25 : PySem.W.nsIn K mainGlobals "_law_turned" = some (some (.ref fd25)))
    (ld25 : K.lookup fd25 = some ⟨fod25, odd25, .func (PySem.W.fnOf "_law_turned" "_law_turned" (defArgs s__law_turned) (defBody s__law_turned) (defScope s__law_turned) .none kVd25 dcd25 pmd25 and25 cdd25 ctd25), sld25⟩)
    (cd25 : PySem.W.codeIn K cdd25 "_law_turned" = true) (kd25 : PySem.W.keepIn K (.ref fd25) = true)
    (ad26 : PySem.W.nsIn K mainGlobals "_law_wrong" = some (some (.ref fd26)))
    (ld26 : K.lookup fd26 = some ⟨fod26, odd26, .func (PySem.W.fnOf "_law_wrong" "_law_wrong" (defArgs s__law_wrong) (defBody s__law_wrong) (defScope s__law_wrong) .none kVd26 dcd26 pmd26 and26 cdd26 ctd26), sld26⟩)
    (cd26 : PySem.W.codeIn K cdd26 "_law_wrong" = true) (kd26 : PySem.W.keepIn K (.ref fd26) = true)
    (ad27 : PySem.W.nsIn K mainGlobals "law" = some (some (.ref fd27)))
    (ld27 : K.lookup fd27 = some ⟨fod27, odd27, .func (PySem.W.fnOf "law" "law" (defArgs s_law) (defBody s_law) (defScope s_law) .none kVd27 dcd27 pmd27 and27 cdd27 ctd27), sld27⟩)
    (cd27 : PySem.W.codeIn K cdd27 "law" = true) (kd27 : PySem.W.keepIn K (.ref fd27) = true)
    (aCL : PySem.W.nsIn K mainGlobals "Layout" = some (some (.ref CL)))
    (am0 : PySem.W.findIn K (.ref CL) "__init__" = some (some (.ref fm0))) (im0 : PySem.W.isFn K (.ref fm0) = true)
    (lm0 : K.lookup fm0 = some ⟨fom0, odm0, .func (PySem.W.fnOf "__init__" "Layout.__init__" (defArgs s_Layout___init__) (defBody s_Layout___init__) (defScope s_Layout___init__) .none kVm0 dcm0 pmm0 anm0 cdm0 ctm0), slm0⟩)
    (cm0 : PySem.W.codeIn K cdm0 "Layout.__init__" = true) (km0 : PySem.W.keepIn K (.ref fm0) = true)
    (am1 : PySem.W.findIn K (.ref CL) "add_room" = some (some (.ref fm1))) (im1 : PySem.W.isFn K (.ref fm1) = true)
    (lm1 : K.lookup fm1 = some ⟨fom1, odm1, .func (PySem.W.fnOf "add_room" "Layout.add_room" (defArgs s_Layout_add_room) (defBody s_Layout_add_room) (defScope s_Layout_add_room) .none kVm1 dcm1 pmm1 anm1 cdm1 ctm1), slm1⟩)
    (cm1 : PySem.W.codeIn K cdm1 "Layout.add_room" = true) (km1 : PySem.W.keepIn K (.ref fm1) = true)
    (am2 : PySem.W.findIn K (.ref CL) "add_line" = some (some (.ref fm2))) (im2 : PySem.W.isFn K (.ref fm2) = true)
    (lm2 : K.lookup fm2 = some ⟨fom2, odm2, .func (PySem.W.fnOf "add_line" "Layout.add_line" (defArgs s_Layout_add_line) (defBody s_Layout_add_line) (defScope s_Layout_add_line) .none kVm2 dcm2 pmm2 anm2 cdm2 ctm2), slm2⟩)
    (cm2 : PySem.W.codeIn K cdm2 "Layout.add_line" = true) (km2 : PySem.W.keepIn K (.ref fm2) = true)
    (am3 : PySem.W.findIn K (.ref CL) "add_drain" = some (some (.ref fm3))) (im3 : PySem.W.isFn K (.ref fm3) = true)
    (lm3 : K.lookup fm3 = some ⟨fom3, odm3, .func (PySem.W.fnOf "add_drain" "Layout.add_drain" (defArgs s_Layout_add_drain) (defBody s_Layout_add_drain) (defScope s_Layout_add_drain) .none kVm3 dcm3 pmm3 anm3 cdm3 ctm3), slm3⟩)
    (cm3 : PySem.W.codeIn K cdm3 "Layout.add_drain" = true) (km3 : PySem.W.keepIn K (.ref fm3) = true)
    (am4 : PySem.W.findIn K (.ref CL) "add_source" = some (some (.ref fm4))) (im4 : PySem.W.isFn K (.ref fm4) = true)
    (lm4 : K.lookup fm4 = some ⟨fom4, odm4, .func (PySem.W.fnOf "add_source" "Layout.add_source" (defArgs s_Layout_add_source) (defBody s_Layout_add_source) (defScope s_Layout_add_source) .none kVm4 dcm4 pmm4 anm4 cdm4 ctm4), slm4⟩)
    (cm4 : PySem.W.codeIn K cdm4 "Layout.add_source" = true) (km4 : PySem.W.keepIn K (.ref fm4) = true)
    (am5 : PySem.W.findIn K (.ref CL) "take_line" = some (some (.ref fm5))) (im5 : PySem.W.isFn K (.ref fm5) = true)
    (lm5 : K.lookup fm5 = some ⟨fom5, odm5, .func (PySem.W.fnOf "take_line" "Layout.take_line" (defArgs s_Layout_take_line) (defBody s_Layout_take_line) (defScope s_Layout_take_line) .none kVm5 dcm5 pmm5 anm5 cdm5 ctm5), slm5⟩)
    (cm5 : PySem.W.codeIn K cdm5 "Layout.take_line" = true) (km5 : PySem.W.keepIn K (.ref fm5) = true)
    (am6 : PySem.W.findIn K (.ref CL) "rooms" = some (some (.ref fm6))) (im6 : PySem.W.isFn K (.ref fm6) = true)
    (lm6 : K.lookup fm6 = some ⟨fom6, odm6, .func (PySem.W.fnOf "rooms" "Layout.rooms" (defArgs s_Layout_rooms) (defBody s_Layout_rooms) (defScope s_Layout_rooms) .none kVm6 dcm6 pmm6 anm6 cdm6 ctm6), slm6⟩)
    (cm6 : PySem.W.codeIn K cdm6 "Layout.rooms" = true) (km6 : PySem.W.keepIn K (.ref fm6) = true)
    (am7 : PySem.W.findIn K (.ref CL) "lines" = some (some (.ref fm7))) (im7 : PySem.W.isFn K (.ref fm7) = true)
    (lm7 : K.lookup fm7 = some ⟨fom7, odm7, .func (PySem.W.fnOf "lines" "Layout.lines" (defArgs s_Layout_lines) (defBody s_Layout_lines) (defScope s_Layout_lines) .none kVm7 dcm7 pmm7 anm7 cdm7 ctm7), slm7⟩)
    (cm7 : PySem.W.codeIn K cdm7 "Layout.lines" = true) (km7 : PySem.W.keepIn K (.ref fm7) = true)
    (am8 : PySem.W.findIn K (.ref CL) "drains" = some (some (.ref fm8))) (im8 : PySem.W.isFn K (.ref fm8) = true)
    (lm8 : K.lookup fm8 = some ⟨fom8, odm8, .func (PySem.W.fnOf "drains" "Layout.drains" (defArgs s_Layout_drains) (defBody s_Layout_drains) (defScope s_Layout_drains) .none kVm8 dcm8 pmm8 anm8 cdm8 ctm8), slm8⟩)
    (cm8 : PySem.W.codeIn K cdm8 "Layout.drains" = true) (km8 : PySem.W.keepIn K (.ref fm8) = true)
    (am9 : PySem.W.findIn K (.ref CL) "sources" = some (some (.ref fm9))) (im9 : PySem.W.isFn K (.ref fm9) = true)
    (lm9 : K.lookup fm9 = some ⟨fom9, odm9, .func (PySem.W.fnOf "sources" "Layout.sources" (defArgs s_Layout_sources) (defBody s_Layout_sources) (defScope s_Layout_sources) .none kVm9 dcm9 pmm9 anm9 cdm9 ctm9), slm9⟩)
    (cm9 : PySem.W.codeIn K cdm9 "Layout.sources" = true) (km9 : PySem.W.keepIn K (.ref fm9) = true)
    (am10 : PySem.W.findIn K (.ref CL) "line" = some (some (.ref fm10))) (im10 : PySem.W.isFn K (.ref fm10) = true)
    (lm10 : K.lookup fm10 = some ⟨fom10, odm10, .func (PySem.W.fnOf "line" "Layout.line" (defArgs s_Layout_line) (defBody s_Layout_line) (defScope s_Layout_line) .none kVm10 dcm10 pmm10 anm10 cdm10 ctm10), slm10⟩)
    (cm10 : PySem.W.codeIn K cdm10 "Layout.line" = true) (km10 : PySem.W.keepIn K (.ref fm10) = true)
    (am11 : PySem.W.findIn K (.ref CL) "drain" = some (some (.ref fm11))) (im11 : PySem.W.isFn K (.ref fm11) = true)
    (lm11 : K.lookup fm11 = some ⟨fom11, odm11, .func (PySem.W.fnOf "drain" "Layout.drain" (defArgs s_Layout_drain) (defBody s_Layout_drain) (defScope s_Layout_drain) .none kVm11 dcm11 pmm11 anm11 cdm11 ctm11), slm11⟩)
    (cm11 : PySem.W.codeIn K cdm11 "Layout.drain" = true) (km11 : PySem.W.keepIn K (.ref fm11) = true)
    (am12 : PySem.W.findIn K (.ref CL) "_refuse_taken" = some (some (.ref fm12))) (im12 : PySem.W.isFn K (.ref fm12) = true)
    (lm12 : K.lookup fm12 = some ⟨fom12, odm12, .func (PySem.W.fnOf "_refuse_taken" "Layout._refuse_taken" (defArgs s_Layout__refuse_taken) (defBody s_Layout__refuse_taken) (defScope s_Layout__refuse_taken) .none kVm12 dcm12 pmm12 anm12 cdm12 ctm12), slm12⟩)
    (cm12 : PySem.W.codeIn K cdm12 "Layout._refuse_taken" = true) (km12 : PySem.W.keepIn K (.ref fm12) = true)
    (am13 : PySem.W.findIn K (.ref CL) "_refuse_no_room" = some (some (.ref fm13))) (im13 : PySem.W.isFn K (.ref fm13) = true)
    (lm13 : K.lookup fm13 = some ⟨fom13, odm13, .func (PySem.W.fnOf "_refuse_no_room" "Layout._refuse_no_room" (defArgs s_Layout__refuse_no_room) (defBody s_Layout__refuse_no_room) (defScope s_Layout__refuse_no_room) .none kVm13 dcm13 pmm13 anm13 cdm13 ctm13), slm13⟩)
    (cm13 : PySem.W.codeIn K cdm13 "Layout._refuse_no_room" = true) (km13 : PySem.W.keepIn K (.ref fm13) = true)
    (am14 : PySem.W.findIn K (.ref CL) "_refuse_no_line" = some (some (.ref fm14))) (im14 : PySem.W.isFn K (.ref fm14) = true)
    (lm14 : K.lookup fm14 = some ⟨fom14, odm14, .func (PySem.W.fnOf "_refuse_no_line" "Layout._refuse_no_line" (defArgs s_Layout__refuse_no_line) (defBody s_Layout__refuse_no_line) (defScope s_Layout__refuse_no_line) .none kVm14 dcm14 pmm14 anm14 cdm14 ctm14), slm14⟩)
    (cm14 : PySem.W.codeIn K cdm14 "Layout._refuse_no_line" = true) (km14 : PySem.W.keepIn K (.ref fm14) = true)
    (am15 : PySem.W.findIn K (.ref CL) "_refuse_no_drain" = some (some (.ref fm15))) (im15 : PySem.W.isFn K (.ref fm15) = true)
    (lm15 : K.lookup fm15 = some ⟨fom15, odm15, .func (PySem.W.fnOf "_refuse_no_drain" "Layout._refuse_no_drain" (defArgs s_Layout__refuse_no_drain) (defBody s_Layout__refuse_no_drain) (defScope s_Layout__refuse_no_drain) .none kVm15 dcm15 pmm15 anm15 cdm15 ctm15), slm15⟩)
    (cm15 : PySem.W.codeIn K cdm15 "Layout._refuse_no_drain" = true) (km15 : PySem.W.keepIn K (.ref fm15) = true)
    (pg : PySem.W.plainGet K CL Str.empty = true) (hdL : PySem.W.hasDictIn K CL = true) (po : PySem.W.plainOver K CL = true) (sa : PySem.W.findIn K (.ref CL) "__setattr__" = some (some (.builtin "object.__setattr__"))) (mkL : PySem.W.makesIn K CL = true) (kL : PySem.W.keepIn K (.ref CL) = true)
    (nA_rooms : PySem.W.findIn K (.ref CL) "_rooms" = some none)
    (nA_lines : PySem.W.findIn K (.ref CL) "_lines" = some none)
    (nA_drains : PySem.W.findIn K (.ref CL) "_drains" = some none)
    (nA_sources : PySem.W.findIn K (.ref CL) "_sources" = some none)
    (g_LONGEST_NAME : PySem.W.nsIn K mainGlobals "LONGEST_NAME" = some (some (.int 8 t_LONGEST_NAME)))
    (g_HIGHEST_COST : PySem.W.nsIn K mainGlobals "HIGHEST_COST" = some (some (.int 99 t_HIGHEST_COST)))
    (g_MOST_ROOMS : PySem.W.nsIn K mainGlobals "MOST_ROOMS" = some (some (.int 24 t_MOST_ROOMS)))
    (g_MOST_LINES : PySem.W.nsIn K mainGlobals "MOST_LINES" = some (some (.int 40 t_MOST_LINES)))
    (g_MOST_DRAINS : PySem.W.nsIn K mainGlobals "MOST_DRAINS" = some (some (.int 12 t_MOST_DRAINS)))
    (g_MOST_NAMES : PySem.W.nsIn K mainGlobals "MOST_NAMES" = some (some (.int 60 t_MOST_NAMES)))
    (z_len : PySem.W.nsIn K mainGlobals "len" = some none)
    (z_all : PySem.W.nsIn K mainGlobals "all" = some none)
    (z_isinstance : PySem.W.nsIn K mainGlobals "isinstance" = some none)
    (z_str : PySem.W.nsIn K mainGlobals "str" = some none)
    (z_int : PySem.W.nsIn K mainGlobals "int" = some none)
    (z_bool : PySem.W.nsIn K mainGlobals "bool" = some none)
    (z_sorted : PySem.W.nsIn K mainGlobals "sorted" = some none)
    (z_list : PySem.W.nsIn K mainGlobals "list" = some none)
    (z_set : PySem.W.nsIn K mainGlobals "set" = some none)
    (z_abs : PySem.W.nsIn K mainGlobals "abs" = some none)
    (z_range : PySem.W.nsIn K mainGlobals "range" = some none)
    (z_repr : PySem.W.nsIn K mainGlobals "repr" = some none)
    (z_enumerate : PySem.W.nsIn K mainGlobals "enumerate" = some none)
    (z_ValueError : PySem.W.nsIn K mainGlobals "ValueError" = some none)
    (z_sum : PySem.W.nsIn K mainGlobals "sum" = some none)
    (eAM : PySem.W.nsIn K mainGlobals "MainsError" = some (some (.ref CM)))
    (eLM : K.lookup CM = some (excClassObj nmM qM CM NM bsM [.type "ValueError", .type "Exception", .type "BaseException", .type "object"] true snM sbM abM coM ddM mM zM yM xM wM "ValueError.__new__"))
    (eSM : PySem.W.findIn K (.ref CM) "__setattr__" = some (some (.builtin "object.__setattr__"))) (eGM : PySem.W.findIn K (.ref CM) "__getattribute__" = some (some (.builtin "BaseException.__getattribute__")))
    (eHM : PySem.W.findIn K (.ref CM) "__getattr__" = some none) (eCM : PySem.W.findIn K (.ref CM) "__class__" = some (some (.builtin "object.__class__")))
    (eKM : PySem.W.keepIn K (.ref CM) = true) (eDM : PySem.W.hasDictIn K CM = true)
    (eA0 : PySem.W.nsIn K mainGlobals "Wrong" = some (some (.ref C0)))
    (eL0 : K.lookup C0 = some (excClassObj nm0 q0 C0 N0 bs0 (bmM CM) true sn0 sb0 ab0 co0 dd0 m0 z0 y0 x0 w0 "ValueError.__new__"))
    (eS0 : PySem.W.findIn K (.ref C0) "__setattr__" = some (some (.builtin "object.__setattr__"))) (eG0 : PySem.W.findIn K (.ref C0) "__getattribute__" = some (some (.builtin "BaseException.__getattribute__")))
    (eH0 : PySem.W.findIn K (.ref C0) "__getattr__" = some none) (eC0 : PySem.W.findIn K (.ref C0) "__class__" = some (some (.builtin "object.__class__")))
    (eK0 : PySem.W.keepIn K (.ref C0) = true) (eD0 : PySem.W.hasDictIn K C0 = true)
    (eA1 : PySem.W.nsIn K mainGlobals "There" = some (some (.ref C1)))
    (eL1 : K.lookup C1 = some (excClassObj nm1 q1 C1 N1 bs1 (bmM CM) true sn1 sb1 ab1 co1 dd1 m1 z1 y1 x1 w1 "ValueError.__new__"))
    (eS1 : PySem.W.findIn K (.ref C1) "__setattr__" = some (some (.builtin "object.__setattr__"))) (eG1 : PySem.W.findIn K (.ref C1) "__getattribute__" = some (some (.builtin "BaseException.__getattribute__")))
    (eH1 : PySem.W.findIn K (.ref C1) "__getattr__" = some none) (eC1 : PySem.W.findIn K (.ref C1) "__class__" = some (some (.builtin "object.__class__")))
    (eK1 : PySem.W.keepIn K (.ref C1) = true) (eD1 : PySem.W.hasDictIn K C1 = true)
    (eA2 : PySem.W.nsIn K mainGlobals "Lacks" = some (some (.ref C2)))
    (eL2 : K.lookup C2 = some (excClassObj nm2 q2 C2 N2 bs2 (bmM CM) true sn2 sb2 ab2 co2 dd2 m2 z2 y2 x2 w2 "ValueError.__new__"))
    (eS2 : PySem.W.findIn K (.ref C2) "__setattr__" = some (some (.builtin "object.__setattr__"))) (eG2 : PySem.W.findIn K (.ref C2) "__getattribute__" = some (some (.builtin "BaseException.__getattribute__")))
    (eH2 : PySem.W.findIn K (.ref C2) "__getattr__" = some none) (eC2 : PySem.W.findIn K (.ref C2) "__class__" = some (some (.builtin "object.__class__")))
    (eK2 : PySem.W.keepIn K (.ref C2) = true) (eD2 : PySem.W.hasDictIn K C2 = true)
    (eA3 : PySem.W.nsIn K mainGlobals "TooMany" = some (some (.ref C3)))
    (eL3 : K.lookup C3 = some (excClassObj nm3 q3 C3 N3 bs3 (bmM CM) true sn3 sb3 ab3 co3 dd3 m3 z3 y3 x3 w3 "ValueError.__new__"))
    (eS3 : PySem.W.findIn K (.ref C3) "__setattr__" = some (some (.builtin "object.__setattr__"))) (eG3 : PySem.W.findIn K (.ref C3) "__getattribute__" = some (some (.builtin "BaseException.__getattribute__")))
    (eH3 : PySem.W.findIn K (.ref C3) "__getattr__" = some none) (eC3 : PySem.W.findIn K (.ref C3) "__class__" = some (some (.builtin "object.__class__")))
    (eK3 : PySem.W.keepIn K (.ref C3) = true) (eD3 : PySem.W.hasDictIn K C3 = true)
    (eA4 : PySem.W.nsIn K mainGlobals "Held" = some (some (.ref C4)))
    (eL4 : K.lookup C4 = some (excClassObj nm4 q4 C4 N4 bs4 (bmM CM) true sn4 sb4 ab4 co4 dd4 m4 z4 y4 x4 w4 "ValueError.__new__"))
    (eS4 : PySem.W.findIn K (.ref C4) "__setattr__" = some (some (.builtin "object.__setattr__"))) (eG4 : PySem.W.findIn K (.ref C4) "__getattribute__" = some (some (.builtin "BaseException.__getattribute__")))
    (eH4 : PySem.W.findIn K (.ref C4) "__getattr__" = some none) (eC4 : PySem.W.findIn K (.ref C4) "__class__" = some (some (.builtin "object.__class__")))
    (eK4 : PySem.W.keepIn K (.ref C4) = true) (eD4 : PySem.W.hasDictIn K C4 = true)
    (eA5 : PySem.W.nsIn K mainGlobals "NoPart" = some (some (.ref C5)))
    (eL5 : K.lookup C5 = some (excClassObj nm5 q5 C5 N5 bs5 (bmM CM) true sn5 sb5 ab5 co5 dd5 m5 z5 y5 x5 w5 "ValueError.__new__"))
    (eS5 : PySem.W.findIn K (.ref C5) "__setattr__" = some (some (.builtin "object.__setattr__"))) (eG5 : PySem.W.findIn K (.ref C5) "__getattribute__" = some (some (.builtin "BaseException.__getattribute__")))
    (eH5 : PySem.W.findIn K (.ref C5) "__getattr__" = some none) (eC5 : PySem.W.findIn K (.ref C5) "__class__" = some (some (.builtin "object.__class__")))
    (eK5 : PySem.W.keepIn K (.ref C5) = true) (eD5 : PySem.W.hasDictIn K C5 = true)
    (nF0 : PySem.W.findIn K (.ref C0) "at" = some none)
    (iF0 : PySem.W.findIn K (.ref C0) "__init__" = some (some (.ref g0))) (iT0 : PySem.W.typeIn K (.ref g0) = some (.type "function"))
    (iL0 : K.lookup g0 = some ⟨go0, gO0, .func (PySem.W.fnOf "__init__" "Wrong.__init__" (defArgs (inClass (topS 3) 0)) (defBody (inClass (topS 3) 0)) (defScope (inClass (topS 3) 0)) .none gV0 gc0 gm0 gA0 gd0 gt0), gs0⟩)
    (iC0 : PySem.W.codeIn K gd0 "Wrong.__init__" = true) (iK0 : PySem.W.keepIn K (.ref g0) = true)
    (nF1 : PySem.W.findIn K (.ref C1) "name" = some none)
    (iF1 : PySem.W.findIn K (.ref C1) "__init__" = some (some (.ref g1))) (iT1 : PySem.W.typeIn K (.ref g1) = some (.type "function"))
    (iL1 : K.lookup g1 = some ⟨go1, gO1, .func (PySem.W.fnOf "__init__" "There.__init__" (defArgs (inClass (topS 4) 0)) (defBody (inClass (topS 4) 0)) (defScope (inClass (topS 4) 0)) .none gV1 gc1 gm1 gA1 gd1 gt1), gs1⟩)
    (iC1 : PySem.W.codeIn K gd1 "There.__init__" = true) (iK1 : PySem.W.keepIn K (.ref g1) = true)
    (nF2 : PySem.W.findIn K (.ref C2) "name" = some none)
    (iF2 : PySem.W.findIn K (.ref C2) "__init__" = some (some (.ref g2))) (iT2 : PySem.W.typeIn K (.ref g2) = some (.type "function"))
    (iL2 : K.lookup g2 = some ⟨go2, gO2, .func (PySem.W.fnOf "__init__" "Lacks.__init__" (defArgs (inClass (topS 5) 0)) (defBody (inClass (topS 5) 0)) (defScope (inClass (topS 5) 0)) .none gV2 gc2 gm2 gA2 gd2 gt2), gs2⟩)
    (iC2 : PySem.W.codeIn K gd2 "Lacks.__init__" = true) (iK2 : PySem.W.keepIn K (.ref g2) = true)
    (nF3 : PySem.W.findIn K (.ref C3) "most" = some none)
    (iF3 : PySem.W.findIn K (.ref C3) "__init__" = some (some (.ref g3))) (iT3 : PySem.W.typeIn K (.ref g3) = some (.type "function"))
    (iL3 : K.lookup g3 = some ⟨go3, gO3, .func (PySem.W.fnOf "__init__" "TooMany.__init__" (defArgs (inClass (topS 6) 0)) (defBody (inClass (topS 6) 0)) (defScope (inClass (topS 6) 0)) .none gV3 gc3 gm3 gA3 gd3 gt3), gs3⟩)
    (iC3 : PySem.W.codeIn K gd3 "TooMany.__init__" = true) (iK3 : PySem.W.keepIn K (.ref g3) = true)
    (nF4 : PySem.W.findIn K (.ref C4) "hands" = some none)
    (iF4 : PySem.W.findIn K (.ref C4) "__init__" = some (some (.ref g4))) (iT4 : PySem.W.typeIn K (.ref g4) = some (.type "function"))
    (iL4 : K.lookup g4 = some ⟨go4, gO4, .func (PySem.W.fnOf "__init__" "Held.__init__" (defArgs (inClass (topS 7) 0)) (defBody (inClass (topS 7) 0)) (defScope (inClass (topS 7) 0)) .none gV4 gc4 gm4 gA4 gd4 gt4), gs4⟩)
    (iC4 : PySem.W.codeIn K gd4 "Held.__init__" = true) (iK4 : PySem.W.keepIn K (.ref g4) = true)
    (nF5 : PySem.W.findIn K (.ref C5) "way" = some none)
    (iF5 : PySem.W.findIn K (.ref C5) "__init__" = some (some (.ref g5))) (iT5 : PySem.W.typeIn K (.ref g5) = some (.type "function"))
    (iL5 : K.lookup g5 = some ⟨go5, gO5, .func (PySem.W.fnOf "__init__" "NoPart.__init__" (defArgs (inClass (topS 8) 0)) (defBody (inClass (topS 8) 0)) (defScope (inClass (topS 8) 0)) .none gV5 gc5 gm5 gA5 gd5 gt5), gs5⟩)
    (iC5 : PySem.W.codeIn K gd5 "NoPart.__init__" = true) (iK5 : PySem.W.keepIn K (.ref g5) = true)
    (gS : PySem.W.specialIn K (.builtin "object.__class__") "__get__" = some (some (.builtin "getset_descriptor.__get__"))) (gT : PySem.W.takesIn K (.builtin "object.__class__") = some true)
    (iHa : PySem.W.findIn K (.ref CL) "__class__" = some (some (.builtin "object.__class__"))) (iHm : PySem.W.mroIn K CL (.type "object") = some true)
    (iTy : PySem.W.typeIn K (.ref CL) = some (.type "type"))
    (nD : ([CM, C0, C1, C2, C3, C4, C5] : List Addr).Nodup) :
    ∃ (C : Nat → Addr) (M L : Addr), Tx K mg C M L := by
  refine ⟨fun n => ([C0, C1, C2, C3, C4, C5] : List Addr).getD n 0, CM, CL, ?_⟩
  exact
    { d_need := ⟨fd0, _, fun_mk (st := s_need) ld0 cd0 kd0, PySem.W.mg_of X G ad0⟩
      d_is_whole := ⟨fd1, _, fun_mk (st := s_is_whole) ld1 cd1 kd1, PySem.W.mg_of X G ad1⟩
      d_is_name := ⟨fd2, _, fun_mk (st := s_is_name) ld2 cd2 kd2, PySem.W.mg_of X G ad2⟩
      d_is_cost := ⟨fd3, _, fun_mk (st := s_is_cost) ld3 cd3 kd3, PySem.W.mg_of X G ad3⟩
      r_are_names := ⟨fd4, _, fun_mk (st := s_are_names) ld4 cd4 kd4, PySem.W.mg_of X G ad4⟩
      r_switches_in := ⟨fd5, _, fun_mk (st := s_switches_in) ld5 cd5 kd5, PySem.W.mg_of X G ad5⟩
      r_refuse_no_switch := ⟨fd6, _, fun_mk (st := s_refuse_no_switch) ld6 cd6 kd6, PySem.W.mg_of X G ad6⟩
      r_refuse_first_beside := ⟨fd7, _, fun_mk (st := s__refuse_first_beside) ld7 cd7 kd7, PySem.W.mg_of X G ad7⟩
      r_cost_of := ⟨fd8, _, fun_mk (st := s_cost_of) ld8 cd8 kd8, PySem.W.mg_of X G ad8⟩
      d_bag := ⟨fd9, _, fun_mk (st := s__law_bag) ld9 cd9 kd9, PySem.W.mg_of X G ad9⟩
      d_take := ⟨fd10, _, fun_mk (st := s__law_take) ld10 cd10 kd10, PySem.W.mg_of X G ad10⟩
      d_name := ⟨fd11, _, fun_mk (st := s__law_name) ld11 cd11 kd11, PySem.W.mg_of X G ad11⟩
      d_names := ⟨fd12, _, fun_mk (st := s__law_names) ld12 cd12 kd12, PySem.W.mg_of X G ad12⟩
      d_ends := ⟨fd13, _, fun_mk (st := s__law_ends) ld13 cd13 kd13, PySem.W.mg_of X G ad13⟩
      d_cost := ⟨fd14, _, fun_mk (st := s__law_cost) ld14 cd14 kd14, PySem.W.mg_of X G ad14⟩
      d_some := ⟨fd15, _, fun_mk (st := s__law_some) ld15 cd15 kd15, PySem.W.mg_of X G ad15⟩
      d_works := ⟨fd16, _, fun_mk (st := s__law_works) ld16 cd16 kd16, PySem.W.mg_of X G ad16⟩
      d_layout := ⟨fd17, _, fun_mk (st := s__law_layout) ld17 cd17 kd17, PySem.W.mg_of X G ad17⟩
      d_size := ⟨fd18, _, fun_mk (st := s__law_size) ld18 cd18 kd18, PySem.W.mg_of X G ad18⟩
      d_class := ⟨fd19, _, fun_mk (st := s__law_class) ld19 cd19 kd19, PySem.W.mg_of X G ad19⟩
      d_alike := ⟨fd20, _, fun_mk (st := s__law_alike) ld20 cd20 kd20, PySem.W.mg_of X G ad20⟩
      d_said := ⟨fd21, _, fun_mk (st := s__law_said) ld21 cd21 kd21, PySem.W.mg_of X G ad21⟩
      d_due := ⟨fd22, _, fun_mk (st := s__law_due) ld22 cd22 kd22, PySem.W.mg_of X G ad22⟩
      d_asked := ⟨fd23, _, fun_mk (st := s__law_asked) ld23 cd23 kd23, PySem.W.mg_of X G ad23⟩
      d_odd_list := ⟨fd24, _, fun_mk (st := s__law_odd_list) ld24 cd24 kd24, PySem.W.mg_of X G ad24⟩
      d_turned := ⟨fd25, _, fun_mk (st := s__law_turned) ld25 cd25 kd25, PySem.W.mg_of X G ad25⟩
      d_wrong := ⟨fd26, _, fun_mk (st := s__law_wrong) ld26 cd26 kd26, PySem.W.mg_of X G ad26⟩
      d_law := ⟨fd27, _, fun_mk (st := s_law) ld27 cd27 kd27, PySem.W.mg_of X G ad27⟩
      m_init := ⟨fm0, _, fun_mk (st := s_Layout___init__) lm0 cm0 km0, ⟨am0, im0, km0⟩⟩
      m_add_room := ⟨fm1, _, fun_mk (st := s_Layout_add_room) lm1 cm1 km1, ⟨am1, im1, km1⟩⟩
      m_add_line := ⟨fm2, _, fun_mk (st := s_Layout_add_line) lm2 cm2 km2, ⟨am2, im2, km2⟩⟩
      m_add_drain := ⟨fm3, _, fun_mk (st := s_Layout_add_drain) lm3 cm3 km3, ⟨am3, im3, km3⟩⟩
      m_add_source := ⟨fm4, _, fun_mk (st := s_Layout_add_source) lm4 cm4 km4, ⟨am4, im4, km4⟩⟩
      m_take_line := ⟨fm5, _, fun_mk (st := s_Layout_take_line) lm5 cm5 km5, ⟨am5, im5, km5⟩⟩
      m_rooms := ⟨fm6, _, fun_mk (st := s_Layout_rooms) lm6 cm6 km6, ⟨am6, im6, km6⟩⟩
      m_lines := ⟨fm7, _, fun_mk (st := s_Layout_lines) lm7 cm7 km7, ⟨am7, im7, km7⟩⟩
      m_drains := ⟨fm8, _, fun_mk (st := s_Layout_drains) lm8 cm8 km8, ⟨am8, im8, km8⟩⟩
      m_sources := ⟨fm9, _, fun_mk (st := s_Layout_sources) lm9 cm9 km9, ⟨am9, im9, km9⟩⟩
      m_line := ⟨fm10, _, fun_mk (st := s_Layout_line) lm10 cm10 km10, ⟨am10, im10, km10⟩⟩
      m_drain := ⟨fm11, _, fun_mk (st := s_Layout_drain) lm11 cm11 km11, ⟨am11, im11, km11⟩⟩
      m__refuse_taken := ⟨fm12, _, fun_mk (st := s_Layout__refuse_taken) lm12 cm12 km12, ⟨am12, im12, km12⟩⟩
      m__refuse_no_room := ⟨fm13, _, fun_mk (st := s_Layout__refuse_no_room) lm13 cm13 km13, ⟨am13, im13, km13⟩⟩
      m__refuse_no_line := ⟨fm14, _, fun_mk (st := s_Layout__refuse_no_line) lm14 cm14 km14, ⟨am14, im14, km14⟩⟩
      m__refuse_no_drain := ⟨fm15, _, fun_mk (st := s_Layout__refuse_no_drain) lm15 cm15 km15, ⟨am15, im15, km15⟩⟩
      mkL := mkL
      kL := kL
      gL := PySem.W.mg_of X G aCL
      cl := ⟨pg, hdL, po, sa⟩
      n_rooms := nA_rooms
      n_lines := nA_lines
      n_drains := nA_drains
      n_sources := nA_sources
      g_LONGEST_NAME := ⟨_, PySem.W.mg_of X G g_LONGEST_NAME⟩
      g_HIGHEST_COST := ⟨_, PySem.W.mg_of X G g_HIGHEST_COST⟩
      g_MOST_ROOMS := ⟨_, PySem.W.mg_of X G g_MOST_ROOMS⟩
      g_MOST_LINES := ⟨_, PySem.W.mg_of X G g_MOST_LINES⟩
      g_MOST_DRAINS := ⟨_, PySem.W.mg_of X G g_MOST_DRAINS⟩
      g_MOST_NAMES := ⟨_, PySem.W.mg_of X G g_MOST_NAMES⟩
      b_len := PySem.W.mg_none_of X G z_len
      b_all := PySem.W.mg_none_of X G z_all
      b_isinstance := PySem.W.mg_none_of X G z_isinstance
      b_str := PySem.W.mg_none_of X G z_str
      b_int := PySem.W.mg_none_of X G z_int
      b_bool := PySem.W.mg_none_of X G z_bool
      b_sorted := PySem.W.mg_none_of X G z_sorted
      b_list := PySem.W.mg_none_of X G z_list
      b_set := PySem.W.mg_none_of X G z_set
      b_abs := PySem.W.mg_none_of X G z_abs
      b_range := PySem.W.mg_none_of X G z_range
      b_repr := PySem.W.mg_none_of X G z_repr
      b_enumerate := PySem.W.mg_none_of X G z_enumerate
      b_ValueError := PySem.W.mg_none_of X G z_ValueError
      b_sum := PySem.W.mg_none_of X G z_sum
      i_ha := iHa
      i_hn := gS
      i_ht := gT
      i_hm := iHm
      i_ty := iTy
      gM := PySem.W.mg_of X G eAM
      eM := ⟨⟨_, _, _, _, _, _, _, _, _, _, _, _, _, _, eLM⟩, by decide +kernel, eSM, eGM, eHM, eCM, eKM, eDM⟩
      e := fun n hn => match n, hn with
      | 0, _ => ⟨⟨_, _, _, _, _, _, _, _, _, _, _, _, _, _, eL0⟩, rfl, eS0, eG0, eH0, eC0, eK0, eD0⟩
      | 1, _ => ⟨⟨_, _, _, _, _, _, _, _, _, _, _, _, _, _, eL1⟩, rfl, eS1, eG1, eH1, eC1, eK1, eD1⟩
      | 2, _ => ⟨⟨_, _, _, _, _, _, _, _, _, _, _, _, _, _, eL2⟩, rfl, eS2, eG2, eH2, eC2, eK2, eD2⟩
      | 3, _ => ⟨⟨_, _, _, _, _, _, _, _, _, _, _, _, _, _, eL3⟩, rfl, eS3, eG3, eH3, eC3, eK3, eD3⟩
      | 4, _ => ⟨⟨_, _, _, _, _, _, _, _, _, _, _, _, _, _, eL4⟩, rfl, eS4, eG4, eH4, eC4, eK4, eD4⟩
      | 5, _ => ⟨⟨_, _, _, _, _, _, _, _, _, _, _, _, _, _, eL5⟩, rfl, eS5, eG5, eH5, eC5, eK5, eD5⟩
      | n + 6, hn => absurd hn (by omega)
      gc := ⟨gS, gT⟩
      nd := nD
      g0 := PySem.W.mg_of X G eA0
      n0 := nF0
      t0 := ⟨g0, _, fun_mk (st := (inClass (topS 3) 0)) iL0 iC0 iK0, iF0, iT0⟩
      g1 := PySem.W.mg_of X G eA1
      n1 := nF1
      t1 := ⟨g1, _, fun_mk (st := (inClass (topS 4) 0)) iL1 iC1 iK1, iF1, iT1⟩
      g2 := PySem.W.mg_of X G eA2
      n2 := nF2
      t2 := ⟨g2, _, fun_mk (st := (inClass (topS 5) 0)) iL2 iC2 iK2, iF2, iT2⟩
      g3 := PySem.W.mg_of X G eA3
      n3 := nF3
      t3 := ⟨g3, _, fun_mk (st := (inClass (topS 6) 0)) iL3 iC3 iK3, iF3, iT3⟩
      g4 := PySem.W.mg_of X G eA4
      n4 := nF4
      t4 := ⟨g4, _, fun_mk (st := (inClass (topS 7) 0)) iL4 iC4 iK4, iF4, iT4⟩
      g5 := PySem.W.mg_of X G eA5
      n5 := nF5
      t5 := ⟨g5, _, fun_mk (st := (inClass (topS 8) 0)) iL5 iC5 iK5, iF5, iT5⟩ }
end SM
open PySem PySem.W PyProof.Rows
set_option maxRecDepth 100000 in
set_option maxHeartbeats 0 in
theorem PySem.Challenge.cw_stillmain_k41_cost_of_holds : PySem.Challenge.rw_stillmain_k41_cost_of.Holds := by
  w_on; o_law; k_head; (case hw => w_witness2)
  k_fill
  refine SM.walkG (l := PySem.Challenge.rw_stillmain_k41_cost_of) (n := 63) (k := 11) (x := "_law_script") (sp := SM.spLawL) rfl (by decide) rfl ⟨rfl, by decide, by decide⟩ (fun w h Y => PySem.W.kIn_of Y) ?F (fun K H a ns hl hS => ⟨a, ns, rfl, hS, hl, fun _ => rfl⟩)
  case F =>
    intro w mg fa h KX G hmg base hKb hNb
    suffices T : ∃ (C : Nat → Addr) (M L : Addr), SM.Tx _ mg C M L from by
      obtain ⟨C, M, L, T⟩ := T
      exact SM.lo_law T
    refine' SM.all_mk KX G ?ad0 ?ld0 ?cd0 ?kd0 ?ad1 ?ld1 ?cd1 ?kd1 ?ad2 ?ld2 ?cd2 ?kd2 ?ad3 ?ld3 ?cd3 ?kd3 ?ad4 ?ld4 ?cd4 ?kd4 ?ad5 ?ld5 ?cd5 ?kd5 ?ad6 ?ld6 ?cd6 ?kd6 ?ad7 ?ld7 ?cd7 ?kd7 ?ad8 ?ld8 ?cd8 ?kd8 ?ad9 ?ld9 ?cd9 ?kd9 ?ad10 ?ld10 ?cd10 ?kd10 ?ad11 ?ld11 ?cd11 ?kd11 ?ad12 ?ld12 ?cd12 ?kd12 ?ad13 ?ld13 ?cd13 ?kd13 ?ad14 ?ld14 ?cd14 ?kd14 ?ad15 ?ld15 ?cd15 ?kd15 ?ad16 ?ld16 ?cd16 ?kd16 ?ad17 ?ld17 ?cd17 ?kd17 ?ad18 ?ld18 ?cd18 ?kd18 ?ad19 ?ld19 ?cd19 ?kd19 ?ad20 ?ld20 ?cd20 ?kd20 ?ad21 ?ld21 ?cd21 ?kd21 ?ad22 ?ld22 ?cd22 ?kd22 ?ad23 ?ld23 ?cd23 ?kd23 ?ad24 ?ld24 ?cd24 ?kd24 ?ad25 ?ld25 ?cd25 ?kd25 ?ad26 ?ld26 ?cd26 ?kd26 ?ad27 ?ld27 ?cd27 ?kd27 ?aCL ?am0 ?im0 ?lm0 ?cm0 ?km0 ?am1 ?im1 ?lm1 ?cm1 ?km1 ?am2 ?im2 ?lm2 ?cm2 ?km2 ?am3 ?im3 ?lm3 ?cm3 ?km3 ?am4 ?im4 ?lm4 ?cm4 ?km4 ?am5 ?im5 ?lm5 ?cm5 ?km5 ?am6 ?im6 ?lm6 ?cm6 ?km6 ?am7 ?im7 ?lm7 ?cm7 ?km7 ?am8 ?im8 ?lm8 ?cm8 ?km8 ?am9 ?im9 ?lm9 ?cm9 ?km9 ?am10 ?im10 ?lm10 ?cm10 ?km10 ?am11 ?im11 ?lm11 ?cm11 ?km11 ?am12 ?im12 ?lm12 ?cm12 ?km12 ?am13 ?im13 ?lm13 ?cm13 ?km13 ?am14 ?im14 ?lm14 ?cm14 ?km14 ?am15 ?im15 ?lm15 ?cm15 ?km15 ?pg ?hdL ?po ?sa ?mkL ?kL ?nA_rooms ?nA_lines ?nA_drains ?nA_sources ?g_LONGEST_NAME ?g_HIGHEST_COST ?g_MOST_ROOMS ?g_MOST_LINES ?g_MOST_DRAINS ?g_MOST_NAMES ?z_len ?z_all ?z_isinstance ?z_str ?z_int ?z_bool ?z_sorted ?z_list ?z_set ?z_abs ?z_range ?z_repr ?z_enumerate ?z_ValueError ?z_sum ?eAM ?eLM ?eSM ?eGM ?eHM ?eCM ?eKM ?eDM ?eA0 ?eL0 ?eS0 ?eG0 ?eH0 ?eC0 ?eK0 ?eD0 ?eA1 ?eL1 ?eS1 ?eG1 ?eH1 ?eC1 ?eK1 ?eD1 ?eA2 ?eL2 ?eS2 ?eG2 ?eH2 ?eC2 ?eK2 ?eD2 ?eA3 ?eL3 ?eS3 ?eG3 ?eH3 ?eC3 ?eK3 ?eD3 ?eA4 ?eL4 ?eS4 ?eG4 ?eH4 ?eC4 ?eK4 ?eD4 ?eA5 ?eL5 ?eS5 ?eG5 ?eH5 ?eC5 ?eK5 ?eD5 ?nF0 ?iF0 ?iT0 ?iL0 ?iC0 ?iK0 ?nF1 ?iF1 ?iT1 ?iL1 ?iC1 ?iK1 ?nF2 ?iF2 ?iT2 ?iL2 ?iC2 ?iK2 ?nF3 ?iF3 ?iT3 ?iL3 ?iC3 ?iK3 ?nF4 ?iF4 ?iT4 ?iL4 ?iC4 ?iK4 ?nF5 ?iF5 ?iT5 ?iL5 ?iC5 ?iK5 ?gS ?gT ?iHa ?iHm ?iTy ?nD
    (case ad0 => k_is)
    (case ld0 => k_is)
    (case cd0 => k_is)
    (case kd0 => k_is)
    (case ad1 => k_is)
    (case ld1 => k_is)
    (case cd1 => k_is)
    (case kd1 => k_is)
    (case ad2 => k_is)
    (case ld2 => k_is)
    (case cd2 => k_is)
    (case kd2 => k_is)
    (case ad3 => k_is)
    (case ld3 => k_is)
    (case cd3 => k_is)
    (case kd3 => k_is)
    (case ad4 => k_is)
    (case ld4 => k_is)
    (case cd4 => k_is)
    (case kd4 => k_is)
    (case ad5 => k_is)
    (case ld5 => k_is)
    (case cd5 => k_is)
    (case kd5 => k_is)
    (case ad6 => k_is)
    (case ld6 => k_is)
    (case cd6 => k_is)
    (case kd6 => k_is)
    (case ad7 => k_is)
    (case ld7 => k_is)
    (case cd7 => k_is)
    (case kd7 => k_is)
    (case ad8 => k_is)
    (case ld8 => k_is)
    (case cd8 => k_is)
    (case kd8 => k_is)
    (case ad9 => k_is)
    (case ld9 => k_is)
    (case cd9 => k_is)
    (case kd9 => k_is)
    (case ad10 => k_is)
    (case ld10 => k_is)
    (case cd10 => k_is)
    (case kd10 => k_is)
    (case ad11 => k_is)
    (case ld11 => k_is)
    (case cd11 => k_is)
    (case kd11 => k_is)
    (case ad12 => k_is)
    (case ld12 => k_is)
    (case cd12 => k_is)
    (case kd12 => k_is)
    (case ad13 => k_is)
    (case ld13 => k_is)
    (case cd13 => k_is)
    (case kd13 => k_is)
    (case ad14 => k_is)
    (case ld14 => k_is)
    (case cd14 => k_is)
    (case kd14 => k_is)
    (case ad15 => k_is)
    (case ld15 => k_is)
    (case cd15 => k_is)
    (case kd15 => k_is)
    (case ad16 => k_is)
    (case ld16 => k_is)
    (case cd16 => k_is)
    (case kd16 => k_is)
    (case ad17 => k_is)
    (case ld17 => k_is)
    (case cd17 => k_is)
    (case kd17 => k_is)
    (case ad18 => k_is)
    (case ld18 => k_is)
    (case cd18 => k_is)
    (case kd18 => k_is)
    (case ad19 => k_is)
    (case ld19 => k_is)
    (case cd19 => k_is)
    (case kd19 => k_is)
    (case ad20 => k_is)
    (case ld20 => k_is)
    (case cd20 => k_is)
    (case kd20 => k_is)
    (case ad21 => k_is)
    (case ld21 => k_is)
    (case cd21 => k_is)
    (case kd21 => k_is)
    (case ad22 => k_is)
    (case ld22 => k_is)
    (case cd22 => k_is)
    (case kd22 => k_is)
    (case ad23 => k_is)
    (case ld23 => k_is)
    (case cd23 => k_is)
    (case kd23 => k_is)
    (case ad24 => k_is)
    (case ld24 => k_is)
    (case cd24 => k_is)
    (case kd24 => k_is)
    (case ad25 => k_is)
    (case ld25 => k_is)
    (case cd25 => k_is)
    (case kd25 => k_is)
    (case ad26 => k_is)
    (case ld26 => k_is)
    (case cd26 => k_is)
    (case kd26 => k_is)
    (case ad27 => k_is)
    (case ld27 => k_is)
    (case cd27 => k_is)
    (case kd27 => k_is)
    (case aCL => k_is)
    (case am0 => k_is)
    (case im0 => k_is)
    (case lm0 => k_is)
    (case cm0 => k_is)
    (case km0 => k_is)
    (case am1 => k_is)
    (case im1 => k_is)
    (case lm1 => k_is)
    (case cm1 => k_is)
    (case km1 => k_is)
    (case am2 => k_is)
    (case im2 => k_is)
    (case lm2 => k_is)
    (case cm2 => k_is)
    (case km2 => k_is)
    (case am3 => k_is)
    (case im3 => k_is)
    (case lm3 => k_is)
    (case cm3 => k_is)
    (case km3 => k_is)
    (case am4 => k_is)
    (case im4 => k_is)
    (case lm4 => k_is)
    (case cm4 => k_is)
    (case km4 => k_is)
    (case am5 => k_is)
    (case im5 => k_is)
    (case lm5 => k_is)
    (case cm5 => k_is)
    (case km5 => k_is)
    (case am6 => k_is)
    (case im6 => k_is)
    (case lm6 => k_is)
    (case cm6 => k_is)
    (case km6 => k_is)
    (case am7 => k_is)
    (case im7 => k_is)
    (case lm7 => k_is)
    (case cm7 => k_is)
    (case km7 => k_is)
    (case am8 => k_is)
    (case im8 => k_is)
    (case lm8 => k_is)
    (case cm8 => k_is)
    (case km8 => k_is)
    (case am9 => k_is)
    (case im9 => k_is)
    (case lm9 => k_is)
    (case cm9 => k_is)
    (case km9 => k_is)
    (case am10 => k_is)
    (case im10 => k_is)
    (case lm10 => k_is)
    (case cm10 => k_is)
    (case km10 => k_is)
    (case am11 => k_is)
    (case im11 => k_is)
    (case lm11 => k_is)
    (case cm11 => k_is)
    (case km11 => k_is)
    (case am12 => k_is)
    (case im12 => k_is)
    (case lm12 => k_is)
    (case cm12 => k_is)
    (case km12 => k_is)
    (case am13 => k_is)
    (case im13 => k_is)
    (case lm13 => k_is)
    (case cm13 => k_is)
    (case km13 => k_is)
    (case am14 => k_is)
    (case im14 => k_is)
    (case lm14 => k_is)
    (case cm14 => k_is)
    (case km14 => k_is)
    (case am15 => k_is)
    (case im15 => k_is)
    (case lm15 => k_is)
    (case cm15 => k_is)
    (case km15 => k_is)
    (case pg => k_is)
    (case hdL => k_is)
    (case po => k_is)
    (case sa => k_is)
    (case mkL => k_is)
    (case kL => k_is)
    (case nA_rooms => k_is)
    (case nA_lines => k_is)
    (case nA_drains => k_is)
    (case nA_sources => k_is)
    (case g_LONGEST_NAME => k_is)
    (case g_HIGHEST_COST => k_is)
    (case g_MOST_ROOMS => k_is)
    (case g_MOST_LINES => k_is)
    (case g_MOST_DRAINS => k_is)
    (case g_MOST_NAMES => k_is)
    (case z_len => k_is)
    (case z_all => k_is)
    (case z_isinstance => k_is)
    (case z_str => k_is)
    (case z_int => k_is)
    (case z_bool => k_is)
    (case z_sorted => k_is)
    (case z_list => k_is)
    (case z_set => k_is)
    (case z_abs => k_is)
    (case z_range => k_is)
    (case z_repr => k_is)
    (case z_enumerate => k_is)
    (case z_ValueError => k_is)
    (case z_sum => k_is)
    (case eAM => k_is)
    (case eLM => k_is)
    (case eSM => k_is)
    (case eGM => k_is)
    (case eHM => k_is)
    (case eCM => k_is)
    (case eKM => k_is)
    (case eDM => k_is)
    (case eA0 => k_is)
    (case eL0 => k_is)
    (case eS0 => k_is)
    (case eG0 => k_is)
    (case eH0 => k_is)
    (case eC0 => k_is)
    (case eK0 => k_is)
    (case eD0 => k_is)
    (case eA1 => k_is)
    (case eL1 => k_is)
    (case eS1 => k_is)
    (case eG1 => k_is)
    (case eH1 => k_is)
    (case eC1 => k_is)
    (case eK1 => k_is)
    (case eD1 => k_is)
    (case eA2 => k_is)
    (case eL2 => k_is)
    (case eS2 => k_is)
    (case eG2 => k_is)
    (case eH2 => k_is)
    (case eC2 => k_is)
    (case eK2 => k_is)
    (case eD2 => k_is)
    (case eA3 => k_is)
    (case eL3 => k_is)
    (case eS3 => k_is)
    (case eG3 => k_is)
    (case eH3 => k_is)
    (case eC3 => k_is)
    (case eK3 => k_is)
    (case eD3 => k_is)
    (case eA4 => k_is)
    (case eL4 => k_is)
    (case eS4 => k_is)
    (case eG4 => k_is)
    (case eH4 => k_is)
    (case eC4 => k_is)
    (case eK4 => k_is)
    (case eD4 => k_is)
    (case eA5 => k_is)
    (case eL5 => k_is)
    (case eS5 => k_is)
    (case eG5 => k_is)
    (case eH5 => k_is)
    (case eC5 => k_is)
    (case eK5 => k_is)
    (case eD5 => k_is)
    (case nF0 => k_is)
    (case iF0 => k_is)
    (case iT0 => k_is)
    (case iL0 => k_is)
    (case iC0 => k_is)
    (case iK0 => k_is)
    (case nF1 => k_is)
    (case iF1 => k_is)
    (case iT1 => k_is)
    (case iL1 => k_is)
    (case iC1 => k_is)
    (case iK1 => k_is)
    (case nF2 => k_is)
    (case iF2 => k_is)
    (case iT2 => k_is)
    (case iL2 => k_is)
    (case iC2 => k_is)
    (case iK2 => k_is)
    (case nF3 => k_is)
    (case iF3 => k_is)
    (case iT3 => k_is)
    (case iL3 => k_is)
    (case iC3 => k_is)
    (case iK3 => k_is)
    (case nF4 => k_is)
    (case iF4 => k_is)
    (case iT4 => k_is)
    (case iL4 => k_is)
    (case iC4 => k_is)
    (case iK4 => k_is)
    (case nF5 => k_is)
    (case iF5 => k_is)
    (case iT5 => k_is)
    (case iL5 => k_is)
    (case iC5 => k_is)
    (case iK5 => k_is)
    (case gS => k_is)
    (case gT => k_is)
    (case iHa => k_is)
    (case iHm => k_is)
    (case iTy => k_is)
    (case nD => decide)
