import PyProof.Rows.All
import Wide.All
import OpenK.AllK
import Wide.FinOn
import HandS.Base
import HandS.Call
import HandS.List
import HandS.Comp
import HandS.Ends
import HandS.Dict
import HandS.Iter
import HandS.Text
import HandS.Words
import HandS.WordsList
import HandS.WordsDict
import HandS.Exc
import HandS.TryOnly
import HandS.ExcOwn
import HandS.ExcInit
import HandS.WordsExc
import HandS.HotCalls
import KE.KExcIs
import PyProof.ReprRoads
import PyProof.ReprLen
import HandS.Evl
import PySem.Challenge.RW_stillmain_k13_refusals_apart
set_option Elab.async false
set_option linter.all false
set_option maxRecDepth 100000
set_option maxHeartbeats 4000000
/-! Part 1: a def that runs where no guard stands (G), so that repr of data may be told. -/
namespace SM
open PySem PySem.Spec PyProof.Rows L2
/-- nothing is being shown around -/
abbrev Quiet (A : Around) : Prop := A.guards = some []
theorem quiet_deeper {A : Around} (q : Quiet A) (env : Env) : Quiet (A.deeper env) := q
/-- a def's promise, where nothing is being shown around -/
structure FnG (P : Program) (w : World) (K : PySem.W.Frag) (mg : Str → Option Value) (base : Heap) (CX : CXT) (k : Nat) (f : Addr) (fd : FuncData) (ps : List Str) (sp : Sp) : Prop where
  len : ∀ vs H Q E, sp vs H Q E → vs.length = ps.length
  go : ∀ (A : Around) (outer : List Env) (s : Shared) (H : Hp) (args : Args) (us : List Value) (vs : List V) (Q : VK) (E : XK), Quiet A → Room k A → Env0 P w K mg base A outer s H → BindsTo s fd args (ps.zip us) → Vals vs us → sp vs H Q E →
    codeAny (model P w) A (.call (.ref f) args) (CR CX outer P w H s Q E) s
section
variable {P : Program} {w : World} {K : PySem.W.Frag} {mg : Str → Option Value} {base : Heap} {CX : CXT} {k : Nat} {f : Addr} {fd : FuncData} {ps : List Str} {sp : Sp}
theorem FnG.of (F : FnOk P w K mg base CX k f fd ps sp) : FnG P w K mg base CX k f fd ps sp :=
  ⟨F.len, fun A outer s H args us vs Q E _ hr e0 hb r h => F.run A outer s H args us vs Q E hr e0 hb r h⟩
theorem FnG.up {j : Nat} (F : FnG P w K mg base CX j f fd ps sp) (h : j ≤ k) : FnG P w K mg base CX k f fd ps sp :=
  ⟨F.len, fun A outer s H args us vs Q E q hr => F.go A outer s H args us vs Q E q (hr.mono h)⟩
end
section
variable {CX : CXT} {P : Program} {w : World} {K : PySem.W.Frag} {mg : Str → Option Value} {base : Heap}
/-- a quiet def by its body -/
theorem fnG_body {k : Nat} {f : Addr} {name qual : Str} {params : Arguments} {body : List Stmt} {scope : Scope} {dV kV doc pm cdv ct oc : Value} {an od : Option Addr} {osl : Array (Option Value)} {N ps : List Str} {sp : Sp}
    (lk : K.lookup f = some ⟨oc, od, .func (PySem.W.fnOf name qual params body scope dV kV doc pm an cdv ct), osl⟩) (hcd : PySem.W.codeIn K cdv qual = true) (S : FnScope N ps scope) (len : ∀ vs H Q E, sp vs H Q E → vs.length = ps.length)
    (bd : ∀ (A : Around) (outer : List Env) (s : Shared) (H : Hp) (vs : List V) (Q : VK) (E : XK), Quiet A → Room k (A.deeper (envOfC qual scope s.heap.objs.size f cdv)) → sp vs H Q E →
      ∃ t, PSs (cxOf CX P w K mg base N qual scope f cdv A outer s H E) body t ∧ t { nx := fun _ H' => Q .non H', rt := Q } (L2.start N vs) H) :
    FnG P w K mg base CX (k + 1) f (PySem.W.fnOf name qual params body scope dV kV doc pm an cdv ct) ps sp where
  len := len
  go A outer s H args us vs Q E qa hr e0 hb r hsp := by
    have hvl := len vs H Q E hsp
    have kIn : K.In s.heap := e0.mod.kin.keeps fun b o z => (e0.bs b o z).1
    have noLim : s.heap.NoLimit := e0.mod.nolimit.keeps fun b o z => (e0.bs b o z).1
    have kinds : ∀ y ∈ ps.zip us, scope.names.lookup y.1 = some .local ∨ (scope.names.lookup y.1 = some .cell ∧ ((cellsFrom (s.heap.objs.size + 1) scope.names []).lookup y.1).isSome = true) := by
      rintro ⟨n, v⟩ hy
      exact (S.par n (List.of_mem_zip hy).1).imp id fun q => ⟨q, PySem.W.cellsFrom_some _ _ _ (.inl q)⟩
    refine codeAny_call_function hr.depth (kIn f _ lk) rfl S.co S.gen rfl (PySem.W.codeRec_of kIn hcd) (hb _ _ _ _ ?_)
    refine wpAny_newFunctionEnv_cells S.kind kinds fun env he s1 x => ?_
    subst he
    obtain ⟨t, ht, hq⟩ := bd A outer s H vs Q E qa (hr.deeper _) hsp
    have J : Inv (cxOf CX P w K mg base N qual scope f cdv A outer s H E) [] (L2.start N vs) H s1 := inv_start S hr.hd e0 hvl r x
    refine ⟨noLim.keeps x.toInCall.keep, codeAny_func (wpAny_mono (ht.run [] s1 _ H _ J hq) ?_ fun _ _ hs => hs)⟩
    intro fl s2 hs
    cases fl with
    | ret u =>
      obtain ⟨v, σ2, H2, J2, rv, q⟩ := hs
      exact ⟨v, H2, J2.os, J2.bare, J2.base, J2.hok, rv, q⟩
    | next =>
      obtain ⟨σ2, H2, J2, q⟩ := hs
      exact ⟨V.non, H2, J2.os, J2.bare, J2.base, J2.hok, rfl, q⟩
    | brk =>
      obtain ⟨_, _, _, z⟩ := hs
      exact z.elim
    | cont =>
      obtain ⟨_, _, _, z⟩ := hs
      exact z.elim
/-- the same of a def of the text, nothing is let out -/
theorem Fun.okG {x qual : Str} {st : Stmt} {f : Addr} {fd : FuncData} {N ps : List Str} {k : Nat} {sp : Sp} (F : L2.Fun K x qual st f fd) (S : FnScope N ps (defScope st)) (len : ∀ vs H Q E, sp vs H Q E → vs.length = ps.length)
    (bd : ∀ (cdv : Value) (A : Around) (outer : List Env) (s : Shared) (H : Hp) (vs : List V) (Q : VK) (E : XK), Quiet A → Room k (A.deeper (envOfC qual (defScope st) s.heap.objs.size f cdv)) → sp vs H Q E →
      ∃ t, PSs (cxOf CX0 P w K mg base N qual (defScope st) f cdv A outer s H E).nox (defBody st) t ∧ t { nx := fun _ H' => Q .non H', rt := Q } (L2.start N vs) H) : FnG P w K mg base CX0 (k + 1) f fd ps sp := by
  obtain ⟨oc, od, kV, doc, pm, an, cdv, ct, osl, rfl, lk, hcd⟩ := F.ex
  refine fnG_body lk hcd S len fun A outer s H vs Q E qa hr hsp => ?_
  obtain ⟨t, ht, hq⟩ := bd cdv A outer s H vs Q E qa hr hsp
  exact ⟨t, ht.nox, hq⟩
end
section
variable {X : Cx} {CX : CXT} {k : Nat} {f : Addr} {fd : FuncData} {ps : List Str} {sp : Sp} {E : XK} {x : Str} {p pos : Pos} {e : Expr} {es : List Expr} {t : TA}
theorem runG {pins : List (Addr × Obj)} {σ : L2.St} {H : Hp} {s : Shared} {Q : VK} {us : List Value} {vs : List V} (F : FnG X.prog X.w X.K X.mg X.base CX k f fd ps sp) (qa : Quiet X.A) (hr : Room k X.A) (hb : Binds X.K fd ps []) (hx : Passes CX X E)
    (I : Inv X pins σ H s) (r : Vals vs us) (h : sp vs H Q E) : wpAny (model X.prog X.w) X.A (call (.ref f) us) (EP X pins σ Q) X.xe s := by
  have el : us.length = ps.length := r.length.symm.trans (F.len vs H Q E h)
  have bb := hb s us I.kIn (by rw [List.append_nil]; exact el)
  rw [List.append_nil] at bb
  refine wpAny_call (codeAny_mono (F.go X.A X.stack s H ⟨us, []⟩ us vs Q E qa hr I.env0 bb r h) ?_)
  intro res s2 hq
  match res, hq with
  | .error er, hq => exact hx pins σ H s er s2 I hq
  | .ok (.ret u), hq => exact I.after hq
  | .ok .next, hq => exact False.elim hq
  | .ok .brk, hq => exact False.elim hq
  | .ok .cont, hq => exact False.elim hq
/-- f(e, ..), f a quiet def, called where it is quiet -/
theorem pe_callG (F : FnG X.prog X.w X.K X.mg X.base CX k f fd ps sp) (qa : Quiet X.A) (hr : Room k X.A) (hg : Gl X x) (hm : X.mg x = some (.ref f)) (hk : PySem.W.keepIn X.K (.ref f) = true) (hb : Binds X.K fd ps []) (hx : Passes CX X E)
    (ha : PA X (e :: es) t) (hdb : (x == ("__debug__" : Str)) = false := by decide) (he : starEach (e :: es) X.env = (false, eval e X.env) :: starEach es X.env := by rfl) (hpl : (backTo pos (starEach es X.env)).any (·.1) = false := by rfl) :
    PE X (.Call (.Name x p) (e :: es) [] pos) (tCall sp [] E t) := by
  refine ⟨fun pins s σ H Q I h => wpAny_Call_Name_kw (ld_glob I hg hm ?_ hdb)⟩
  refine PySem.W.callWith_K (h₀ := X.base) I.ok.mod.kin hk (thn (ha.run pos pins s σ H _ I h) ?_) he hpl
  rintro us s1 ⟨vs, H1, I1, r, q⟩
  rw [List.append_nil] at q
  exact ⟨I1.kIn, runG F qa hr hb hx I1 r q⟩
end
end SM
/-! Part F: defs by name, no address told. -/
namespace SM
open PySem PySem.Spec PyProof.Rows L2
/-- the def st stands at the module's name x -/
def DefAt (K : PySem.W.Frag) (mg : Str → Option Value) (x : Str) (st : Stmt) : Prop := ∃ f fd, L2.Fun K x x st f fd ∧ mg x = some (.ref f)
/-- whoever calls x by its name has the promise sp -/
def OkF (P : Program) (w : World) (K : PySem.W.Frag) (mg : Str → Option Value) (base : Heap) (CX : CXT) (k : Nat) (x : Str) (ps : List Str) (sp : Sp) : Prop :=
  ∃ f fd, mg x = some (.ref f) ∧ PySem.W.keepIn K (.ref f) = true ∧ Binds K fd ps [] ∧ FnOk P w K mg base CX k f fd ps sp
/-- .. where it is quiet -/
def OkQ (P : Program) (w : World) (K : PySem.W.Frag) (mg : Str → Option Value) (base : Heap) (CX : CXT) (k : Nat) (x : Str) (ps : List Str) (sp : Sp) : Prop :=
  ∃ f fd, mg x = some (.ref f) ∧ PySem.W.keepIn K (.ref f) = true ∧ Binds K fd ps [] ∧ FnG P w K mg base CX k f fd ps sp
section
variable {P : Program} {w : World} {K : PySem.W.Frag} {mg : Str → Option Value} {base : Heap} {CX : CXT} {k : Nat} {x : Str} {ps : List Str} {sp : Sp}
theorem OkF.up {j : Nat} (F : OkF P w K mg base CX j x ps sp) (h : j ≤ k) : OkF P w K mg base CX k x ps sp :=
  let ⟨f, fd, a, b, c, d⟩ := F; ⟨f, fd, a, b, c, d.mono h⟩
theorem OkQ.up {j : Nat} (F : OkQ P w K mg base CX j x ps sp) (h : j ≤ k) : OkQ P w K mg base CX k x ps sp :=
  let ⟨f, fd, a, b, c, d⟩ := F; ⟨f, fd, a, b, c, d.up h⟩
theorem OkF.q (F : OkF P w K mg base CX k x ps sp) : OkQ P w K mg base CX k x ps sp :=
  let ⟨f, fd, a, b, c, d⟩ := F; ⟨f, fd, a, b, c, .of d⟩
/-- binding of written parameters -/
abbrev BindsBy (x : Str) (st : Stmt) (ps : List Str) : Prop := ∀ (kV doc pm : Value) (an : Option Addr) (cdv ct : Value) (us : List Value), us.length = ps.length →
  bindArgs (PySem.W.fnOf x x (defArgs st) (defBody st) (defScope st) .none kV doc pm an cdv ct) ⟨us, []⟩ = pure (ps.zip us)
/-- a def that lets nothing out -/
theorem DefAt.ok {st : Stmt} {N : List Str} (D : DefAt K mg x st) (S : FnScope N ps (defScope st)) (b : BindsBy x st ps) (len : ∀ vs H Q E, sp vs H Q E → vs.length = ps.length)
    (bd : ∀ (f : Addr) (cdv : Value) (A : Around) (outer : List Env) (s : Shared) (H : Hp) (vs : List V) (Q : VK) (E : XK), Room k (A.deeper (envOfC x (defScope st) s.heap.objs.size f cdv)) → sp vs H Q E →
      ∃ t, PSs (cxOf CX0 P w K mg base N x (defScope st) f cdv A outer s H E).nox (defBody st) t ∧ t { nx := fun _ H' => Q .non H', rt := Q } (L2.start N vs) H) : OkF P w K mg base CX0 (k + 1) x ps sp := by
  obtain ⟨f, fd, F, g⟩ := D
  exact ⟨f, fd, g, F.kp, F.binds b, F.ok S len fun cdv A outer s H vs Q E hr h => bd f cdv A outer s H vs Q E hr h⟩
/-- .. that may raise -/
theorem DefAt.okX {st : Stmt} {N : List Str} (D : DefAt K mg x st) (S : FnScope N ps (defScope st)) (b : BindsBy x st ps) (len : ∀ vs H Q E, sp vs H Q E → vs.length = ps.length)
    (bd : ∀ (f : Addr) (cdv : Value) (A : Around) (outer : List Env) (s : Shared) (H : Hp) (vs : List V) (Q : VK) (E : XK), Room k (A.deeper (envOfC x (defScope st) s.heap.objs.size f cdv)) → sp vs H Q E →
      ∃ t, PSs (cxOf (L2.CX P w) P w K mg base N x (defScope st) f cdv A outer s H E) (defBody st) t ∧ t { nx := fun _ H' => Q .non H', rt := Q } (L2.start N vs) H) : OkF P w K mg base (L2.CX P w) (k + 1) x ps sp := by
  obtain ⟨f, fd, F, g⟩ := D
  exact ⟨f, fd, g, F.kp, F.binds b, F.okX S len fun cdv A outer s H vs Q E hr h => bd f cdv A outer s H vs Q E hr h⟩
/-- .. that wants it quiet -/
theorem DefAt.okQ {st : Stmt} {N : List Str} (D : DefAt K mg x st) (S : FnScope N ps (defScope st)) (b : BindsBy x st ps) (len : ∀ vs H Q E, sp vs H Q E → vs.length = ps.length)
    (bd : ∀ (f : Addr) (cdv : Value) (A : Around) (outer : List Env) (s : Shared) (H : Hp) (vs : List V) (Q : VK) (E : XK), Quiet A → Room k (A.deeper (envOfC x (defScope st) s.heap.objs.size f cdv)) → sp vs H Q E →
      ∃ t, PSs (cxOf CX0 P w K mg base N x (defScope st) f cdv A outer s H E).nox (defBody st) t ∧ t { nx := fun _ H' => Q .non H', rt := Q } (L2.start N vs) H) : OkQ P w K mg base CX0 (k + 1) x ps sp := by
  obtain ⟨f, fd, F, g⟩ := D
  exact ⟨f, fd, g, F.kp, F.binds b, Fun.okG F S len fun cdv A outer s H vs Q E qa hr h => bd f cdv A outer s H vs Q E qa hr h⟩
end
section
variable {X : Cx} {CX : CXT} {k : Nat} {ps : List Str} {sp : Sp} {E : XK} {x : Str} {p pos : Pos} {e : Expr} {es : List Expr} {t : TA}
theorem pe_f (F : OkF X.prog X.w X.K X.mg X.base CX k x ps sp) (hr : Room k X.A) (hx : Passes CX X E) (ha : PA X (e :: es) t) (hg : Gl X x := by rfl) (hdb : (x == ("__debug__" : Str)) = false := by decide)
    (he : starEach (e :: es) X.env = (false, eval e X.env) :: starEach es X.env := by rfl) (hpl : (backTo pos (starEach es X.env)).any (·.1) = false := by rfl) : PE X (.Call (.Name x p) (e :: es) [] pos) (tCall sp [] E t) := by
  obtain ⟨f, fd, a, b, c, d⟩ := F
  exact pe_call d hr hg a b c .nil hx ha hdb he hpl
theorem pe_q (F : OkQ X.prog X.w X.K X.mg X.base CX k x ps sp) (qa : Quiet X.A) (hr : Room k X.A) (hx : Passes CX X E) (ha : PA X (e :: es) t) (hg : Gl X x := by rfl) (hdb : (x == ("__debug__" : Str)) = false := by decide)
    (he : starEach (e :: es) X.env = (false, eval e X.env) :: starEach es X.env := by rfl) (hpl : (backTo pos (starEach es X.env)).any (·.1) = false := by rfl) : PE X (.Call (.Name x p) (e :: es) [] pos) (tCall sp [] E t) := by
  obtain ⟨f, fd, a, b, c, d⟩ := F
  exact pe_callG d qa hr hg a b c hx ha hdb he hpl
/-- in a try's body: what is raised is wished for at the slots as they stand -/
theorem pe_fS {E : L2.St → XK} (F : OkF X.prog X.w X.K X.mg X.base CX k x ps sp) (hr : Room k X.A) (hx : ∀ σ, PassesAt CX X σ (E σ)) (ha : PA X (e :: es) t) (hg : Gl X x := by rfl) (hdb : (x == ("__debug__" : Str)) = false := by decide)
    (he : starEach (e :: es) X.env = (false, eval e X.env) :: starEach es X.env := by rfl) (hpl : (backTo pos (starEach es X.env)).any (·.1) = false := by rfl) : PE X (.Call (.Name x p) (e :: es) [] pos) (tCallS sp E t) := by
  obtain ⟨f, fd, a, b, c, d⟩ := F
  exact pe_callS d hr hg a b c hx ha hdb he hpl
end
/-! ### small facts -/
theorem if_t {c : Bool} {A B : Prop} (hc : c = true) (h : A) : if c = true then A else B := by
  rw [if_pos hc]
  exact h
theorem if_f {c : Bool} {A B : Prop} (hc : c = false) (h : B) : if c = true then A else B := by
  rw [hc, if_neg Bool.false_ne_true]
  exact h
theorem hu64 {A : Around} {k : Nat} (hr : Room k A) : A.units + 64 < cLine := hr.units
theorem hu0 {A : Around} {k : Nat} (hr : Room k A) : A.units < cLine := hr.units0
/-- what was tracked stays, a new thing beside -/
theorem Same.newp {H : Hp} {p : Addr} {o : HO} (h : H p = none) : Same H (upd H p o) := fun b u e => by
  rw [upd_ne (ne_of_none e h)]
  exact e
theorem Same.seqT {K : PySem.W.Frag} {H H' : Hp} {a : Addr} {xs : List V} (e : Same H H') (h : SqT K H a xs) : SqT K H' a xs := by
  rcases h with (h | ⟨o, h⟩) | h
  · exact .inl (.inl (e _ _ h))
  · exact .inl (.inr ⟨o, e _ _ h⟩)
  · exact .inr h
mutual
theorem dp_same {K : PySem.W.Frag} {H H' : Hp} (e : Same H H') : ∀ (d : PyData) (v : V), Dp K H v d → Dp K H' v d
  | .none, _, h => by cases h; exact .non
  | .bool _, _, h => by cases h; exact .bl _
  | .int _, _, h => by cases h; exact .int _
  | .str _, _, h => by cases h; exact .str _
  | .list ds, _, h => by cases h with | lst s t => exact .lst (L2.Same.seq e s) (dps_same e ds _ t)
  | .tuple ds, _, h => by cases h with | tup s t => exact .tup (Same.seqT e s) (dps_same e ds _ t)
  | .dict _, _, h => by cases h
theorem dps_same {K : PySem.W.Frag} {H H' : Hp} (e : Same H H') : ∀ (ds : List PyData) (vs : List V), DpAll K H vs ds → DpAll K H' vs ds
  | [], _, h => by cases h; exact .nil
  | d :: ds, _, h => by cases h with | cons a b => exact .cons (dp_same e d _ a) (dps_same e ds _ b)
end
end SM
/-! Part G: the bag of draws. -/
namespace SM
open PySem PySem.Spec PyProof.Rows L2
/-- l[i], i not below nought, for l[i] op= e -/
def gL (K : PySem.W.Frag) : V → V → Hp → VK → Prop := fun x y H Q => ∃ (p : Addr) (xs : List V) (i : Int) (v : V), x = .ref p ∧ y = .int i ∧ SqL K H p xs ∧ 0 ≤ i ∧ xs[i.toNat]? = some v ∧ Q v H
theorem get_list {X : Cx} : PGet X (gL X.K) := by
  intro pins s σ H o i ov iv Q I ro ri h
  obtain ⟨p, xs, n, v, rfl, rfl, sq, h0, hx, q⟩ := h
  obtain rfl : ov = Value.ref p := ro
  obtain ⟨t, rfl⟩ := ri
  obtain ⟨its, rv, pl, hz⟩ := I.list sq
  obtain ⟨u, eu, ru⟩ := rv.get hx
  have hi : n.toNat < xs.length := (List.getElem?_eq_some_iff.mp hx).1
  have l63 := line63
  exact wpAny_getItem_list pl.isList h0 (by omega) (by simpa using eu) ⟨v, H, I, ru, q⟩
/-- the bag at p: three numbers and the cells at q -/
structure BagIs (H : Hp) (p q : Addr) (a b c : Int) (ns : List Int) : Prop where
  top : H p = some (.lst [.int a, .int b, .int c, .ref q])
  low : H q = some (.lst (ns.map V.int))
  a0 : 0 ≤ a
  b0 : 0 ≤ b
  b1 : b < 2147483647
  c0 : 0 ≤ c
  nn : ∀ n ∈ ns, 0 ≤ n
def Bag (H : Hp) (p q : Addr) : Prop := ∃ a b c ns, BagIs H p q a b c ns
theorem Bag.ne {H : Hp} {p q : Addr} (B : Bag H p q) : p ≠ q := by
  obtain ⟨a, b, c, ns, B⟩ := B
  intro e
  subst e
  have z := B.top.symm.trans B.low
  have z2 := congrArg (fun o => match o with | some (HO.lst xs) => xs | _ => []) z
  have z3 : ([.int a, .int b, .int c, .ref p] : List V) = ns.map V.int := z2
  have z4 : V.ref p ∈ ns.map V.int := by rw [← z3]; simp
  obtain ⟨n, _, hn⟩ := List.mem_map.mp z4
  cases hn
/-- but for what stands at p all is as it was -/
def But (p : Addr) (H H' : Hp) : Prop := ∀ b, b ≠ p → H' b = H b
theorem But.refl (p : Addr) (H : Hp) : But p H H := fun _ _ => rfl
theorem But.trans {p : Addr} {H H1 H2 : Hp} (x : But p H H1) (y : But p H1 H2) : But p H H2 := fun b hb => (y b hb).trans (x b hb)
theorem But.upd {p : Addr} {H : Hp} {o : HO} : But p H (L2.upd H p o) := fun _ hb => upd_ne hb
theorem Bag.keep {H H' : Hp} {p q : Addr} (B : Bag H p q) (ep : H' p = H p) (eq : H' q = H q) : Bag H' p q := by
  obtain ⟨a, b, c, ns, B⟩ := B
  exact ⟨a, b, c, ns, ep.trans B.top, eq.trans B.low, B.a0, B.b0, B.b1, B.c0, B.nn⟩
theorem Bag.same {H H' : Hp} {p q : Addr} (B : Bag H p q) (e : Same H H') : Bag H' p q := by
  obtain ⟨a, b, c, ns, B⟩ := B
  exact ⟨a, b, c, ns, e _ _ B.top, e _ _ B.low, B.a0, B.b0, B.b1, B.c0, B.nn⟩
theorem Bag.there {H : Hp} {p q : Addr} (B : Bag H p q) : H p ≠ none ∧ H q ≠ none := by
  obtain ⟨a, b, c, ns, B⟩ := B
  refine ⟨fun z => ?_, fun z => ?_⟩
  · rw [B.top] at z
    cases z
  · rw [B.low] at z
    cases z
/-- _law_bag(script): a new bag -/
def spBag (K : PySem.W.Frag) : Sp := fun vs H Q _ => ∃ (a : Addr) (ns : List Int), vs = [.ref a] ∧ SqL K H a (ns.map V.int) ∧ ns.length ≤ 63 ∧
  ∀ (H' : Hp) (p q : Addr), Same H H' → H p = none → H q = none → Bag H' p q → Q (.ref p) H'
/-- _law_take(bag, m): a number from 0 to m - 1; the bag's own list alone is changed -/
def spTake : Sp := fun vs H Q _ => ∃ (p q : Addr) (m : Int), vs = [.ref p, .int m] ∧ Bag H p q ∧ 0 < m ∧ m < 1073741824 ∧
  ∀ (v : Int) (H' : Hp), 0 ≤ v → v < m → Bag H' p q → But p H H' → Q (.int v) H'
/-! the mathematics of a draw -/
theorem fst_ok {b : Int} (h0 : 0 ≤ b) (h1 : b < 2147483647) : 0 ≤ (b + 1) * 39373 % 1000000007 ∧ (b + 1) * 39373 % 1000000007 < 1000000007 := by
  constructor <;> omega
theorem snd_ok (z : Int) : 0 ≤ z % 998244353 ∧ z % 998244353 < 998244353 := by
  constructor <;> omega
theorem atI_some {α : Type} {xs : List α} {v : Int} (h0 : 0 ≤ v) (h1 : v < xs.length) : ∃ y, y ∈ xs ∧ atI xs v = some y := by
  have lt : v.toNat < xs.length := by omega
  refine ⟨xs[v.toNat], List.getElem_mem _, ?_⟩
  have e := atI_nat (xs := xs) (j := v.toNat) (v := xs[v.toNat]) (List.getElem?_eq_getElem lt)
  rw [Int.toNat_of_nonneg h0] at e
  exact e
theorem pos31 : (0 : Int) < 2147483647 := by decide
theorem posA : (0 : Int) < 1000000007 := by decide
theorem posB : (0 : Int) < 998244353 := by decide
end SM
/-! Part X: the program's errors: made with a field, raised, caught, asked. -/
namespace SM
open PySem PySem.Spec PyProof.Rows L2
/-- a class of errors, by what the top has written: C, its bases' chain bm -/
structure ErrC (K : PySem.W.Frag) (C : Addr) (bm : List Value) : Prop where
  look : ∃ nm q N bs sn sub ab col dd k0 k1 k2 k3 k5, K.lookup C = some (excClassObj nm q C N bs bm true sn sub ab col dd k0 k1 k2 k3 k5 "ValueError.__new__")
  ve : PySem.HandSPX.refsVE bm = true
  sa : PySem.W.findIn K (.ref C) "__setattr__" = some (some (.builtin "object.__setattr__"))
  ga : PySem.W.findIn K (.ref C) "__getattribute__" = some (some (.builtin "BaseException.__getattribute__"))
  gg : PySem.W.findIn K (.ref C) "__getattr__" = some none
  ac : PySem.W.findIn K (.ref C) "__class__" = some (some (.builtin "object.__class__"))
  kC : PySem.W.keepIn K (.ref C) = true
  hd : PySem.W.hasDictIn K C = true
/-- what holds of object.__class__ -/
structure ClsGet (K : PySem.W.Frag) : Prop where
  sp : PySem.W.specialIn K (.builtin "object.__class__") "__get__" = some (some (.builtin "getset_descriptor.__get__"))
  tk : PySem.W.takesIn K (.builtin "object.__class__") = some true
section
variable {K : PySem.W.Frag} {C D : Addr} {bm bmD : List Value}
theorem ErrC.cls (T : ErrC K C bm) : ∃ cd, PySem.W.clsIn K C = some cd ∧ cd.mro = .ref C :: bm := by
  obtain ⟨nm, q, N, bs, sn, sub, ab, col, dd, k0, k1, k2, k3, k5, e⟩ := T.look
  refine ⟨{ name := nm, bases := bs, mro := .ref C :: bm, ns := N, qualname := q, hasDict := true, slotNames := sn, subclasses := sub, abstract := ab, collection := col, hasDel := false }, ?_, rfl⟩
  unfold PySem.W.clsIn
  rw [e] <;> rfl
theorem ErrC.some (T : ErrC K C bm) : (PySem.W.clsIn K C).isSome = true := by
  obtain ⟨cd, e, _⟩ := T.cls
  rw [e]
  rfl
theorem ErrC.mro (T : ErrC K C bm) (b : Value) : PySem.W.mroIn K C b = Option.some ((Value.ref C :: bm).contains b) := by
  obtain ⟨cd, e, em⟩ := T.cls
  unfold PySem.W.mroIn
  rw [e, Option.bind_some, em]
  rfl
theorem ErrC.ty (T : ErrC K C bm) : PySem.W.typeIn K (.ref C) = Option.some (.type "type") := by
  obtain ⟨nm, q, N, bs, sn, sub, ab, col, dd, k0, k1, k2, k3, k5, e⟩ := T.look
  show (K.lookup C).map (·.cls) = _
  rw [e]
  rfl
theorem ErrC.base (T : ErrC K C bm) (x : String) (h : PySem.HandSPX.veTail.contains (.type x) = true) : PySem.W.subIn K (.ref C) (.type x) = Option.some true := by
  show PySem.W.mroIn K C (.type x) = _
  rw [T.mro]
  have e := PySem.HandSPX.refsVE_contains x bm T.ve
  rw [h] at e
  show Option.some ((Value.type x == Value.ref C) || bm.contains (.type x)) = _
  rw [e, Bool.or_true]
theorem ErrC.bexc (T : ErrC K C bm) : PySem.W.subIn K (.ref C) (.type "BaseException") = Option.some true := T.base "BaseException" (by decide +kernel)
theorem ErrC.oex (T : ErrC K C bm) : OexC K C := by
  obtain ⟨nm, q, N, bs, sn, sub, ab, col, dd, k0, k1, k2, k3, k5, e⟩ := T.look
  exact ⟨⟨nm, q, N, bs, bm, sn, sub, ab, col, dd, k0, k1, k2, k3, k5, e, T.ve⟩, T.sa, T.bexc, T.ty, T.kC⟩
/-- is the error of C one of D's? -/
theorem ErrC.kit (T : ErrC K C bm) (U : ErrC K D bmD) : PySem.W.kitOne K (.ref C) (.ref D) = Option.some ((Value.ref C :: bm).contains (.ref D)) := by
  unfold PySem.W.kitOne
  by_cases h : (Value.ref C == Value.ref D) = true
  · rw [if_pos h]
    have e : C = D := Value.ref.inj (beq_iff_eq.mp h)
    subst e
    simp
  · rw [if_neg h]
    show (if ((PySem.W.clsIn K D).isSome && PySem.W.typeIn K (.ref D) == Option.some (.type "type")) = true then PySem.W.mroIn K C (.ref D) else none) = _
    rw [U.some, U.ty, T.mro, if_pos (by decide)]
theorem ErrC.kitV (T : ErrC K C bm) (x : String) (h : PySem.HandSPX.veTail.contains (.type x) = true) (m : PySem.W.kitMeta x = true) : PySem.W.kitOne K (.ref C) (.type x) = Option.some true := by
  unfold PySem.W.kitOne
  rw [if_neg (show ¬ ((Value.ref C == Value.type x) = true) from fun z => Bool.noConfusion z)]
  show (if PySem.W.kitMeta x = true then PySem.W.subIn K (.ref C) (.type x) else none) = _
  rw [if_pos m, T.base x h]
theorem ErrC.exm (T : ErrC K C bm) (U : ErrC K D bmD) : PySem.W.exmOne K (.ref C) (.ref D) = Option.some ((Value.ref C :: bm).contains (.ref D)) := by
  unfold PySem.W.exmOne
  rw [U.bexc, if_pos (by decide)]
  show (if ((PySem.W.clsIn K D).isSome && PySem.W.typeIn K (.ref D) == Option.some (.type "type")) = true then PySem.W.mroIn K C (.ref D) else none) = _
  rw [U.some, U.ty, T.mro, if_pos (by decide)]
end
theorem nodup_ix' {α : Type} {l : List α} (hN : l.Nodup) {i j : Nat} {x : α} (a : l[i]? = Option.some x) (b : l[j]? = Option.some x) : i = j := by
  obtain ⟨h1, e1⟩ := List.getElem?_eq_some_iff.mp a
  obtain ⟨h2, e2⟩ := List.getElem?_eq_some_iff.mp b
  exact (List.getElem_inj hN).mp (e1.trans e2.symm)
/-! ### an error with one field, made and raised -/
/-- __init__(self, f): self.f = f, of an error that is being made -/
def spExc (C : Addr) (f : Str) : Sp := fun vs H Q _ => ∃ (a : Addr) (y : V), vs = [.ref a, y] ∧ H a = Option.some (exo a C Option.none) ∧
  ∀ dx, H dx = Option.none → dx ≠ a → Q .non (upd (upd H dx (exd dx [(f, y)])) a (exo a C (Option.some dx)))
/-- the class's __init__ as the top has written it -/
def InitAt (K : PySem.W.Frag) (C : Addr) (q : Str) (st : Stmt) : Prop := ∃ (fI : Addr) (fd : FuncData), L2.Fun K "__init__" q st fI fd ∧ PySem.W.findIn K (.ref C) "__init__" = Option.some (Option.some (.ref fI)) ∧ PySem.W.typeIn K (.ref fI) = Option.some (.type "function")
def InitOk (P : Program) (w : World) (K : PySem.W.Frag) (mg : Str → Option Value) (base : Heap) (C : Addr) (f : Str) : Prop :=
  ∃ (fI : Addr) (fd : FuncData), PySem.W.findIn K (.ref C) "__init__" = Option.some (Option.some (.ref fI)) ∧ PySem.W.typeIn K (.ref fI) = Option.some (.type "function") ∧ Binds K fd [("self" : Str), f] [] ∧ FnOk P w K mg base CX0 1 fI fd [("self" : Str), f] (spExc C f)
theorem init_ok {P : Program} {w : World} {K : PySem.W.Frag} {mg : Str → Option Value} {base : Heap} {C fI : Addr} {bm : List Value} {f q : Str} {st : Stmt} {fd : FuncData} (F : L2.Fun K "__init__" q st fI fd) (T : ErrC K C bm) (no : PySem.W.findIn K (.ref C) f = Option.some Option.none)
    (S : FnScope [("self" : Str), f] [("self" : Str), f] (defScope st))
    (hb : ∀ (cdv : Value) (A : Around) (outer : List Env) (s : Shared) (H : Hp) (E : XK), PSs (cxOf CX0 P w K mg base [("self" : Str), f] q (defScope st) fI cdv A outer s H E).nox (defBody st) (tOst K f (tVar 0) (tVar 1))) : FnOk P w K mg base CX0 1 fI fd [("self" : Str), f] (spExc C f) := by
  refine F.ok S (fun vs H Q E h => ?_) (fun cdv A outer s H vs Q E hr h => ⟨tOst K f (tVar 0) (tVar 1), hb cdv A outer s H E, ?_⟩)
  · obtain ⟨a, y, rfl, _⟩ := h
    rfl
  · obtain ⟨a, y, rfl, ha, k⟩ := h
    exact ⟨y, rfl, .ref a, rfl, a, C, rfl, T.oex, no, .inl ⟨ha, k⟩⟩
theorem PS.imp {X : Cx} {st : Stmt} {t t' : TS} (h : PS X st t) (i : ∀ D σ H, t' D σ H → t D σ H) : PS X st t' := ⟨fun pins s σ H D I q => h.run pins s σ H D I (i D σ H q)⟩
/-- what raise C(e) asks: see raise1 -/
def tRaise1 (C : Addr) (f : Str) (W : WX) (te : TE) : TS := fun _ σ H => tMkO C (spExc C f) [] (tCons te tNil) σ H fun cls d H' => W cls d σ H'
theorem made_eq {H : Hp} {a dx : Addr} {o1 o2 o3 : HO} {u : HO} (ha : H a = Option.none) (n : dx ≠ a) : upd (L2.del (upd (upd (upd H a o1) dx o2) a o3) a) dx u = upd H dx u := by
  funext b
  by_cases h1 : b = dx
  · subst h1
    rw [upd_same, upd_same]
  · rw [upd_ne h1, upd_ne h1]
    by_cases h2 : b = a
    · subst h2
      rw [L2.del_same, ha]
    · rw [L2.del_ne h2, upd_ne h2, upd_ne h1, upd_ne h2]
theorem ps_raise1 {X : Cx} {C : Addr} {bm : List Value} {f x : Str} {W : WX} {e : Expr} {te : TE} {p pos pos2 : Pos} (hc : X.calm = true) (T : ErrC X.K C bm) (IO : InitOk X.prog X.w X.K X.mg X.base C f) (gC : X.mg x = Option.some (.ref C)) (hr : Room 2 X.A) (tk : Takes X W) (he : PE X e te)
    (hg : Gl X x := by rfl) (hdb : (x == ("__debug__" : Str)) = false := by decide) (hs : starEach (e :: []) X.env = (false, eval e X.env) :: starEach [] X.env := by rfl) (hpl : (backTo pos (starEach [] X.env)).any (·.1) = false := by rfl) :
    PS X (.Raise (Option.some (.Call (.Name x p) [e] [] pos)) Option.none pos2) (tRaise1 C f W te) := by
  obtain ⟨fI, fd, iC, tI, hb, F1⟩ := IO
  exact ps_raise hc tk (pmk_oex (k := 1) T.oex iC tI F1 hr hb .nil pass0 hg gC (pa_cons he pa_nil hs) hdb hs hpl)
/-- .. for each new dict of the error, with the field's value -/
theorem raise1 {C : Addr} {f : Str} {y : V} {H1 : Hp} {Q : XK} (k : ∀ d, H1 d = Option.none → Q (.ref C) (Option.some d) (upd H1 d (.xd [(f, y)]))) :
    [y].length ≤ 1000 ∧ ∀ a, H1 a = Option.none → spExc C f (.ref a :: ([y] ++ [])) (upd H1 a (exo a C Option.none))
      (fun v H2 => v = .non ∧ ∃ (d : Addr) (fs : List (Str × V)), H2 a = Option.some (exo a C (Option.some d)) ∧ H2 d = Option.some (exd d fs) ∧ H1 d = Option.none ∧ Q (.ref C) (Option.some d) (upd (L2.del H2 a) d (.xd fs))) (fun _ _ _ => False) := by
  refine ⟨by show 1 ≤ 1000; decide, fun a ha => ⟨a, y, rfl, upd_same, fun dx hd nd => ⟨rfl, dx, [(f, y)], upd_same, ?_, ?_, ?_⟩⟩⟩
  · rw [upd_ne nd, upd_same]
  · rw [upd_ne nd] at hd
    exact hd
  · rw [upd_ne nd] at hd
    rw [made_eq ha nd]
    exact k dx hd
/-- raise C(), C without a field -/
theorem pmk_own0 {X : Cx} {C : Addr} {bmB : List Value} {B newId initId : String} {x : Str} {p pos : Pos} (F : ExcBaseFacts B newId initId bmB) (q : PySem.W.excIn X.K C bmB newId = true) (gC : X.mg x = Option.some (.ref C)) (kC : PySem.W.keepIn X.K (.ref C) = true) (r : Raises X (.ref C)) (hg : Gl X x := by rfl)
    (hdb : (x == ("__debug__" : Str)) = false := by decide) : PMk X (.Call (.Name x p) [] [] pos) (fun _ H Q => Q (.ref C) Option.none H) := by
  intro pins s σ H Q I h
  refine wpAny_Call_Name_kw (ld_glob I hg gC ?_ hdb)
  obtain ⟨bm, N, nm, qn, bs, hdct, sn, sub, ab, col, dd, k0, k1, k2, k3, k5, mN, hC, hN, hni, T⟩ := exc_obj I.kIn q
  refine PySem.W.callWith_K0 I.kIn kC (wpAny_call_exc_subT F T hC hN hni (fun h' e hm => ?_) (by show 0 ≤ sizeLine; exact Nat.zero_le _))
  exact mk_of I hm r h (I.hok.gone hm.new)
/-! ### an error that is handled: asked in a def that is called from the clause -/
/-- the context bears the error's object oe, at a; its class cls, its own dict d -/
structure Bears (X : Cx) (a : Addr) (oe : Obj) (cls : Value) (d : Option Addr) : Prop where
  mem : (a, oe) ∈ X.pn
  z : Zc cls d oe
  fl : ∃ vs, oe.data = .fields vs
/-- the error's own dict, where it has one, stands -/
def DictOk (d : Option Addr) (H : Hp) : Prop := ∀ dd, d = Option.some dd → ∃ fs, H dd = Option.some (.xd fs)
theorem dictOk_none (H : Hp) : DictOk Option.none H := fun _ z => nomatch z
theorem dictOk_new {H : Hp} {d : Addr} {fs : List (Str × V)} : DictOk (Option.some d) (upd H d (.xd fs)) := fun dd z => by
  cases z
  exact ⟨fs, upd_same⟩
theorem DictOk.same {d : Option Addr} {H H' : Hp} (h : DictOk d H) (e : Same H H') : DictOk d H' := fun dd z => let ⟨fs, q⟩ := h dd z; ⟨fs, e _ _ q⟩
section
variable {X : Cx} {pins : List (Addr × Obj)} {σ : L2.St} {H : Hp} {s : Shared} {a C : Addr} {oe : Obj} {d : Option Addr} {bm : List Value}
theorem inst_of (I : Inv X pins σ H s) (b : Bears X a oe (.ref C) d) (hd : DictOk d H) : ∃ od, PySem.W.InstAt s.heap a oe C od ∧ ∀ dd, d = Option.some dd → ∃ o, od = Option.some o ∧ s.heap.get? dd = Option.some o := by
  have ha : s.heap.get? a = Option.some oe := (I.pin (a, oe) (List.mem_append_left _ b.mem)).1
  obtain ⟨vs, hv⟩ := b.fl
  have no : PySem.W.notCls oe = true := by
    unfold PySem.W.notCls
    rw [hv] <;> rfl
  cases hdd : d with
  | none =>
    refine ⟨Option.none, ⟨ha, b.z.1, no, ?_⟩, fun dd z => nomatch z⟩
    rw [b.z.2, hdd]
    trivial
  | some dd =>
    obtain ⟨fs, hx⟩ := hd dd hdd
    obtain ⟨mA, hns, _⟩ := (show ObjOk X.prog X.w H s.heap dd (.xd fs) from I.hok dd _ hx)
    obtain ⟨od, ho, _⟩ := lookIn_ns hns
    refine ⟨Option.some od, ⟨ha, b.z.1, no, ?_⟩, fun d2 z => ?_⟩
    · rw [b.z.2, hdd]
      exact ho
    · cases z
      exact ⟨od, rfl, ho⟩
/-- isinstance(e, c), e the error -/
def rIsX (K : PySem.W.Frag) (C a : Addr) (d : Option Addr) : List V → Hp → VK → Prop := fun xs H Q => ∃ (c : V) (cv : Value) (b : Bool), xs = [.ref a, c] ∧ (∀ u, RelV c u → u = cv) ∧ PySem.W.kitOne K (.ref C) cv = Option.some b ∧ DictOk d H ∧ Q (.bl b) H
theorem call_isX (g : ClsGet X.K) (T : ErrC X.K C bm) (b : Bears X a oe (.ref C) d) : CallR X (.builtin "isinstance") (rIsX X.K C a d) := by
  intro pins s σ H xs us Q I r h
  obtain ⟨c, cv, k, rfl, hcv, e, hd, q⟩ := h
  obtain ⟨u1, u2, rfl, r1, r2⟩ := vals2 r
  obtain rfl : u1 = Value.ref a := r1
  have e2 := hcv _ r2
  subst e2
  obtain ⟨od, J, _⟩ := inst_of I b hd
  have mo : PySem.W.mroIn X.K C (.type "object") = Option.some true := T.base "object" (by decide +kernel)
  refine PySem.W.kia_one (PySem.W.kitx_exc T.some T.ga T.gg T.bexc T.ac g.sp g.tk mo) I.kIn J e (fun z => nomatch z) fun tk => ?_
  exact ⟨.bl k, H, I.tok tk, rfl, q⟩
/-- e.f, e the error -/
def tXfB (a : Addr) (d : Option Addr) (f : Str) (te : TE) : TE := fun σ H Q => te σ H fun x H1 => x = .ref a ∧ ∃ (dd : Addr) (fs : List (Str × V)) (v : V), d = Option.some dd ∧ H1 dd = Option.some (.xd fs) ∧ fs.lookup f = Option.some v ∧ Q v H1
theorem pe_xfB {e : Expr} {te : TE} {pos : Pos} {f : Str} (T : ErrC X.K C bm) (b : Bears X a oe (.ref C) d) (no : PySem.W.findIn X.K (.ref C) f = Option.some Option.none) (he : PE X e te) (hb : attributeBase e f X.env (eval e X.env) = eval e X.env := by rfl) :
    PE X (.Attribute e f pos) (tXfB a d f te) := by
  refine ⟨fun pins s σ H Q I h => attr_of hb (thn (he.run pins s σ H _ I h) ?_)⟩
  rintro u s1 ⟨x, H1, I1, rx, rfl, dd, fs, v, ed, ex, l, q⟩
  obtain rfl : u = Value.ref a := rx
  obtain ⟨od, J, hod⟩ := inst_of I1 b (fun d2 z => by rw [ed] at z; cases z; exact ⟨fs, ex⟩)
  obtain ⟨o, rfl, ho⟩ := hod dd ed
  obtain ⟨mA, hns, hr⟩ := (show ObjOk X.prog X.w H1 s1.heap dd (.xd fs) from I1.hok dd _ ex)
  obtain ⟨o2, ho2, hl⟩ := lookIn_ns hns
  rw [ho] at ho2
  cases ho2
  obtain ⟨w, hw, rw_⟩ := RelO.some_of (v := v) (o := mA f) (by rw [← l]; exact hr f)
  exact PySem.HandSPX.exc_get I1.kIn J T.ga T.gg T.bexc (PySem.W.findObj_own T.hd no rfl (by rw [hl, hw])) (handed_of rw_) ⟨v, H1, I1.tok _, rw_, q⟩
end
/-- a def that is called from a clause, the error handed in: its promise speaks of the error too -/
structure FnX (P : Program) (w : World) (K : PySem.W.Frag) (mg : Str → Option Value) (base : Heap) (k : Nat) (f : Addr) (fd : FuncData) (ps : List Str) (sp : Addr → Value → Option Addr → Sp) : Prop where
  len : ∀ a c d vs H Q E, sp a c d vs H Q E → vs.length = ps.length
  go : ∀ (A : Around) (outer : List Env) (s : Shared) (H : Hp) (args : Args) (us : List Value) (vs : List V) (Q : VK) (E : XK) (a : Addr) (oe : Obj) (c : Value) (d : Option Addr), L2H.RoomH k A → A.handled = Option.some (.ref a) → L2H.PinOk outer H s (a, oe) →
    Zc c d oe → (∃ vs, oe.data = .fields vs) → Env0 P w K mg base A outer s H → BindsTo s fd args (ps.zip us) → Vals vs us → sp a c d vs H Q E → codeAny (model P w) A (.call (.ref f) args) (CR CX0 outer P w H s Q E) s
section
variable {P : Program} {w : World} {K : PySem.W.Frag} {mg : Str → Option Value} {base : Heap}
theorem fnX_body {x qual : Str} {st : Stmt} {f : Addr} {fd : FuncData} {N ps : List Str} {k : Nat} {sp : Addr → Value → Option Addr → Sp} (F : L2.Fun K x qual st f fd) (S : FnScope N ps (defScope st)) (len : ∀ a c d vs H Q E, sp a c d vs H Q E → vs.length = ps.length)
    (bd : ∀ (cdv : Value) (A : Around) (outer : List Env) (s : Shared) (H : Hp) (vs : List V) (Q : VK) (E : XK) (a : Addr) (oe : Obj) (c : Value) (d : Option Addr), Zc c d oe → (∃ vs, oe.data = .fields vs) → L2H.RoomH k (A.deeper (envOfC qual (defScope st) s.heap.objs.size f cdv)) → sp a c d vs H Q E →
      ∃ t, PSs (L2H.cxH CX0 P w K mg base N qual (defScope st) f cdv A outer s H E (a, oe)).nox (defBody st) t ∧ t { nx := fun _ H' => Q .non H', rt := Q } (L2.start N vs) H) : FnX P w K mg base (k + 1) f fd ps sp where
  len := len
  go A outer s H args us vs Q E a oe c d hr hh hpin hz hf e0 hb r hsp := by
    obtain ⟨oc, od, kV, doc, pm, an, cdv, ct, osl, rfl, lk, hcd⟩ := F.ex
    have hvl := len a c d vs H Q E hsp
    have kIn : K.In s.heap := e0.mod.kin.keeps fun b o z => (e0.bs b o z).1
    have noLim : s.heap.NoLimit := e0.mod.nolimit.keeps fun b o z => (e0.bs b o z).1
    have kinds : ∀ y ∈ ps.zip us, (defScope st).names.lookup y.1 = Option.some .local ∨ ((defScope st).names.lookup y.1 = Option.some .cell ∧ ((cellsFrom (s.heap.objs.size + 1) (defScope st).names []).lookup y.1).isSome = true) := by
      rintro ⟨n, v⟩ hy
      exact (S.par n (List.of_mem_zip hy).1).imp id fun q => ⟨q, PySem.W.cellsFrom_some _ _ _ (.inl q)⟩
    refine codeAny_call_function hr.depth (kIn f _ lk) rfl S.co S.gen rfl (PySem.W.codeRec_of kIn hcd) (hb _ _ _ _ ?_)
    refine wpAny_newFunctionEnv_cells S.kind kinds fun env he s1 x1 => ?_
    subst he
    obtain ⟨t, ht, hq⟩ := bd cdv A outer s H vs Q E a oe c d hz hf (hr.deeper _) hsp
    have J : Inv (L2H.cxH CX0 P w K mg base N qual (defScope st) f cdv A outer s H E (a, oe)) [] (L2.start N vs) H s1 := L2H.inv_startH S hpin e0 hvl r x1
    refine ⟨noLim.keeps x1.toInCall.keep, codeAny_func (wpAny_mono (ht.nox.run [] s1 _ H _ J hq) ?_ fun _ _ hs => hs)⟩
    intro fl s2 hs
    cases fl with
    | ret u =>
      obtain ⟨v, σ2, H2, J2, rv, q⟩ := hs
      exact ⟨v, H2, J2.os, J2.bare, J2.base, J2.hok, rv, q⟩
    | next =>
      obtain ⟨σ2, H2, J2, q⟩ := hs
      exact ⟨V.non, H2, J2.os, J2.bare, J2.base, J2.hok, rfl, q⟩
    | brk =>
      obtain ⟨_, _, _, z⟩ := hs
      exact z.elim
    | cont =>
      obtain ⟨_, _, _, z⟩ := hs
      exact z.elim
def OkX (P : Program) (w : World) (K : PySem.W.Frag) (mg : Str → Option Value) (base : Heap) (k : Nat) (x : Str) (ps : List Str) (sp : Addr → Value → Option Addr → Sp) : Prop :=
  ∃ f fd, mg x = Option.some (.ref f) ∧ PySem.W.keepIn K (.ref f) = true ∧ Binds K fd ps [] ∧ FnX P w K mg base k f fd ps sp
theorem DefAt.okH {x : Str} {ps : List Str} {k : Nat} {st : Stmt} {N : List Str} {sp : Addr → Value → Option Addr → Sp} (D : DefAt K mg x st) (S : FnScope N ps (defScope st)) (b : BindsBy x st ps) (len : ∀ a c d vs H Q E, sp a c d vs H Q E → vs.length = ps.length)
    (bd : ∀ (f : Addr) (cdv : Value) (A : Around) (outer : List Env) (s : Shared) (H : Hp) (vs : List V) (Q : VK) (E : XK) (a : Addr) (oe : Obj) (c : Value) (d : Option Addr), Zc c d oe → (∃ vs, oe.data = .fields vs) → L2H.RoomH k (A.deeper (envOfC x (defScope st) s.heap.objs.size f cdv)) → sp a c d vs H Q E →
      ∃ t, PSs (L2H.cxH CX0 P w K mg base N x (defScope st) f cdv A outer s H E (a, oe)).nox (defBody st) t ∧ t { nx := fun _ H' => Q .non H', rt := Q } (L2.start N vs) H) : OkX P w K mg base (k + 1) x ps sp := by
  obtain ⟨f, fd, F, g⟩ := D
  exact ⟨f, fd, g, F.kp, F.binds b, fnX_body F S len fun cdv A outer s H vs Q E a oe c d hz hf hr h => bd f cdv A outer s H vs Q E a oe c d hz hf hr h⟩
end
section
variable {Y : Cx} {k : Nat} {ps : List Str} {sp : Addr → Value → Option Addr → Sp} {x : Str} {p pos : Pos} {e : Expr} {es : List Expr} {t : TA} {a : Addr} {oe : Obj} {c : Value} {d : Option Addr} {pn : List (Addr × Obj)}
/-- f(e, ..) in a clause -/
theorem pe_x (F : OkX Y.prog Y.w Y.K Y.mg Y.base k x ps sp) (hr : Room k Y.A) (hz : Zc c d oe) (hf : ∃ vs, oe.data = .fields vs) (ha : PA (Y.suite a ((a, oe) :: pn)) (e :: es) t) (hg : Gl Y x := by rfl) (hdb : (x == ("__debug__" : Str)) = false := by decide)
    (he : starEach (e :: es) Y.env = (false, eval e Y.env) :: starEach es Y.env := by rfl) (hpl : (backTo pos (starEach es Y.env)).any (·.1) = false := by rfl) : PE (Y.suite a ((a, oe) :: pn)) (.Call (.Name x p) (e :: es) [] pos) (tCall (sp a c d) [] E0 t) := by
  obtain ⟨f, fd, g, kp, hb, F⟩ := F
  refine ⟨fun pins s σ H Q I h => wpAny_Call_Name_kw (ld_glob I hg g ?_ hdb)⟩
  refine PySem.W.callWith_K (h₀ := Y.base) I.ok.mod.kin kp (thn (ha.run pos pins s σ H _ I h) ?_) he hpl
  rintro us s1 ⟨vs, H1, I1, r, q⟩
  rw [List.append_nil] at q
  refine ⟨I1.kIn, ?_⟩
  have el : us.length = ps.length := r.length.symm.trans (F.len _ _ _ vs H1 Q _ q)
  have bb := hb s1 us I1.kIn (by rw [List.append_nil]; exact el)
  rw [List.append_nil] at bb
  have pin := I1.pin (a, oe) (List.mem_append_left _ List.mem_cons_self)
  have pk : L2H.PinOk (Y.suite a ((a, oe) :: pn)).stack H1 s1 (a, oe) := ⟨pin.1, pin.2.1, fun hm => (List.mem_cons.mp (I1.stkSub a hm)).elim pin.2.2.1 pin.2.2.2.1, pin.2.2.2.2⟩
  have rh : L2H.RoomH k (Y.A.mark (Option.some (.ref a))) := ⟨hr.dp, hr.un⟩
  have hh : (Y.A.mark (Option.some (.ref a))).handled = Option.some (.ref a) := rfl
  refine wpAny_call (codeAny_mono (F.go _ _ s1 H1 ⟨us, []⟩ us vs Q E0 a oe c d rh hh pk hz hf I1.env0 bb r q) ?_)
  intro res s2 hq
  match res, hq with
  | .error er, hq => exact False.elim hq
  | .ok (.ret u), hq => exact I1.after hq
  | .ok .next, hq => exact False.elim hq
  | .ok .brk, hq => exact False.elim hq
  | .ok .cont, hq => exact False.elim hq
end
end SM
/-! Part D: data: equal to itself, shown. -/
namespace SM
open PySem PySem.Spec PyProof.Rows L2
mutual
theorem eqv_self : ∀ d : PyData, d.canLay0 = true → PyData.eqv d d = true
  | .none, _ => by simp only [PyData.eqv]
  | .bool b, _ => by simp [PyData.eqv]
  | .int i, _ => by simp [PyData.eqv]
  | .str x, _ => by simp [PyData.eqv]
  | .list xs, h => by
    simp only [PyData.eqv]
    exact eqvAll_self xs (by simpa only [PyData.canLay0] using h)
  | .tuple xs, h => by
    simp only [PyData.eqv]
    exact eqvAll_self xs (by simpa only [PyData.canLay0] using h)
  | .dict _, h => by simp only [PyData.canLay0] at h; exact Bool.noConfusion h
theorem eqvAll_self : ∀ ds : List PyData, PyData.canLayAll0 ds = true → PyData.eqvAll ds ds = true
  | [], _ => by simp only [PyData.eqvAll]
  | d :: ds, h => by
    have h' : d.canLay0 = true ∧ PyData.canLayAll0 ds = true := by simpa only [PyData.canLayAll0, Bool.and_eq_true] using h
    simp only [PyData.eqvAll, eqv_self d h'.1, eqvAll_self ds h'.2, Bool.and_self]
end
/-- data that may be compared and shown -/
structure Fine (d : PyData) : Prop where
  lay : d.canLay0 = true
  dep : d.depth ≤ 50
  ish : d.intsShort 64 = true
  show_ : d.showable = true
  wt : d.weight ≤ 100000
theorem Fine.shaped {d : PyData} (h : Fine d) : SeqAt.shaped d = true := by
  show (d.canLay0 && decide (d.depth ≤ 64)) = true
  rw [h.lay, Bool.true_and]
  exact decide_eq_true (Nat.le_trans h.dep (by decide))
theorem Fine.len {d : PyData} (h : Fine d) : d.shown.length ≤ sizeLine := by
  have e := PyData.shown_le 64 (by decide) d (PyData.leavesShort_of_canLay0 64 d h.lay h.ish)
  have w := h.wt
  have m : (64 + 2) * d.weight ≤ 66 * 100000 := Nat.mul_le_mul (by decide) w
  rw [sizeLine_eq]
  omega
section
variable {X : Cx}
/-- repr(x) of data, where it is quiet -/
def rReprD (K : PySem.W.Frag) : List V → Hp → VK → Prop := fun xs H Q => ∃ (x : V) (d : PyData), xs = [x] ∧ Dp K H x d ∧ Fine d ∧ Q (.str d.shown) H
theorem call_reprD {k : Nat} (qa : Quiet X.A) (hr : Room k X.A) : CallR X (.builtin "repr") (rReprD X.K) := by
  intro pins s σ H xs us Q I r h
  obtain ⟨x, d, rfl, hd, hf, q⟩ := h
  obtain ⟨u, rfl, ru⟩ := vals1 r
  have hu := hr.units
  obtain ⟨as, rd⟩ := Dp.reads I d x u hd ru
  have noD : d.hasDict = true → sysModules ∉ as := PyData.noDict_hsm (PyData.hasDict_of_canLay d hf.lay)
  have room : X.A.units + (d.depth + 1) < cLine := by have := hf.dep; omega
  cases hd with
  | non =>
    obtain rfl : u = Value.none := ru
    exact PySem.P.repr_of_none ⟨V.str _, H, I.tok _, ⟨_, rfl⟩, q⟩
  | bl b =>
    obtain rfl : u = Value.bool b := ru
    exact PySem.P.repr_of_bool ⟨V.str _, H, I.tok _, ⟨_, rfl⟩, q⟩
  | int i =>
    obtain ⟨t, rfl⟩ := ru
    have hs := hf.show_
    simp only [PyData.showable, decide_eq_true_eq] at hs
    exact PySem.P.repr_of_int hs ⟨V.str _, H, I.tok _, ⟨_, rfl⟩, q⟩
  | str z =>
    obtain ⟨t, rfl⟩ := ru
    exact PySem.P.repr_of_str ⟨V.str _, H, I.tok _, ⟨_, rfl⟩, q⟩ hf.len
  | lst s1 s2 =>
    rename_i a xs ds
    obtain rfl : u = Value.ref a := ru
    exact repr_of_reads' rd hf.show_ noD qa room (fun _ _ e => e) (fun h' u tk k => ⟨V.str _, H, I.kept (t' := tk) k, ⟨_, rfl⟩, q⟩) hf.len
  | tup s1 s2 =>
    rename_i a xs ds
    obtain rfl : u = Value.ref a := ru
    exact repr_of_reads' rd hf.show_ noD qa room (fun _ _ e => e) (fun h' u tk k => ⟨V.str _, H, I.kept (t' := tk) k, ⟨_, rfl⟩, q⟩) hf.len
end
theorem dps_bools {K : PySem.W.Frag} {H : Hp} : ∀ bs : List Bool, DpAll K H (bs.map V.bl) (bs.map PyData.bool)
  | [] => .nil
  | b :: bs => .cons (.bl b) (dps_bools bs)
theorem dps_ints {K : PySem.W.Frag} {H : Hp} : ∀ bs : List Int, DpAll K H (bs.map V.int) (bs.map PyData.int)
  | [] => .nil
  | b :: bs => .cons (.int b) (dps_ints bs)
theorem dps_strs {K : PySem.W.Frag} {H : Hp} : ∀ bs : List Str, DpAll K H (bs.map V.str) (bs.map PyData.str)
  | [] => .nil
  | b :: bs => .cons (.str b) (dps_strs bs)
theorem lay_bools : ∀ bs : List Bool, PyData.canLayAll0 (bs.map PyData.bool) = true
  | [] => by simp only [List.map_nil, PyData.canLayAll0]
  | b :: bs => by simp only [List.map_cons, PyData.canLayAll0, PyData.canLay0, lay_bools bs, Bool.and_self]
theorem dep_bools : ∀ bs : List Bool, PyData.depthAll (bs.map PyData.bool) = 0
  | [] => by simp only [List.map_nil, PyData.depthAll]
  | b :: bs => by simp only [List.map_cons, PyData.depthAll, PyData.depth, dep_bools bs, Nat.max_self]
theorem shaped_bools (bs : List Bool) : SeqAt.shaped (.list (bs.map PyData.bool)) = true := by
  show ((PyData.list (bs.map PyData.bool)).canLay0 && decide ((PyData.list (bs.map PyData.bool)).depth ≤ 64)) = true
  simp only [PyData.canLay0, PyData.depth, lay_bools, dep_bools]
  decide
end SM
/-! Part E: the end of a law whose def is quiet. -/
namespace SM
open PySem PySem.Spec PyProof.Rows L2
section
variable {P : Program} {w : World} {K : PySem.W.Frag} {mg mb : Str → Option Value} {k : Nat} {fa a : Addr} {x nm : Str} {sp : Sp} {s1 : Shared} {vs : List Value} {ns : List Int}
/-- what the caller wants of the law's call -/
abbrev LawEnd (s1 : Shared) (r : Result) (s2 : Shared) : Prop := r = .ok (.ret (.bool true)) ∧ OldK s1.heap s2.heap ∧ s2.os = s1.os ∧ AllBare s2.gens
/-- from a heap in which the script alone may stand -/
theorem law_from (H : Hp) (only : Only H) (one : ∀ b, H b ≠ none → b = a) (apart : H a ≠ none → K.lookup a = none) (hok : HOk P w H s1.heap) (sq : SqL K H a (ns.map V.int))
    (kIn : K.In s1.heap) (gl : s1.heap.Ns mainGlobals mg) (bl : s1.heap.Ns builtinsNs mb) (bb : ∀ x : Str, x ≠ "__name__" → mb x = bootBuiltins x) (lim : s1.heap.NoLimit) (gens : s1.gens = #[])
    (obj : s1.heap.get? a = some { cls := .type "list", data := .seq vs.toArray }) (hr : Room k callerA)
    (F : ∀ base : Heap, K.In base → base.Ns mainGlobals mg → OkQ P w K mg base CX0 k nm [x] sp) (hm : mg nm = some (.ref fa))
    (hsp : sp [.ref a] H (fun v _ => v = .bl true) fun _ _ _ => False) : codeAny (model P w) callerA (.call (.ref fa) ⟨[.ref a], []⟩) (LawEnd s1) s1 := by
  have stays : ∀ {b : Addr} {o : Obj}, s1.heap.get? b = some o → (H b ≠ none → False) → (hidT s1.heap H).get? b = some o := fun {b o} e n => by
    refine hidT_get e ?_
    cases q : H b with
    | none => rfl
    | some u => exact (n (by rw [q]; exact fun z => nomatch z)).elim
  have isA : ∀ {b : Addr} {o : Obj}, s1.heap.get? b = some o → H b ≠ none → b = a ∧ o.data = .seq vs.toArray := fun {b o} e n => by
    have eb := one b n
    subst eb
    rw [obj] at e
    exact ⟨rfl, by cases e; rfl⟩
  have nsOf : ∀ {b : Addr} {m : Str → Option Value}, s1.heap.Ns b m → (hidT s1.heap H).Ns b m := by
    rintro b m ⟨o, es, ep, e, d, r⟩
    refine ⟨o, es, ep, stays e fun n => ?_, d, r⟩
    have z := (isA e n).2
    rw [d] at z
    cases z
  have kBase : K.In (hidT s1.heap H) := fun b o e => stays (kIn b o e) fun n => by
    have eb := one b n
    subst eb
    rw [apart n] at e
    cases e
  obtain ⟨mc, l1, l2⟩ := lim
  have M : Mod K mg (hidT s1.heap H) := ⟨kBase, nsOf gl, ⟨mb, nsOf bl, bb⟩, ⟨mc, nsOf l1, l2⟩⟩
  have none_ : ∀ b ∈ frs ([] : List Env), H b = none := fun b hb => absurd (show b ∈ ([] : List Addr) from hb) List.not_mem_nil
  have e0 : Env0 P w K mg (hidT s1.heap H) callerA [] s1 H := ⟨rfl, M, fun b o e => of_hidT e, Nat.le_of_eq (hidT_size _ _), trivial, none_, hok, .of_eq gens⟩
  obtain ⟨f2, fd, g2, _, bind, G2⟩ := F _ kBase (nsOf gl)
  rw [hm] at g2
  cases g2
  refine codeAny_mono (G2.go callerA [] s1 H ⟨[.ref a], []⟩ [.ref a] [.ref a] _ _ rfl hr e0 (bind s1 [.ref a] kIn rfl) (.cons rfl .nil) hsp) ?_
  intro r s2 q
  match r, q with
  | .error _, q => exact False.elim q
  | .ok .next, q => exact False.elim q
  | .ok .brk, q => exact False.elim q
  | .ok .cont, q => exact False.elim q
  | .ok (.ret u), ⟨v, H2, os, bare, un, hok2, rv, qv⟩ =>
    have qv' : v = .bl true := qv
    subst qv'
    have eu : u = Value.bool true := rv
    subst eu
    refine ⟨rfl, OldK.of_keep fun b o e => ?_, os, bare⟩
    have nofr : b ∉ frs ([] : List Env) := fun z => absurd (show b ∈ ([] : List Addr) from z) List.not_mem_nil
    cases q : H b with
    | none => exact un.keep b o e q nofr List.not_mem_nil
    | some u2 =>
      obtain z | ⟨ob, xs, z⟩ := only b
      · rw [q] at z
        cases z
      · have z1 := (hok b _ z).1
        rw [e] at z1
        cases z1
        exact (hok2 b _ (un.frzs b _ _ z)).1
theorem law_callG (kIn : K.In s1.heap) (gl : s1.heap.Ns mainGlobals mg) (bl : s1.heap.Ns builtinsNs mb) (bb : ∀ x : Str, x ≠ "__name__" → mb x = bootBuiltins x) (lim : s1.heap.NoLimit) (gens : s1.gens = #[])
    (obj : s1.heap.get? a = some { cls := .type "list", data := .seq vs.toArray }) (hi : IntsAre vs ns) (hl : ns.length ≤ sizeLine) (hr : Room k callerA)
    (F : ∀ base : Heap, K.In base → base.Ns mainGlobals mg → OkQ P w K mg base CX0 k nm [x] sp) (hm : mg nm = some (.ref fa))
    (hsp : ∀ H : Hp, SqL K H a (ns.map V.int) → sp [.ref a] H (fun v _ => v = .bl true) fun _ _ _ => False) : codeAny (model P w) callerA (.call (.ref fa) ⟨[.ref a], []⟩) (LawEnd s1) s1 := by
  have rv : Vals (ns.map V.int) vs := vals_of_ints hi
  have ln : (ns.map V.int).length = vs.length := rv.length
  rw [List.length_map] at ln
  by_cases hk : K.lookup a = none
  · have at_ : (fun b => if b = a then some (HO.frz { cls := .type "list", data := .seq vs.toArray } (.lst (ns.map V.int))) else none : Hp) a = some (HO.frz { cls := .type "list", data := .seq vs.toArray } (.lst (ns.map V.int))) := if_pos rfl
    refine law_from (fun b => if b = a then some (HO.frz { cls := .type "list", data := .seq vs.toArray } (.lst (ns.map V.int))) else none) (fun b => ?_) (fun b n => ?_) (fun _ => hk) (fun b u e => ?_) (.inl (.inr ⟨_, at_⟩)) kIn gl bl bb lim gens obj hr F hm (hsp _ (.inl (.inr ⟨_, at_⟩)))
    · by_cases hb : b = a
      · exact .inr ⟨_, _, if_pos hb⟩
      · exact .inl (if_neg hb)
    · by_cases hb : b = a
      · exact hb
      · exact absurd (if_neg hb) n
    · by_cases hb : b = a
      · subst hb
        have e' := at_.symm.trans e
        cases e'
        exact ⟨obj, by rw [List.length_map]; exact hl, vs, _, rv, obj⟩
      · have e' := (if_neg hb).symm.trans e
        cases e'
  · obtain ⟨o, ho⟩ := Option.ne_none_iff_exists'.mp hk
    have eo := kIn a o ho
    rw [obj] at eo
    cases eo
    have sq : SqL K (fun _ => none) a (ns.map V.int) := .inr ⟨_, vs.toArray, _, ho, rfl, rfl, rfl, by rw [List.size_toArray, ← ln]; exact hl, by simpa using rv⟩
    exact law_from (fun _ => none) (fun _ => .inl rfl) (fun b n => absurd rfl n) (fun n => absurd rfl n) (fun b u z => by cases z) sq kIn gl bl bb lim gens obj hr F hm (hsp _ sq)
end
/-- what the head leaves to be shown, from a quiet def -/
theorem walkG {l : PySem.W.OpenLaw} {n k : Nat} {q : Program} {loose : List Str} {XP : (Str → Option Value) → Heap → Prop} {YP : World → Heap → Prop} {d : DefRec} {K : Params → PySem.W.Frag} {sp : PySem.W.Frag → Sp} {x : Str}
    (hn : l.most = some n) (hn2 : n ≤ sizeLine) (hdf : d.params.defaults = []) (hr : Room k callerA) (hY : ∀ (w : World) (h : Heap), YP w h → (K w.params).In h)
    (F : ∀ (w : World) (mg : Str → Option Value) (fa : Addr) (h : Heap), (K w.params).In h → h.Ns mainGlobals mg → mg d.name = some (.ref fa) →
      ∀ base : Heap, (K w.params).In base → base.Ns mainGlobals mg → OkQ l.prog w (K w.params) mg base CX0 k d.name [x] (sp (K w.params)))
    (hsp : ∀ (K : PySem.W.Frag) (H : Hp) (a : Addr) (ns : List Int), ns.length ≤ n → SqL K H a (ns.map V.int) → sp K [.ref a] H (fun v _ => v = .bl true) fun _ _ _ => False) :
    PySem.W.WalkO q loose XP YP l.row.toRowW d [] (fun f vs => PySem.call f vs) := by
  refine Att.attach_call hn hdf ?_
  intro w s0 s1 mg mb fa o pm cd doc a vs ns G Y ho hd hcd hmg hobj hints hlen hg
  exact law_callG (hY w _ Y) G.T.g G.T.b G.T.builtins G.T.nolimit hg hobj hints (Nat.le_trans hlen hn2) hr (F w mg fa _ (hY w _ Y) G.T.g hmg) hmg (fun H hS => hsp _ H a ns hlen hS)
end SM
namespace SM
open PySem PySem.Spec PyProof.Rows L2
open Evl (tCut pss_cut)
def topS (i : Nat) : Stmt := PySem.Challenge.pw_stillmain_k13_refusals_apart.main.body.getD i (.Pass ⟨0, 0, 0, 0⟩)
abbrev s__law_bag : Stmt := topS 16
abbrev s__law_take : Stmt := topS 17
abbrev s__law_raised : Stmt := topS 18
abbrev s__law_further : Stmt := topS 19
abbrev s__law_flags : Stmt := topS 20
abbrev s__law_caught : Stmt := topS 21
abbrev s_law : Stmt := topS 22
/-- the errors' bases' chain, M the common one -/
abbrev bmM (M : Addr) : List Value := [.ref M, .type "ValueError", .type "Exception", .type "BaseException", .type "object"]
structure Tx (K : PySem.W.Frag) (mg : Str → Option Value) (C : Nat → Addr) (M : Addr) : Prop where
  d_bag : DefAt K mg "_law_bag" s__law_bag
  d_take : DefAt K mg "_law_take" s__law_take
  d_raised : DefAt K mg "_law_raised" s__law_raised
  d_further : DefAt K mg "_law_further" s__law_further
  d_flags : DefAt K mg "_law_flags" s__law_flags
  d_caught : DefAt K mg "_law_caught" s__law_caught
  d_law : DefAt K mg "law" s_law
  b_len : mg "len" = none
  b_abs : mg "abs" = none
  b_range : mg "range" = none
  b_isinstance : mg "isinstance" = none
  b_ValueError : mg "ValueError" = none
  gM : mg "MainsError" = some (.ref M)
  eM : ErrC K M [.type "ValueError", .type "Exception", .type "BaseException", .type "object"]
  e : ∀ n, n < 13 → ErrC K (C n) (bmM M)
  x11 : PySem.W.excIn K (C 11) [.type "ValueError", .type "Exception", .type "BaseException", .type "object"] "ValueError.__new__" = true
  x12 : PySem.W.excIn K (C 12) [.type "ValueError", .type "Exception", .type "BaseException", .type "object"] "ValueError.__new__" = true
  gc : ClsGet K
  nd : (M :: (List.range 13).map C).Nodup
  g0 : mg "Wrong" = some (.ref (C 0))
  n0 : PySem.W.findIn K (.ref (C 0)) "at" = some none
  t0 : InitAt K (C 0) "Wrong.__init__" (inClass (topS 2) 0)
  g1 : mg "There" = some (.ref (C 1))
  n1 : PySem.W.findIn K (.ref (C 1)) "name" = some none
  t1 : InitAt K (C 1) "There.__init__" (inClass (topS 3) 0)
  g2 : mg "Lacks" = some (.ref (C 2))
  n2 : PySem.W.findIn K (.ref (C 2)) "name" = some none
  t2 : InitAt K (C 2) "Lacks.__init__" (inClass (topS 4) 0)
  g3 : mg "TooMany" = some (.ref (C 3))
  n3 : PySem.W.findIn K (.ref (C 3)) "most" = some none
  t3 : InitAt K (C 3) "TooMany.__init__" (inClass (topS 5) 0)
  g4 : mg "InUse" = some (.ref (C 4))
  n4 : PySem.W.findIn K (.ref (C 4)) "name" = some none
  t4 : InitAt K (C 4) "InUse.__init__" (inClass (topS 6) 0)
  g5 : mg "Held" = some (.ref (C 5))
  n5 : PySem.W.findIn K (.ref (C 5)) "hands" = some none
  t5 : InitAt K (C 5) "Held.__init__" (inClass (topS 7) 0)
  g6 : mg "Stuck" = some (.ref (C 6))
  n6 : PySem.W.findIn K (.ref (C 6)) "name" = some none
  t6 : InitAt K (C 6) "Stuck.__init__" (inClass (topS 8) 0)
  g7 : mg "NoPart" = some (.ref (C 7))
  n7 : PySem.W.findIn K (.ref (C 7)) "way" = some none
  t7 : InitAt K (C 7) "NoPart.__init__" (inClass (topS 9) 0)
  g8 : mg "NotNow" = some (.ref (C 8))
  n8 : PySem.W.findIn K (.ref (C 8)) "job" = some none
  t8 : InitAt K (C 8) "NotNow.__init__" (inClass (topS 10) 0)
  g9 : mg "NotDry" = some (.ref (C 9))
  n9 : PySem.W.findIn K (.ref (C 9)) "damp" = some none
  t9 : InitAt K (C 9) "NotDry.__init__" (inClass (topS 11) 0)
  g10 : mg "Known" = some (.ref (C 10))
  n10 : PySem.W.findIn K (.ref (C 10)) "number" = some none
  t10 : InitAt K (C 10) "Known.__init__" (inClass (topS 12) 0)
  g11 : mg "NoText" = some (.ref (C 11))
  g12 : mg "NoRow" = some (.ref (C 12))
section
variable {P : Program} {w : World} {K : PySem.W.Frag} {mg : Str → Option Value} {base : Heap} {C : Nat → Addr} {M : Addr}
theorem sc__law_bag : FnScope ["_law_script", "_law_cell"] ["_law_script"] (defScope s__law_bag) := ⟨rfl, rfl, rfl, by decide +kernel, rfl, by decide +kernel, by decide +kernel⟩
theorem ok_bag (T : Tx K mg C M) : OkF P w K mg base CX0 1 "_law_bag" ["_law_script"] (spBag K) := by
  refine T.d_bag.ok sc__law_bag (fun _ _ _ _ _ _ us hl => match us, hl with | [_], _ => rfl) (fun vs H Q E h => ?_) (fun f cdv A outer s H vs Q E hr h => ?_)
  · obtain ⟨a, ns, rfl, _⟩ := h
    rfl
  · obtain ⟨a, ns, rfl, hS, hl, k⟩ := h
    refine ⟨_, (pss_one (ps_ret (pe_lst (pa_cons pe_int (pa_cons pe_int (pa_cons pe_int (pa_cons (pe_lc (own := [("_law_cell", 1)]) rfl sc__law_bag.nd (pi_list (pe_slice sl_list (pv 0) po_none (po_some pe_int))) (blkOk_by (N := ["_law_script", "_law_cell"]) (sc := (defScope s__law_bag)) (by decide +kernel)) (fun _ _ _ _ _ => (pg_name (i := 1) sc__law_bag.nd rfl (Or.inl rfl))) (fun _ _ _ _ _ => pts_nil) (fun _ _ _ _ _ => (pe_callB call_abs (by rfl) T.b_abs (by decide +kernel) (pa_cons (pv 1) pa_nil)))) pa_nil))))))), ?_⟩
    have hc : cutV (ns.map V.int) none (some 63) = ns.map V.int := by
      unfold cutV
      rw [HT.sIx_none, show (63 : Int) = ((63 : Nat) : Int) from rfl, HT.sIx_nat, List.length_map]
      simp only [List.drop_zero, Nat.sub_zero]
      rw [List.take_of_length_le (by rw [List.length_map]; omega)]
    refine ⟨_, rfl, _, rfl, a, _, rfl, hS, fun c hc0 => ?_⟩
    rw [hc]
    have s0 : Same H (upd H c (.lst (ns.map V.int))) := Same.newp hc0
    refine ⟨c, rfl, ⟨_, SqL.of upd_same⟩, fun D hD => ?_⟩
    have nDc : D ≠ c := fun z => by
      rw [z, upd_same] at hD
      cases hD
    have hD0 : H D = none := by
      rw [upd_ne nDc] at hD
      exact hD
    refine lc_list (K := K) (a := c) (xs := ns.map V.int) (fun i H1 => Same H H1 ∧ H1 c = some (.lst (ns.map V.int)) ∧ H1 D = some (.lst (((ns.take i).map fun n => if n < 0 then -n else n).map V.int)))
      ⟨s0.trans (Same.newp hD), (upd_ne (Ne.symm nDc)).trans upd_same, upd_same⟩ (fun i H1 _ z => SqL.of z.2.1) ?_ ?_
    · rintro i x H1 hi ⟨z1, z2, z3⟩
      obtain ⟨n, hn, rfl⟩ : ∃ n, ns[i]? = some n ∧ x = V.int n := by
        rw [List.getElem?_map] at hi
        cases e : ns[i]? with
        | none =>
          rw [e] at hi
          cases hi
        | some n =>
          rw [e] at hi
          exact ⟨n, rfl, (Option.some.inj hi).symm⟩
      have lt : i < ns.length := (List.getElem?_eq_some_iff.mp hn).1
      refine ⟨rfl, _, rfl, n, rfl, _, z3, ?_, ?_⟩
      · rw [List.length_map, List.length_map, List.length_take]
        exact small1000 (by omega)
      · have tk : ns.take (i + 1) = ns.take i ++ [n] := by
          rw [List.take_add_one, hn]
          rfl
        refine ⟨fun b o e => ?_, ?_, ?_⟩
        · have nb : b ≠ D := fun q => by
            rw [q, hD0] at e
            cases e
          rw [upd_ne nb]
          exact z1 b o e
        · rw [upd_ne (Ne.symm nDc)]
          exact z2
        · rw [upd_same, tk, List.map_append, List.map_append]
          rfl
    · rintro H1 ⟨z1, z2, z3⟩
      rw [List.length_map, List.take_length] at z3
      refine ⟨by show 4 ≤ sizeLine; decide, fun p hp => ?_⟩
      have npD : p ≠ D := fun z => by
        rw [z, z3] at hp
        cases hp
      refine k _ p D (z1.trans (Same.newp hp)) (z1.free hp) hD0 ⟨0, 1234567891, 0, _, upd_same, (upd_ne (Ne.symm npD)).trans z3, by decide, by decide, by decide, by decide, ?_⟩
      intro n hn
      obtain ⟨m, _, rfl⟩ := List.mem_map.mp hn
      show 0 ≤ if m < 0 then -m else m
      split <;> omega
theorem sc__law_take : FnScope ["_law_bag_here", "_law_many", "_law_cell", "_law_value", "_law_first", "_law_second"] ["_law_bag_here", "_law_many"] (defScope s__law_take) := ⟨rfl, rfl, rfl, by decide +kernel, rfl, by decide +kernel, by decide +kernel⟩
theorem ok_take (T : Tx K mg C M) : OkF P w K mg base CX0 1 "_law_take" ["_law_bag_here", "_law_many"] spTake := by
  refine T.d_take.ok sc__law_take (fun _ _ _ _ _ _ us hl => match us, hl with | [_, _], _ => rfl) (fun vs H Q E h => ?_) (fun f cdv A outer s H vs Q E hr h => ?_)
  · obtain ⟨p, q, m, rfl, _⟩ := h
    rfl
  · obtain ⟨p, q, m, rfl, B, m0, m1, k⟩ := h
    have npq := B.ne
    refine ⟨_, (pss_cut (ps_if (pt_cmpR op_eq (pe_ix ix_list (pv 0) pe_int (fun _ _ => rfl)) pe_int (nomark _)) (pss_cons (ps_set (i := 2) sc__law_take.nd rfl (Or.inl rfl) pe_int) (pss_cut (ps_if (pt_cmpR op_lt (pe_ix ix_list (pv 0) pe_int (fun _ _ => rfl)) (pe_callB call_len_seq (by rfl) T.b_len PySem.boot_len (pa_cons (pe_ix ix_list (pv 0) pe_int (fun _ _ => rfl)) pa_nil)) (nomark _)) (pss_one (ps_set (i := 2) sc__law_take.nd rfl (Or.inl rfl) (pe_ix ix_list (pe_ix ix_list (pv 0) pe_int (fun _ _ => rfl)) (pe_ix ix_list (pv 0) pe_int (fun _ _ => rfl)) (fun _ _ => rfl)))) pss_nil) (pss_cons (ps_augS (pv 0) pe_int get_list pe_int ip_add set_list) (pss_cut (ps_if (pt_cmpR op_ge (pv 2) pe_int (nomark _)) (pss_one (ps_asg (pv 2) (pg_sub (pv 0) pe_int set_list))) pss_nil) (pss_one (ps_asg (pe_op op_mod (pe_op op_add (pe_op op_add (pe_op op_mul (pe_ix ix_list (pv 0) pe_int (fun _ _ => rfl)) pe_int) (pe_op op_mod (pv 2) pe_int)) (pe_op op_mul pe_int (pe_ix ix_list (pv 0) pe_int (fun _ _ => rfl)))) pe_int) (pg_sub (pv 0) pe_int set_list))))))) pss_nil) (pss_cons (ps_if (pt_cmpR op_gt (pe_ix ix_list (pv 0) pe_int (fun _ _ => rfl)) pe_int (nomark _)) (pss_cons (ps_set (i := 3) sc__law_take.nd rfl (Or.inl rfl) (pe_op op_mod (pe_ix ix_list (pv 0) pe_int (fun _ _ => rfl)) (pv 1))) (pss_cons (ps_asg (pe_op op_fdiv (pe_ix ix_list (pv 0) pe_int (fun _ _ => rfl)) (pv 1)) (pg_sub (pv 0) pe_int set_list)) (pss_one (ps_ret (pv 3))))) pss_nil) (pss_cons (ps_set (i := 4) sc__law_take.nd rfl (Or.inl rfl) (pe_op op_mod (pe_op op_mul (pe_op op_add (pe_ix ix_list (pv 0) pe_int (fun _ _ => rfl)) pe_int) pe_int) pe_int)) (pss_cons (ps_set (i := 5) sc__law_take.nd rfl (Or.inl rfl) (pe_op op_mod (pe_op op_mul (pe_op op_mod (pe_op op_mul (pv 4) (pv 4)) pe_int) pe_int) pe_int)) (pss_cons (ps_if (pt_cmpR op_gt (pv 1) pe_int (nomark _)) (pss_one (ps_ret (pe_op op_mod (pe_op op_add (pe_op op_mul (pv 5) pe_int) (pv 4)) (pv 1)))) pss_nil) (pss_one (ps_ret (pe_op op_mod (pe_op op_fdiv (pv 5) pe_int) (pv 1))))))))), ?_⟩
    obtain ⟨a, b, c, ns, B⟩ := B
    -- the word between the filling and the drawing
    refine ⟨fun σ1 H1 => (∃ x : Option V, σ1 = [some (.ref p), some (.int m), x, none, none, none]) ∧ Bag H1 p q ∧ But p H H1, ?_, ?_⟩
    · refine ⟨_, rfl, p, _, 0, _, rfl, rfl, SqL.of B.top, rfl, rfl, _, rfl, ?_⟩
      refine ite2 (fun _ => ?_) (fun _ => ⟨⟨_, rfl⟩, ⟨a, b, c, ns, B⟩, But.refl p H⟩)
      -- cell = 0; if bag[2] < len(bag[3]): cell = bag[3][bag[2]]
      refine ⟨fun σ1 H1 => (∃ x : Int, 0 ≤ x ∧ σ1 = [some (.ref p), some (.int m), some (.int x), none, none, none]) ∧ H1 = H, ?_, ?_⟩
      · refine ⟨_, rfl, p, _, 2, _, rfl, rfl, SqL.of B.top, rfl, _, rfl, p, _, 3, _, rfl, rfl, SqL.of B.top, rfl, q, _, rfl, .inl (SqL.of B.low), _, _, rfl, rfl, _, rfl, ?_⟩
        refine ite2 (fun hc => ?_) (fun _ => ⟨⟨0, by decide, rfl⟩, rfl⟩)
        have hlt := of_decide_eq_true hc
        rw [List.length_map] at hlt
        have c0 := B.c0
        have hg : ns[c.toNat]? = some (ns[c.toNat]'(by omega)) := List.getElem?_eq_getElem (by omega)
        have hat : atI (ns.map V.int) c = some (.int (ns[c.toNat]'(by omega))) := by
          have e := atI_nat (xs := ns.map V.int) (j := c.toNat) (v := .int (ns[c.toNat]'(by omega))) (by rw [List.getElem?_map, hg]; rfl)
          rw [Int.toNat_of_nonneg c0] at e
          exact e
        refine ⟨_, rfl, p, _, 3, _, rfl, rfl, SqL.of B.top, rfl, _, rfl, p, _, 2, _, rfl, rfl, SqL.of B.top, rfl, q, _, c, _, rfl, rfl, SqL.of B.low, hat, ?_⟩
        exact ⟨⟨_, B.nn _ (List.getElem_mem _), rfl⟩, rfl⟩
      · rintro σ1 H1 ⟨⟨x, x0, rfl⟩, rfl⟩
        -- bag[2] += 1
        refine ⟨_, rfl, p, _, 2, _, rfl, rfl, SqL.of B.top, by decide, rfl, _, _, rfl, rfl, p, _, 2, 2, rfl, rfl, B.top, rfl, ?_⟩
        have B2 : BagIs (upd H1 p (.lst [.int a, .int b, .int (c + 1), .ref q])) p q a b (c + 1) ns :=
          ⟨upd_same, (upd_ne (Ne.symm npq)).trans B.low, B.a0, B.b0, B.b1, by have := B.c0; omega, B.nn⟩
        -- if cell >= 10 ** 18: bag[0] = cell
        refine ⟨fun σ2 H2 => σ2 = [some (.ref p), some (.int m), some (.int x), none, none, none] ∧ But p H1 H2 ∧ ∃ a2, BagIs H2 p q a2 b (c + 1) ns, ?_, ?_⟩
        · refine ⟨_, rfl, _, _, rfl, rfl, _, rfl, ?_⟩
          refine ite2 (fun _ => ?_) (fun _ => ⟨rfl, But.upd, a, B2⟩)
          refine ⟨_, rfl, _, rfl, p, _, 0, 0, rfl, rfl, B2.top, rfl, ?_⟩
          exact ⟨rfl, But.upd.trans But.upd, x, upd_same, (upd_ne (Ne.symm npq)).trans B2.low, x0, B2.b0, B2.b1, B2.c0, B2.nn⟩
        · rintro σ2 H2 ⟨rfl, K2, a2, B3⟩
          refine ⟨_, rfl, p, _, 1, _, rfl, rfl, SqL.of B3.top, rfl, _, _, rfl, rfl, .inr ⟨by decide, by decide⟩, _, rfl, _, _, rfl, rfl, pos31, _, _, rfl, rfl,
            _, rfl, p, _, 2, _, rfl, rfl, SqL.of B3.top, rfl, _, _, rfl, rfl, .inl ⟨by decide, by decide⟩, _, _, rfl, rfl, _, _, rfl, rfl, pos31,
            _, rfl, p, _, 1, 1, rfl, rfl, B3.top, rfl, ?_⟩
          refine ⟨⟨_, rfl⟩, ⟨a2, _, c + 1, ns, upd_same, (upd_ne (Ne.symm npq)).trans B3.low, B3.a0, ?_, ?_, B3.c0, B3.nn⟩, K2.trans But.upd⟩
          · exact Int.emod_nonneg _ (by decide)
          · exact Int.emod_lt_of_pos _ (by decide)
    · rintro σ1 H1 ⟨⟨x, rfl⟩, ⟨a1, b1, c1, ns1, B1⟩, K1⟩
      -- if bag[0] > 0
      refine ⟨_, rfl, p, _, 0, _, rfl, rfl, SqL.of B1.top, rfl, _, _, rfl, rfl, _, rfl, ?_⟩
      refine ite2 (fun ha => ?_) (fun _ => ?_)
      · refine ⟨_, rfl, p, _, 0, _, rfl, rfl, SqL.of B1.top, rfl, _, rfl, _, _, rfl, rfl, m0, _, rfl, p, _, 0, _, rfl, rfl, SqL.of B1.top, rfl, _, rfl, _, _, rfl, rfl, ⟨m0, m1⟩,
          _, rfl, p, _, 0, 0, rfl, rfl, B1.top, rfl, _, rfl, ?_⟩
        refine k _ _ (Int.emod_nonneg _ (by omega)) (Int.emod_lt_of_pos _ m0) ⟨_, b1, c1, ns1, upd_same, (upd_ne (Ne.symm npq)).trans B1.low, Int.ediv_nonneg B1.a0 (by omega), B1.b0, B1.b1, B1.c0, B1.nn⟩ (K1.trans But.upd)
      · have f1 := fst_ok B1.b0 B1.b1
        refine ⟨_, rfl, p, _, 1, _, rfl, rfl, SqL.of B1.top, rfl, _, _, rfl, rfl, _, _, rfl, rfl, .inr ⟨by decide, by decide⟩, _, _, rfl, rfl, posA, ?_⟩
        generalize (b1 + 1) * 39373 % 1000000007 = g1 at f1 ⊢
        refine ⟨_, rfl, _, rfl, _, _, rfl, rfl, .inl ⟨by omega, by omega⟩, _, _, rfl, rfl, posB, _, _, rfl, rfl, .inr ⟨by decide, by decide⟩, _, _, rfl, rfl, posB, ?_⟩
        have f2 := snd_ok (g1 * g1 % 998244353 * 30011)
        generalize g1 * g1 % 998244353 * 30011 % 998244353 = g2 at f2 ⊢
        refine ⟨_, rfl, _, _, rfl, rfl, _, rfl, ?_⟩
        refine ite2 (fun _ => ?_) (fun _ => ?_)
        · refine ⟨_, rfl, _, _, rfl, rfl, .inr ⟨by decide, by decide⟩, _, rfl, _, _, rfl, rfl, _, rfl, _, _, rfl, rfl, m0, ?_⟩
          exact k _ _ (Int.emod_nonneg _ (by omega)) (Int.emod_lt_of_pos _ m0) ⟨a1, b1, c1, ns1, B1⟩ K1
        · refine ⟨_, rfl, _, _, rfl, rfl, ⟨by decide, by decide⟩, _, rfl, _, _, rfl, rfl, m0, ?_⟩
          exact k _ _ (Int.emod_nonneg _ (by omega)) (Int.emod_lt_of_pos _ m0) ⟨a1, b1, c1, ns1, B1⟩ K1
theorem io_0 (T : Tx K mg C M) : InitOk P w K mg base (C 0) "at" := by
  obtain ⟨fI, fd, F, iC, tI⟩ := T.t0
  exact ⟨fI, fd, iC, tI, F.binds (ps := ["self", "at"]) fun _ _ _ _ _ _ us hl => match us, hl with | [_, _], _ => rfl,
    init_ok F (T.e 0 (by decide)) T.n0 ⟨rfl, rfl, rfl, by decide +kernel, rfl, by decide +kernel, by decide +kernel⟩ fun _ _ _ _ _ _ => pss_one (ps_ost (pv 0) (pv 1))⟩
theorem io_1 (T : Tx K mg C M) : InitOk P w K mg base (C 1) "name" := by
  obtain ⟨fI, fd, F, iC, tI⟩ := T.t1
  exact ⟨fI, fd, iC, tI, F.binds (ps := ["self", "name"]) fun _ _ _ _ _ _ us hl => match us, hl with | [_, _], _ => rfl,
    init_ok F (T.e 1 (by decide)) T.n1 ⟨rfl, rfl, rfl, by decide +kernel, rfl, by decide +kernel, by decide +kernel⟩ fun _ _ _ _ _ _ => pss_one (ps_ost (pv 0) (pv 1))⟩
theorem io_2 (T : Tx K mg C M) : InitOk P w K mg base (C 2) "name" := by
  obtain ⟨fI, fd, F, iC, tI⟩ := T.t2
  exact ⟨fI, fd, iC, tI, F.binds (ps := ["self", "name"]) fun _ _ _ _ _ _ us hl => match us, hl with | [_, _], _ => rfl,
    init_ok F (T.e 2 (by decide)) T.n2 ⟨rfl, rfl, rfl, by decide +kernel, rfl, by decide +kernel, by decide +kernel⟩ fun _ _ _ _ _ _ => pss_one (ps_ost (pv 0) (pv 1))⟩
theorem io_3 (T : Tx K mg C M) : InitOk P w K mg base (C 3) "most" := by
  obtain ⟨fI, fd, F, iC, tI⟩ := T.t3
  exact ⟨fI, fd, iC, tI, F.binds (ps := ["self", "most"]) fun _ _ _ _ _ _ us hl => match us, hl with | [_, _], _ => rfl,
    init_ok F (T.e 3 (by decide)) T.n3 ⟨rfl, rfl, rfl, by decide +kernel, rfl, by decide +kernel, by decide +kernel⟩ fun _ _ _ _ _ _ => pss_one (ps_ost (pv 0) (pv 1))⟩
theorem io_4 (T : Tx K mg C M) : InitOk P w K mg base (C 4) "name" := by
  obtain ⟨fI, fd, F, iC, tI⟩ := T.t4
  exact ⟨fI, fd, iC, tI, F.binds (ps := ["self", "name"]) fun _ _ _ _ _ _ us hl => match us, hl with | [_, _], _ => rfl,
    init_ok F (T.e 4 (by decide)) T.n4 ⟨rfl, rfl, rfl, by decide +kernel, rfl, by decide +kernel, by decide +kernel⟩ fun _ _ _ _ _ _ => pss_one (ps_ost (pv 0) (pv 1))⟩
theorem io_5 (T : Tx K mg C M) : InitOk P w K mg base (C 5) "hands" := by
  obtain ⟨fI, fd, F, iC, tI⟩ := T.t5
  exact ⟨fI, fd, iC, tI, F.binds (ps := ["self", "hands"]) fun _ _ _ _ _ _ us hl => match us, hl with | [_, _], _ => rfl,
    init_ok F (T.e 5 (by decide)) T.n5 ⟨rfl, rfl, rfl, by decide +kernel, rfl, by decide +kernel, by decide +kernel⟩ fun _ _ _ _ _ _ => pss_one (ps_ost (pv 0) (pv 1))⟩
theorem io_6 (T : Tx K mg C M) : InitOk P w K mg base (C 6) "name" := by
  obtain ⟨fI, fd, F, iC, tI⟩ := T.t6
  exact ⟨fI, fd, iC, tI, F.binds (ps := ["self", "name"]) fun _ _ _ _ _ _ us hl => match us, hl with | [_, _], _ => rfl,
    init_ok F (T.e 6 (by decide)) T.n6 ⟨rfl, rfl, rfl, by decide +kernel, rfl, by decide +kernel, by decide +kernel⟩ fun _ _ _ _ _ _ => pss_one (ps_ost (pv 0) (pv 1))⟩
theorem io_7 (T : Tx K mg C M) : InitOk P w K mg base (C 7) "way" := by
  obtain ⟨fI, fd, F, iC, tI⟩ := T.t7
  exact ⟨fI, fd, iC, tI, F.binds (ps := ["self", "way"]) fun _ _ _ _ _ _ us hl => match us, hl with | [_, _], _ => rfl,
    init_ok F (T.e 7 (by decide)) T.n7 ⟨rfl, rfl, rfl, by decide +kernel, rfl, by decide +kernel, by decide +kernel⟩ fun _ _ _ _ _ _ => pss_one (ps_ost (pv 0) (pv 1))⟩
theorem io_8 (T : Tx K mg C M) : InitOk P w K mg base (C 8) "job" := by
  obtain ⟨fI, fd, F, iC, tI⟩ := T.t8
  exact ⟨fI, fd, iC, tI, F.binds (ps := ["self", "job"]) fun _ _ _ _ _ _ us hl => match us, hl with | [_, _], _ => rfl,
    init_ok F (T.e 8 (by decide)) T.n8 ⟨rfl, rfl, rfl, by decide +kernel, rfl, by decide +kernel, by decide +kernel⟩ fun _ _ _ _ _ _ => pss_one (ps_ost (pv 0) (pv 1))⟩
theorem io_9 (T : Tx K mg C M) : InitOk P w K mg base (C 9) "damp" := by
  obtain ⟨fI, fd, F, iC, tI⟩ := T.t9
  exact ⟨fI, fd, iC, tI, F.binds (ps := ["self", "damp"]) fun _ _ _ _ _ _ us hl => match us, hl with | [_, _], _ => rfl,
    init_ok F (T.e 9 (by decide)) T.n9 ⟨rfl, rfl, rfl, by decide +kernel, rfl, by decide +kernel, by decide +kernel⟩ fun _ _ _ _ _ _ => pss_one (ps_ost (pv 0) (pv 1))⟩
theorem io_10 (T : Tx K mg C M) : InitOk P w K mg base (C 10) "number" := by
  obtain ⟨fI, fd, F, iC, tI⟩ := T.t10
  exact ⟨fI, fd, iC, tI, F.binds (ps := ["self", "number"]) fun _ _ _ _ _ _ us hl => match us, hl with | [_, _], _ => rfl,
    init_ok F (T.e 10 (by decide)) T.n10 ⟨rfl, rfl, rfl, by decide +kernel, rfl, by decide +kernel, by decide +kernel⟩ fun _ _ _ _ _ _ => pss_one (ps_ost (pv 0) (pv 1))⟩
/-- an error of the n-th class goes out -/
def Out (C : Nat → Addr) (n : Nat) (H : Hp) (E : XK) : Prop := (n < 11 → ∀ d fs, H d = none → E (.ref (C n)) (some d) (upd H d (.xd fs))) ∧ (¬ n < 11 → E (.ref (C n)) none H)
def spRaised (lo : Nat) (C : Nat → Addr) : Sp := fun vs H Q E => ∃ (n : Nat) (y : V), vs = [.int (n : Int), y] ∧ lo ≤ n ∧ n < 13 ∧ Out C n H E
theorem sc__law_further : FnScope ["_law_which", "_law_thing"] ["_law_which", "_law_thing"] (defScope s__law_further) := ⟨rfl, rfl, rfl, by decide +kernel, rfl, by decide +kernel, by decide +kernel⟩
theorem ok_further (T : Tx K mg C M) : OkF P w K mg base (L2.CX P w) 3 "_law_further" ["_law_which", "_law_thing"] (spRaised 7 C) := by
  refine T.d_further.okX sc__law_further (fun _ _ _ _ _ _ us hl => match us, hl with | [_, _], _ => rfl) (fun vs H Q E h => ?_) (fun f cdv A outer s H vs Q E hr h => ?_)
  · obtain ⟨n, y, rfl, _⟩ := h
    rfl
  · obtain ⟨n, y, rfl, lo, hi, o1, o2⟩ := h
    refine ⟨_, (pss_cons (ps_if (pt_cmpR op_eq (pv 0) pe_int (nomark _)) (pss_one (ps_raise1 (C := C 7) (f := "way") (W := fun cls d _ H => E cls d H) rfl (T.e 7 (by decide)) (io_7 T) T.g7 (hr.mono (by decide)) (takes_of rfl rfl rfl rfl) (pv 1))) pss_nil) (pss_cons (ps_if (pt_cmpR op_eq (pv 0) pe_int (nomark _)) (pss_one (ps_raise1 (C := C 8) (f := "job") (W := fun cls d _ H => E cls d H) rfl (T.e 8 (by decide)) (io_8 T) T.g8 (hr.mono (by decide)) (takes_of rfl rfl rfl rfl) (pv 1))) pss_nil) (pss_cons (ps_if (pt_cmpR op_eq (pv 0) pe_int (nomark _)) (pss_one (ps_raise1 (C := C 9) (f := "damp") (W := fun cls d _ H => E cls d H) rfl (T.e 9 (by decide)) (io_9 T) T.g9 (hr.mono (by decide)) (takes_of rfl rfl rfl rfl) (pv 1))) pss_nil) (pss_cons (ps_if (pt_cmpR op_eq (pv 0) pe_int (nomark _)) (pss_one (ps_raise1 (C := C 10) (f := "number") (W := fun cls d _ H => E cls d H) rfl (T.e 10 (by decide)) (io_10 T) T.g10 (hr.mono (by decide)) (takes_of rfl rfl rfl rfl) (pv 1))) pss_nil) (pss_cons (ps_if (pt_cmpR op_eq (pv 0) pe_int (nomark _)) (pss_one (ps_raise (W := fun cls d _ H => E cls d H) rfl (takes_of rfl rfl rfl rfl) (pmk_own0 PySem.F.excBase_ValueError T.x11 T.g11 (T.e 11 (by decide)).kC (raises_own (T.e 11 (by decide)).bexc (T.e 11 (by decide)).ty)))) pss_nil) (pss_one (ps_raise (W := fun cls d _ H => E cls d H) rfl (takes_of rfl rfl rfl rfl) (pmk_own0 PySem.F.excBase_ValueError T.x12 T.g12 (T.e 12 (by decide)).kC (raises_own (T.e 12 (by decide)).bexc (T.e 12 (by decide)).ty))))))))), ?_⟩
    have step : ∀ (m : Nat), n ≠ m → decide (V.int (n : Int) = V.int (m : Int)) = false := fun m ne => decide_eq_false fun z => ne (by injection z with z; omega)
    have hit : ∀ (m : Nat), n = m → decide (V.int (n : Int) = V.int (m : Int)) = true := fun m e => decide_eq_true (by rw [e])
    refine ⟨_, rfl, rfl, _, rfl, ?_⟩
    by_cases e7 : n = 7
    · refine if_t (hit 7 e7) ?_
      subst e7
      exact ⟨_, rfl, raise1 fun d hd => o1 (by omega) d _ hd⟩
    refine if_f (step 7 e7) ?_
    refine ⟨_, rfl, rfl, _, rfl, ?_⟩
    by_cases e8 : n = 8
    · refine if_t (hit 8 e8) ?_
      subst e8
      exact ⟨_, rfl, raise1 fun d hd => o1 (by omega) d _ hd⟩
    refine if_f (step 8 e8) ?_
    refine ⟨_, rfl, rfl, _, rfl, ?_⟩
    by_cases e9 : n = 9
    · refine if_t (hit 9 e9) ?_
      subst e9
      exact ⟨_, rfl, raise1 fun d hd => o1 (by omega) d _ hd⟩
    refine if_f (step 9 e9) ?_
    refine ⟨_, rfl, rfl, _, rfl, ?_⟩
    by_cases e10 : n = 10
    · refine if_t (hit 10 e10) ?_
      subst e10
      exact ⟨_, rfl, raise1 fun d hd => o1 (by omega) d _ hd⟩
    refine if_f (step 10 e10) ?_
    refine ⟨_, rfl, rfl, _, rfl, ?_⟩
    by_cases e11 : n = 11
    · refine if_t (hit 11 e11) ?_
      subst e11
      exact o2 (by omega)
    refine if_f (step 11 e11) ?_
    have e12 : n = 12 := by omega
    subst e12
    exact o2 (by decide)
theorem sc__law_raised : FnScope ["_law_which", "_law_thing"] ["_law_which", "_law_thing"] (defScope s__law_raised) := ⟨rfl, rfl, rfl, by decide +kernel, rfl, by decide +kernel, by decide +kernel⟩
theorem ok_raised (T : Tx K mg C M) : OkF P w K mg base (L2.CX P w) 4 "_law_raised" ["_law_which", "_law_thing"] (spRaised 0 C) := by
  refine T.d_raised.okX sc__law_raised (fun _ _ _ _ _ _ us hl => match us, hl with | [_, _], _ => rfl) (fun vs H Q E h => ?_) (fun f cdv A outer s H vs Q E hr h => ?_)
  · obtain ⟨n, y, rfl, _⟩ := h
    rfl
  · obtain ⟨n, y, rfl, lo, hi, o1, o2⟩ := h
    refine ⟨_, (pss_cons (ps_if (pt_cmpR op_eq (pv 0) pe_int (nomark _)) (pss_one (ps_raise1 (C := C 0) (f := "at") (W := fun cls d _ H => E cls d H) rfl (T.e 0 (by decide)) (io_0 T) T.g0 (hr.mono (by decide)) (takes_of rfl rfl rfl rfl) (pv 1))) pss_nil) (pss_cons (ps_if (pt_cmpR op_eq (pv 0) pe_int (nomark _)) (pss_one (ps_raise1 (C := C 1) (f := "name") (W := fun cls d _ H => E cls d H) rfl (T.e 1 (by decide)) (io_1 T) T.g1 (hr.mono (by decide)) (takes_of rfl rfl rfl rfl) (pv 1))) pss_nil) (pss_cons (ps_if (pt_cmpR op_eq (pv 0) pe_int (nomark _)) (pss_one (ps_raise1 (C := C 2) (f := "name") (W := fun cls d _ H => E cls d H) rfl (T.e 2 (by decide)) (io_2 T) T.g2 (hr.mono (by decide)) (takes_of rfl rfl rfl rfl) (pv 1))) pss_nil) (pss_cons (ps_if (pt_cmpR op_eq (pv 0) pe_int (nomark _)) (pss_one (ps_raise1 (C := C 3) (f := "most") (W := fun cls d _ H => E cls d H) rfl (T.e 3 (by decide)) (io_3 T) T.g3 (hr.mono (by decide)) (takes_of rfl rfl rfl rfl) (pv 1))) pss_nil) (pss_cons (ps_if (pt_cmpR op_eq (pv 0) pe_int (nomark _)) (pss_one (ps_raise1 (C := C 4) (f := "name") (W := fun cls d _ H => E cls d H) rfl (T.e 4 (by decide)) (io_4 T) T.g4 (hr.mono (by decide)) (takes_of rfl rfl rfl rfl) (pv 1))) pss_nil) (pss_cons (ps_if (pt_cmpR op_eq (pv 0) pe_int (nomark _)) (pss_one (ps_raise1 (C := C 5) (f := "hands") (W := fun cls d _ H => E cls d H) rfl (T.e 5 (by decide)) (io_5 T) T.g5 (hr.mono (by decide)) (takes_of rfl rfl rfl rfl) (pv 1))) pss_nil) (pss_cons (ps_if (pt_cmpR op_eq (pv 0) pe_int (nomark _)) (pss_one (ps_raise1 (C := C 6) (f := "name") (W := fun cls d _ H => E cls d H) rfl (T.e 6 (by decide)) (io_6 T) T.g6 (hr.mono (by decide)) (takes_of rfl rfl rfl rfl) (pv 1))) pss_nil) (pss_one (ps_expr (pe_f (ok_further T) (hr.mono (by decide)) (passes_call (W := fun cls d _ H => E cls d H) (takes_of rfl rfl rfl rfl) (fun _ _ _ _ h => h)) (pa_cons (pv 0) (pa_cons (pv 1) pa_nil)))))))))))), ?_⟩
    have step : ∀ (m : Nat), n ≠ m → decide (V.int (n : Int) = V.int (m : Int)) = false := fun m ne => decide_eq_false fun z => ne (by injection z with z; omega)
    have hit : ∀ (m : Nat), n = m → decide (V.int (n : Int) = V.int (m : Int)) = true := fun m e => decide_eq_true (by rw [e])
    refine ⟨_, rfl, rfl, _, rfl, ?_⟩
    by_cases e0 : n = 0
    · refine if_t (hit 0 e0) ?_
      subst e0
      exact ⟨_, rfl, raise1 fun d hd => o1 (by omega) d _ hd⟩
    refine if_f (step 0 e0) ?_
    refine ⟨_, rfl, rfl, _, rfl, ?_⟩
    by_cases e1 : n = 1
    · refine if_t (hit 1 e1) ?_
      subst e1
      exact ⟨_, rfl, raise1 fun d hd => o1 (by omega) d _ hd⟩
    refine if_f (step 1 e1) ?_
    refine ⟨_, rfl, rfl, _, rfl, ?_⟩
    by_cases e2 : n = 2
    · refine if_t (hit 2 e2) ?_
      subst e2
      exact ⟨_, rfl, raise1 fun d hd => o1 (by omega) d _ hd⟩
    refine if_f (step 2 e2) ?_
    refine ⟨_, rfl, rfl, _, rfl, ?_⟩
    by_cases e3 : n = 3
    · refine if_t (hit 3 e3) ?_
      subst e3
      exact ⟨_, rfl, raise1 fun d hd => o1 (by omega) d _ hd⟩
    refine if_f (step 3 e3) ?_
    refine ⟨_, rfl, rfl, _, rfl, ?_⟩
    by_cases e4 : n = 4
    · refine if_t (hit 4 e4) ?_
      subst e4
      exact ⟨_, rfl, raise1 fun d hd => o1 (by omega) d _ hd⟩
    refine if_f (step 4 e4) ?_
    refine ⟨_, rfl, rfl, _, rfl, ?_⟩
    by_cases e5 : n = 5
    · refine if_t (hit 5 e5) ?_
      subst e5
      exact ⟨_, rfl, raise1 fun d hd => o1 (by omega) d _ hd⟩
    refine if_f (step 5 e5) ?_
    refine ⟨_, rfl, rfl, _, rfl, ?_⟩
    by_cases e6 : n = 6
    · refine if_t (hit 6 e6) ?_
      subst e6
      exact ⟨_, rfl, raise1 fun d hd => o1 (by omega) d _ hd⟩
    refine if_f (step 6 e6) ?_
    exact ⟨_, rfl, _, rfl, n, y, rfl, by omega, hi, o1, o2⟩
/-- the flags of the n-th error: of the thirteen its own alone, and ValueError -/
def flagsB (n : Nat) : List Bool := (List.range 13).map (fun j => decide (j = n)) ++ [true]
theorem flag_at {T : Tx K mg C M} {n j : Nat} (hn : n < 13) (hj : j < 13) : PySem.W.kitOne K (.ref (C n)) (.ref (C j)) = some (decide (j = n)) := by
  rw [(T.e n hn).kit (T.e j hj)]
  have nd := T.nd
  have nM : C j ≠ M := fun z => (List.nodup_cons.mp nd).1 (by rw [← z]; exact List.mem_map_of_mem (List.mem_range.mpr hj))
  have inj : C j = C n → j = n := fun z => by
    have e1 : ((List.range 13).map C)[j]? = some (C j) := by simp [hj]
    have e2 : ((List.range 13).map C)[n]? = some (C j) := by simp [hn, z]
    exact nodup_ix' (List.nodup_cons.mp nd).2 e1 e2
  by_cases e : j = n
  · subst e
    simp
  · have ne : ¬ C j = C n := fun z => e (inj z)
    rw [decide_eq_false e]
    simp [ne, nM]
def spFlags (C : Nat → Addr) : Addr → Value → Option Addr → Sp := fun a c d vs H Q _ => ∃ n : Nat, n < 13 ∧ c = .ref (C n) ∧ DictOk d H ∧ vs = [.ref a] ∧
  ∀ (H' : Hp) (l : Addr), Same H H' → H l = none → H' l = some (.lst ((flagsB n).map V.bl)) → Q (.ref l) H'
theorem sc__law_flags : FnScope ["_law_e", "_law_some"] ["_law_e"] (defScope s__law_flags) := ⟨rfl, rfl, rfl, by decide +kernel, rfl, by decide +kernel, by decide +kernel⟩
theorem ok_flags (T : Tx K mg C M) : OkX P w K mg base 1 "_law_flags" ["_law_e"] (spFlags C) := by
  refine T.d_flags.okH sc__law_flags (fun _ _ _ _ _ _ us hl => match us, hl with | [_], _ => rfl) (fun a c d vs H Q E h => ?_) (fun f cdv A outer s H vs Q E a oe c d hz hf hr h => ?_)
  · obtain ⟨n, _, _, _, rfl, _⟩ := h
    rfl
  · obtain ⟨n, hn, rfl, hd, rfl, k⟩ := h
    have g : Bears (L2H.cxH CX0 P w K mg base ["_law_e", "_law_some"] "_law_flags" (defScope s__law_flags) f cdv A outer s H E (a, oe)).nox a oe (.ref (C n)) d := ⟨List.mem_singleton.mpr rfl, hz, hf⟩
    refine ⟨_, (pss_cons (ps_set (i := 1) sc__law_flags.nd rfl (Or.inl rfl) (pe_lst (pa_cons (pe_callB (call_isX T.gc (T.e n hn) g) (by rfl) T.b_isinstance (by decide +kernel) (pa_cons (pv 0) (pa_cons (pe_glob (v := .ref (C 0)) rfl T.g0 rfl) pa_nil))) (pa_cons (pe_callB (call_isX T.gc (T.e n hn) g) (by rfl) T.b_isinstance (by decide +kernel) (pa_cons (pv 0) (pa_cons (pe_glob (v := .ref (C 1)) rfl T.g1 rfl) pa_nil))) (pa_cons (pe_callB (call_isX T.gc (T.e n hn) g) (by rfl) T.b_isinstance (by decide +kernel) (pa_cons (pv 0) (pa_cons (pe_glob (v := .ref (C 2)) rfl T.g2 rfl) pa_nil))) (pa_cons (pe_callB (call_isX T.gc (T.e n hn) g) (by rfl) T.b_isinstance (by decide +kernel) (pa_cons (pv 0) (pa_cons (pe_glob (v := .ref (C 3)) rfl T.g3 rfl) pa_nil))) pa_nil)))))) (pss_cons (ps_set (i := 1) sc__law_flags.nd rfl (Or.inl rfl) (pe_op op_cat (pv 1) (pe_lst (pa_cons (pe_callB (call_isX T.gc (T.e n hn) g) (by rfl) T.b_isinstance (by decide +kernel) (pa_cons (pv 0) (pa_cons (pe_glob (v := .ref (C 4)) rfl T.g4 rfl) pa_nil))) (pa_cons (pe_callB (call_isX T.gc (T.e n hn) g) (by rfl) T.b_isinstance (by decide +kernel) (pa_cons (pv 0) (pa_cons (pe_glob (v := .ref (C 5)) rfl T.g5 rfl) pa_nil))) (pa_cons (pe_callB (call_isX T.gc (T.e n hn) g) (by rfl) T.b_isinstance (by decide +kernel) (pa_cons (pv 0) (pa_cons (pe_glob (v := .ref (C 6)) rfl T.g6 rfl) pa_nil))) (pa_cons (pe_callB (call_isX T.gc (T.e n hn) g) (by rfl) T.b_isinstance (by decide +kernel) (pa_cons (pv 0) (pa_cons (pe_glob (v := .ref (C 7)) rfl T.g7 rfl) pa_nil))) pa_nil))))))) (pss_cons (ps_set (i := 1) sc__law_flags.nd rfl (Or.inl rfl) (pe_op op_cat (pv 1) (pe_lst (pa_cons (pe_callB (call_isX T.gc (T.e n hn) g) (by rfl) T.b_isinstance (by decide +kernel) (pa_cons (pv 0) (pa_cons (pe_glob (v := .ref (C 8)) rfl T.g8 rfl) pa_nil))) (pa_cons (pe_callB (call_isX T.gc (T.e n hn) g) (by rfl) T.b_isinstance (by decide +kernel) (pa_cons (pv 0) (pa_cons (pe_glob (v := .ref (C 9)) rfl T.g9 rfl) pa_nil))) (pa_cons (pe_callB (call_isX T.gc (T.e n hn) g) (by rfl) T.b_isinstance (by decide +kernel) (pa_cons (pv 0) (pa_cons (pe_glob (v := .ref (C 10)) rfl T.g10 rfl) pa_nil))) (pa_cons (pe_callB (call_isX T.gc (T.e n hn) g) (by rfl) T.b_isinstance (by decide +kernel) (pa_cons (pv 0) (pa_cons (pe_glob (v := .ref (C 11)) rfl T.g11 rfl) pa_nil))) pa_nil))))))) (pss_one (ps_ret (pe_op op_cat (pv 1) (pe_lst (pa_cons (pe_callB (call_isX T.gc (T.e n hn) g) (by rfl) T.b_isinstance (by decide +kernel) (pa_cons (pv 0) (pa_cons (pe_glob (v := .ref (C 12)) rfl T.g12 rfl) pa_nil))) (pa_cons (pe_callB (call_isX T.gc (T.e n hn) g) (by rfl) T.b_isinstance (by decide +kernel) (pa_cons (pv 0) (pa_cons (pe_bltn (v := .ty "ValueError") (by rfl) T.b_ValueError PyProof.Rows.Boot.«ValueError» rfl) pa_nil))) pa_nil))))))))), ?_⟩
    have fl : ∀ j, j < 13 → PySem.W.kitOne K (.ref (C n)) (.ref (C j)) = some (decide (j = n)) := fun j hj => flag_at (T := T) hn hj
    have ve : PySem.W.kitOne K (.ref (C n)) (.type "ValueError") = some true := (T.e n hn).kitV "ValueError" (by decide +kernel) (by decide +kernel)
    have D0 : DictOk d H := hd
    refine ⟨_, rfl, _, _, _, rfl, (fun u r => r), fl 0 (by decide), D0, _, rfl, _, _, _, rfl, (fun u r => r), fl 1 (by decide), D0, _, rfl, _, _, _, rfl, (fun u r => r), fl 2 (by decide), D0, _, rfl, _, _, _, rfl, (fun u r => r), fl 3 (by decide), D0, (by show 4 ≤ sizeLine; decide), fun l1 h1 => ?_⟩
    have D1 := DictOk.same D0 (Same.newp (o := .lst [.bl (decide (0 = n)), .bl (decide (1 = n)), .bl (decide (2 = n)), .bl (decide (3 = n))]) h1)
    refine ⟨_, rfl, _, rfl, _, _, _, rfl, (fun u r => r), fl 4 (by decide), D1, _, rfl, _, _, _, rfl, (fun u r => r), fl 5 (by decide), D1, _, rfl, _, _, _, rfl, (fun u r => r), fl 6 (by decide), D1, _, rfl, _, _, _, rfl, (fun u r => r), fl 7 (by decide), D1, (by show 4 ≤ sizeLine; decide), fun l2 h2 => ?_⟩
    have n12 : l1 ≠ l2 := ne_of_none upd_same h2
    refine ⟨l1, l2, _, _, rfl, rfl, (upd_ne n12).trans upd_same, upd_same, (by show 8 ≤ sizeLine; decide), fun l3 h3 => ?_⟩
    have D3 : ∀ o, DictOk d (upd _ l3 o) := fun o => (D1.same (Same.newp h2)).same (Same.newp h3)
    refine ⟨_, rfl, _, rfl, _, _, _, rfl, (fun u r => r), fl 8 (by decide), D3 _, _, rfl, _, _, _, rfl, (fun u r => r), fl 9 (by decide), D3 _, _, rfl, _, _, _, rfl, (fun u r => r), fl 10 (by decide), D3 _, _, rfl, _, _, _, rfl, (fun u r => r), fl 11 (by decide), D3 _, (by show 4 ≤ sizeLine; decide), fun l4 h4 => ?_⟩
    have n34 : l3 ≠ l4 := ne_of_none upd_same h4
    refine ⟨l3, l4, _, _, rfl, rfl, (upd_ne n34).trans upd_same, upd_same, (by show 12 ≤ sizeLine; decide), fun l5 h5 => ?_⟩
    have D5 : ∀ o, DictOk d (upd _ l5 o) := fun o => ((D3 _).same (Same.newp h4)).same (Same.newp h5)
    refine ⟨_, rfl, _, rfl, _, _, _, rfl, (fun u r => r), fl 12 (by decide), D5 _, _, rfl, .ty "ValueError", _, _, rfl, (fun u r => r), ve, D5 _, (by show 2 ≤ sizeLine; decide), fun l6 h6 => ?_⟩
    have n56 : l5 ≠ l6 := ne_of_none upd_same h6
    refine ⟨l5, l6, _, _, rfl, rfl, (upd_ne n56).trans upd_same, upd_same, (by show 14 ≤ sizeLine; decide), fun l7 h7 => ?_⟩
    refine k _ l7 ?_ ?_ upd_same
    · exact ((((((Same.newp h1).trans (Same.newp h2)).trans (Same.newp h3)).trans (Same.newp h4)).trans (Same.newp h5)).trans (Same.newp h6)).trans (Same.newp h7)
    · exact ((((((Same.newp h1).trans (Same.newp h2)).trans (Same.newp h3)).trans (Same.newp h4)).trans (Same.newp h5)).trans (Same.newp h6)).free h7
def spCaught (C : Nat → Addr) : Sp := fun vs H Q _ => ∃ (n : Nat) (y : V), vs = [.int (n : Int), y] ∧ n < 13 ∧
  ∀ (H' : Hp) (l : Addr), Same H H' → H l = none → H' l = some (.lst ((flagsB n).map V.bl)) → Q (.ref l) H'
theorem sc__law_caught : FnScope ["_law_which", "_law_thing", "_law_e"] ["_law_which", "_law_thing"] (defScope s__law_caught) := ⟨rfl, rfl, rfl, by decide +kernel, rfl, by decide +kernel, by decide +kernel⟩
theorem ok_caught (T : Tx K mg C M) : OkF P w K mg base CX0 5 "_law_caught" ["_law_which", "_law_thing"] (spCaught C) := by
  refine T.d_caught.ok sc__law_caught (fun _ _ _ _ _ _ us hl => match us, hl with | [_, _], _ => rfl) (fun vs H Q E h => ?_) (fun f cdv A outer s H vs Q E hr h => ?_)
  · obtain ⟨n, y, rfl, _⟩ := h
    rfl
  · obtain ⟨n, y, rfl, hn, k⟩ := h
    have exm : PySem.W.exmOne K (.ref (C n)) (.ref M) = some true := by
      rw [(T.e n hn).exm T.eM]
      simp
    refine ⟨_, (pss_cons (ps_try_as (i := 2) (tb := fun W => tDrop (tCallS (spRaised 0 C) (WE W) (tCons (tVar 0) (tCons (tVar 1) tNil)))) (ts := fun a cls d => tRet (tCall (spFlags C a cls d) [] E0 (tCons (tVar 2) tNil))) (Wout := fun _ _ _ _ => False) rfl rfl sc__law_caught.nd rfl rfl ⟨rfl, by decide, .inl T.gM⟩ takes0 (fun W pn xe tk _ => pss_one (ps_expr (pe_fS (ok_raised T) (hr.mono (by decide)) (fun σ => passAt tk σ) (pa_cons (pv 0) (pa_cons (pv 1) pa_nil))))) (fun a oe cls d pn hz hf => pss_one (ps_ret (pe_x (ok_flags T) (hr.mono (by decide)) hz hf (pa_cons (pv 2) pa_nil))))) (pss_one (ps_ret pe_non))), ?_⟩
    refine ⟨_, rfl, _, rfl, n, y, rfl, Nat.zero_le _, hn, fun lt d fs hd => ?_, fun ge => ?_⟩
    · refine ⟨true, exm, fun _ a ha => ?_, fun z => Bool.noConfusion z⟩
      refine ⟨_, rfl, n, hn, rfl, dictOk_new, rfl, fun H' l s1 l0 hl => ?_⟩
      exact k H' l ((Same.newp hd).trans s1) ((Same.newp hd).free l0) hl
    · refine ⟨true, exm, fun _ a ha => ?_, fun z => Bool.noConfusion z⟩
      exact ⟨_, rfl, n, hn, rfl, dictOk_none _, rfl, k⟩
def spLaw (K : PySem.W.Frag) : Sp := fun vs H Q _ => ∃ (a : Addr) (ns : List Int), vs = [.ref a] ∧ SqL K H a (ns.map V.int) ∧ ns.length ≤ 63 ∧ ∀ H', Q (.bl true) H'
theorem sc_law : FnScope ["_law_script", "_law_bag_here", "_law_first", "_law_step", "_law_k", "_law_which", "_law_thing", "_law_j"] ["_law_script"] (defScope s_law) := ⟨rfl, rfl, rfl, by decide +kernel, rfl, by decide +kernel, by decide +kernel⟩
theorem ok_law (T : Tx K mg C M) : OkF P w K mg base CX0 6 "law" ["_law_script"] (spLaw K) := by
  refine T.d_law.ok sc_law (fun _ _ _ _ _ _ us hl => match us, hl with | [_], _ => rfl) (fun vs H Q E h => ?_) (fun f cdv A outer s H vs Q E hr h => ?_)
  · obtain ⟨a, ns, rfl, _⟩ := h
    rfl
  · obtain ⟨a, ns, rfl, hS, hl, k⟩ := h
    have hu := hu64 hr
    refine ⟨_, (pss_cons (ps_set (i := 1) sc_law.nd rfl (Or.inl rfl) (pe_f (ok_bag T) (hr.mono (by decide)) pass0 (pa_cons (pv 0) pa_nil))) (pss_cons (ps_set (i := 2) sc_law.nd rfl (Or.inl rfl) (pe_f (ok_take T) (hr.mono (by decide)) pass0 (pa_cons (pv 1) (pa_cons pe_int pa_nil)))) (pss_cons (ps_set (i := 3) sc_law.nd rfl (Or.inl rfl) (pe_op op_add pe_int (pe_f (ok_take T) (hr.mono (by decide)) pass0 (pa_cons (pv 1) (pa_cons pe_int pa_nil))))) (pss_cons (ps_for PassesOwn.never rfl (pi_range1 rfl T.b_range (pa_cons pe_int pa_nil)) (pg_name (i := 4) sc_law.nd rfl (Or.inl rfl)) (pss_cons (ps_set (i := 5) sc_law.nd rfl (Or.inr rfl) (pe_op op_mod (pe_op op_add (pv 2) (pe_op op_mul (pv 3) (pv 4))) pe_int)) (pss_cons (ps_set (i := 6) sc_law.nd rfl (Or.inl rfl) (pe_ix ix_list (pe_lst (pa_cons pe_str (pa_cons pe_int (pa_cons (pe_lst (pa_cons pe_str (pa_cons pe_str pa_nil))) (pa_cons pe_non (pa_cons (pe_tup (pa_cons pe_str (pa_cons pe_int pa_nil))) (pa_cons pe_str pa_nil))))))) (pe_f (ok_take T) (hr.mono (by decide)) pass0 (pa_cons (pv 1) (pa_cons pe_int pa_nil))) (fun _ _ => rfl))) (pss_one (ps_if (pt_cmpR (op_neD hu) (pe_f (ok_caught T) (hr.mono (by decide)) pass0 (pa_cons (pv 5) (pa_cons (pv 6) pa_nil))) (pe_op op_cat (pe_lc (own := [("_law_j", 7)]) rfl sc_law.nd (pi_range1 rfl T.b_range (pa_cons pe_int pa_nil)) (blkOk_by (N := ["_law_script", "_law_bag_here", "_law_first", "_law_step", "_law_k", "_law_which", "_law_thing", "_law_j"]) (sc := (defScope s_law)) (by decide +kernel)) (fun _ _ _ _ _ => (pg_name (i := 7) sc_law.nd rfl (Or.inl rfl))) (fun _ _ _ _ _ => pts_nil) (fun _ _ _ _ _ => (pe_cmpR op_eq (pv 7) (pv 5) (nomark _)))) (pe_lst (pa_cons pe_bl pa_nil))) (nomark _)) (pss_one (ps_ret pe_bl)) pss_nil))))) (pss_one (ps_ret pe_bl)))))), ?_⟩
    refine ⟨_, rfl, a, ns, rfl, hS, hl, fun H1 p q s1 hp hq B => ?_⟩
    refine ⟨_, rfl, p, q, 13, rfl, B, by decide, by decide, fun v1 H2 v10 v11 B2 K2 => ?_⟩
    refine ⟨_, rfl, p, q, 12, rfl, B2, by decide, by decide, fun v2 H3 v20 v21 B3 K3 => ⟨_, _, rfl, rfl, ?_⟩⟩
    refine ⟨26, rfl, by decide, by decide, for_range (lo := 0) (n := 26) (fun i σ H' => ∃ x4 x5 x6 x7 : Option V, σ = [some (.ref a), some (.ref p), some (.int v1), some (.int (1 + v2)), x4, x5, x6, x7] ∧ Bag H' p q) ⟨none, none, none, none, rfl, B3⟩ ?_ ?_⟩
    · rintro i σ H4 hi ⟨x4, x5, x6, x7, rfl, B4⟩
      -- which
      refine ⟨_, rfl, _, rfl, _, rfl, _, _, rfl, rfl, .inl ⟨by omega, by omega⟩, _, _, rfl, rfl, _, _, rfl, rfl, (by show (0 : Int) < 13; decide), ?_⟩
      obtain ⟨n, hn, en⟩ : ∃ n : Nat, n < 13 ∧ (v1 + (1 + v2) * (0 + (i : Int))) % 13 = (n : Int) := by
        have h0 := Int.emod_nonneg (v1 + (1 + v2) * (0 + (i : Int))) (show (13 : Int) ≠ 0 by decide)
        have h1 := Int.emod_lt_of_pos (v1 + (1 + v2) * (0 + (i : Int))) (show (0 : Int) < 13 by decide)
        exact ⟨((v1 + (1 + v2) * (0 + (i : Int))) % 13).toNat, by omega, by omega⟩
      dsimp only
      rw [en]
      -- thing
      refine ⟨by show 2 ≤ sizeLine; decide, fun l1 h1 => ⟨by show 2 ≤ sizeLine; decide, fun l2 h2 => ⟨by show 6 ≤ sizeLine; decide, fun l3 h3 => ?_⟩⟩⟩
      refine ⟨_, rfl, p, q, 6, rfl, ((B4.same (Same.newp h1)).same (Same.newp h2)).same (Same.newp h3), by decide, by decide, fun v5 H5 v50 v51 B5 K5 => ?_⟩
      obtain ⟨y, _, hy⟩ := atI_some (xs := [V.str "jo", V.int 7, V.ref l1, V.non, V.ref l2, V.str ""]) v50 v51
      have n3 : l3 ≠ p := fun z => by
        rw [z] at h3
        exact (((B4.same (Same.newp h1)).same (Same.newp h2)).there).1 h3
      refine ⟨l3, _, v5, y, rfl, rfl, SqL.of ((K5 l3 n3).trans upd_same), hy, ?_⟩
      -- the flags
      refine ⟨_, rfl, _, rfl, n, y, rfl, hn, fun H6 l6 s6 l60 hl6 => ?_⟩
      have B6 := B5.same s6
      refine ⟨13, rfl, by decide, by decide, fun D hD => ?_⟩
      refine lc_range (lo := 0) (n := 13) (fun j H' => Same H6 H' ∧ H' D = some (.lst (((List.range j).map fun z => decide (z = n)).map V.bl))) ⟨Same.newp hD, upd_same⟩ ?_ ?_
      · rintro j H7 hj ⟨s7, d7⟩
        have edec : decide (V.int (0 + (j : Int)) = V.int (n : Int)) = decide (j = n) := by
          by_cases e : j = n
          · rw [decide_eq_true e, decide_eq_true (by rw [e, Int.zero_add])]
          · rw [decide_eq_false e, decide_eq_false fun z => e (by injection z with z; omega)]
        refine ⟨rfl, _, rfl, _, rfl, rfl, _, d7, ?_, ?_, ?_⟩
        · rw [List.length_map, List.length_map, List.length_range]
          exact small1000 (by omega)
        · intro b o e
          have nb : b ≠ D := fun z => by
            rw [z, hD] at e
            cases e
          rw [upd_ne nb]
          exact s7 b o e
        · rw [upd_same, edec, List.range_succ, List.map_append, List.map_append]
          rfl
      · rintro H7 ⟨s7, d7⟩
        refine ⟨by show 1 ≤ sizeLine; decide, fun l8 h8 => ?_⟩
        have nD8 : D ≠ l8 := ne_of_none d7 h8
        refine ⟨D, l8, _, _, rfl, rfl, (upd_ne nD8).trans d7, upd_same, (by rw [List.length_map, List.length_map, List.length_range]; show 14 ≤ sizeLine; decide), fun l9 h9 => ?_⟩
        have s9 := ((s7.trans (Same.newp (o := .lst [V.bl true]) h8)).trans (Same.newp (o := .lst ((((List.range 13).map fun z => decide (z = n)).map V.bl) ++ [V.bl true])) h9))
        have e9 : (((List.range 13).map fun z => decide (z = n)).map V.bl) ++ [V.bl true] = (flagsB n).map V.bl := by
          unfold flagsB
          rw [List.map_append]
          rfl
        refine ⟨.list ((flagsB n).map PyData.bool), .list ((flagsB n).map PyData.bool), .lst (SqL.of (s9 _ _ hl6)) (dps_bools _), .lst (xs := (flagsB n).map V.bl) (SqL.of (by rw [upd_same, e9])) (dps_bools _), shaped_bools _, shaped_bools _, ?_⟩
        have eq1 : PyData.eqv (.list ((flagsB n).map PyData.bool)) (.list ((flagsB n).map PyData.bool)) = true := eqv_self _ (by simp only [PyData.canLay0, lay_bools])
        rw [eq1]
        refine ⟨_, rfl, iteF ?_⟩
        exact ⟨_, _, _, _, rfl, B6.same s9⟩
    · rintro σ H4 ⟨x4, x5, x6, x7, rfl, B4⟩
      exact k H4
end
end SM
namespace SM
open PySem PySem.Spec PyProof.Rows L2
theorem all_mk {K : PySem.W.Frag} {h : Heap} {mg : Str → Option Value} (X : K.In h) (G : h.Ns mainGlobals mg)
    {f0 : Addr} {fo0 kV0 dc0 pm0 cd0 ct0 : Value} {od0 an0 : Option Addr} {sl0 : Array (Option Value)}
    {f1 : Addr} {fo1 kV1 dc1 pm1 cd1 ct1 : Value} {od1 an1 : Option Addr} {sl1 : Array (Option Value)}
    {f2 : Addr} {fo2 kV2 dc2 pm2 cd2 ct2 : Value} {od2 an2 : Option Addr} {sl2 : Array (Option Value)}
    {f3 : Addr} {fo3 kV3 dc3 pm3 cd3 ct3 : Value} {od3 an3 : Option Addr} {sl3 : Array (Option Value)}
    {f4 : Addr} {fo4 kV4 dc4 pm4 cd4 ct4 : Value} {od4 an4 : Option Addr} {sl4 : Array (Option Value)}
    {f5 : Addr} {fo5 kV5 dc5 pm5 cd5 ct5 : Value} {od5 an5 : Option Addr} {sl5 : Array (Option Value)}
    {f6 : Addr} {fo6 kV6 dc6 pm6 cd6 ct6 : Value} {od6 an6 : Option Addr} {sl6 : Array (Option Value)}
    {CM NM : Addr} {nmM qM : Str} {bsM sbM : List Value} {snM : List Str} {abM : Bool} {coM : Option Bool} {ddM : Option Addr} {mM zM yM xM wM : Option Value}
    {C0 N0 : Addr} {nm0 q0 : Str} {bs0 sb0 : List Value} {sn0 : List Str} {ab0 : Bool} {co0 : Option Bool} {dd0 : Option Addr} {m0 z0 y0 x0 w0 : Option Value}
    {C1 N1 : Addr} {nm1 q1 : Str} {bs1 sb1 : List Value} {sn1 : List Str} {ab1 : Bool} {co1 : Option Bool} {dd1 : Option Addr} {m1 z1 y1 x1 w1 : Option Value}
    {C2 N2 : Addr} {nm2 q2 : Str} {bs2 sb2 : List Value} {sn2 : List Str} {ab2 : Bool} {co2 : Option Bool} {dd2 : Option Addr} {m2 z2 y2 x2 w2 : Option Value}
    {C3 N3 : Addr} {nm3 q3 : Str} {bs3 sb3 : List Value} {sn3 : List Str} {ab3 : Bool} {co3 : Option Bool} {dd3 : Option Addr} {m3 z3 y3 x3 w3 : Option Value}
    {C4 N4 : Addr} {nm4 q4 : Str} {bs4 sb4 : List Value} {sn4 : List Str} {ab4 : Bool} {co4 : Option Bool} {dd4 : Option Addr} {m4 z4 y4 x4 w4 : Option Value}
    {C5 N5 : Addr} {nm5 q5 : Str} {bs5 sb5 : List Value} {sn5 : List Str} {ab5 : Bool} {co5 : Option Bool} {dd5 : Option Addr} {m5 z5 y5 x5 w5 : Option Value}
    {C6 N6 : Addr} {nm6 q6 : Str} {bs6 sb6 : List Value} {sn6 : List Str} {ab6 : Bool} {co6 : Option Bool} {dd6 : Option Addr} {m6 z6 y6 x6 w6 : Option Value}
    {C7 N7 : Addr} {nm7 q7 : Str} {bs7 sb7 : List Value} {sn7 : List Str} {ab7 : Bool} {co7 : Option Bool} {dd7 : Option Addr} {m7 z7 y7 x7 w7 : Option Value}
    {C8 N8 : Addr} {nm8 q8 : Str} {bs8 sb8 : List Value} {sn8 : List Str} {ab8 : Bool} {co8 : Option Bool} {dd8 : Option Addr} {m8 z8 y8 x8 w8 : Option Value}
    {C9 N9 : Addr} {nm9 q9 : Str} {bs9 sb9 : List Value} {sn9 : List Str} {ab9 : Bool} {co9 : Option Bool} {dd9 : Option Addr} {m9 z9 y9 x9 w9 : Option Value}
    {C10 N10 : Addr} {nm10 q10 : Str} {bs10 sb10 : List Value} {sn10 : List Str} {ab10 : Bool} {co10 : Option Bool} {dd10 : Option Addr} {m10 z10 y10 x10 w10 : Option Value}
    {C11 N11 : Addr} {nm11 q11 : Str} {bs11 sb11 : List Value} {sn11 : List Str} {ab11 : Bool} {co11 : Option Bool} {dd11 : Option Addr} {m11 z11 y11 x11 w11 : Option Value}
    {C12 N12 : Addr} {nm12 q12 : Str} {bs12 sb12 : List Value} {sn12 : List Str} {ab12 : Bool} {co12 : Option Bool} {dd12 : Option Addr} {m12 z12 y12 x12 w12 : Option Value}
    {g0 : Addr} {go0 gV0 gc0 gm0 gd0 gt0 : Value} {gO0 gA0 : Option Addr} {gs0 : Array (Option Value)}
    {g1 : Addr} {go1 gV1 gc1 gm1 gd1 gt1 : Value} {gO1 gA1 : Option Addr} {gs1 : Array (Option Value)}
    {g2 : Addr} {go2 gV2 gc2 gm2 gd2 gt2 : Value} {gO2 gA2 : Option Addr} {gs2 : Array (Option Value)}
    {g3 : Addr} {go3 gV3 gc3 gm3 gd3 gt3 : Value} {gO3 gA3 : Option Addr} {gs3 : Array (Option Value)}
    {g4 : Addr} {go4 gV4 gc4 gm4 gd4 gt4 : Value} {gO4 gA4 : Option Addr} {gs4 : Array (Option Value)}
    {g5 : Addr} {go5 gV5 gc5 gm5 gd5 gt5 : Value} {gO5 gA5 : Option Addr} {gs5 : Array (Option Value)}
    {g6 : Addr} {go6 gV6 gc6 gm6 gd6 gt6 : Value} {gO6 gA6 : Option Addr} {gs6 : Array (Option Value)}
    {g7 : Addr} {go7 gV7 gc7 gm7 gd7 gt7 : Value} {gO7 gA7 : Option Addr} {gs7 : Array (Option Value)}
    {g8 : Addr} {go8 gV8 gc8 gm8 gd8 gt8 : Value} {gO8 gA8 : Option Addr} {gs8 : Array (Option Value)}
    {g9 : Addr} {go9 gV9 gc9 gm9 gd9 gt9 : Value} {gO9 gA9 : Option Addr} {gs9 : Array (Option Value)}
    {g10 : Addr} {go10 gV10 gc10 gm10 gd10 gt10 : Value} {gO10 gA10 : Option Addr} {gs10 : Array (Option Value)}
    (a0 : PySem.W.nsIn K mainGlobals "_law_bag" = some (some (.ref f0)))
    (l0 : K.lookup f0 = some ⟨fo0, od0, .func (PySem.W.fnOf "_law_bag" "_law_bag" (defArgs s__law_bag) (defBody s__law_bag) (defScope s__law_bag) .none kV0 dc0 pm0 an0 cd0 ct0), sl0⟩)
    (c0 : PySem.W.codeIn K cd0 "_law_bag" = true) (k0 : PySem.W.keepIn K (.ref f0) = true)
    (a1 : PySem.W.nsIn K mainGlobals "_law_take" = some (some (.ref f1)))
    (l1 : K.lookup f1 = some ⟨fo1, od1, .func (PySem.W.fnOf "_law_take" "_law_take" (defArgs s__law_take) (defBody s__law_take) (defScope s__law_take) .none kV1 dc1 pm1 an1 cd1 ct1), sl1⟩)
    (c1 : PySem.W.codeIn K cd1 "_law_take" = true) (k1 : PySem.W.keepIn K (.ref f1) = true)
    (a2 : PySem.W.nsIn K mainGlobals "_law_raised" = some (some (.ref f2)))
    (l2 : K.lookup f2 = some ⟨fo2, od2, .func (PySem.W.fnOf "_law_raised" "_law_raised" (defArgs s__law_raised) (defBody s__law_raised) (defScope s__law_raised) .none kV2 dc2 pm2 an2 cd2 ct2), sl2⟩)
    (c2 : PySem.W.codeIn K cd2 "_law_raised" = true) (k2 : PySem.W.keepIn K (.ref f2) = true)
    (a3 : PySem.W.nsIn K mainGlobals "_law_further" = some (some (.ref f3)))
    (l3 : K.lookup f3 = some ⟨fo3, od3, .func (PySem.W.fnOf "_law_further" "_law_further" (defArgs s__law_further) (defBody s__law_further) (defScope s__law_further) .none kV3 dc3 pm3 an3 cd3 ct3), sl3⟩)
    (c3 : PySem.W.codeIn K cd3 "_law_further" = true) (k3 : PySem.W.keepIn K (.ref f3) = true)
    (a4 : PySem.W.nsIn K mainGlobals "_law_flags" = some (some (.ref f4)))
    (l4 : K.lookup f4 = some ⟨fo4, od4, .func (PySem.W.fnOf "_law_flags" "_law_flags" (defArgs s__law_flags) (defBody s__law_flags) (defScope s__law_flags) .none kV4 dc4 pm4 an4 cd4 ct4), sl4⟩)
    (c4 : PySem.W.codeIn K cd4 "_law_flags" = true) (k4 : PySem.W.keepIn K (.ref f4) = true)
    (a5 : PySem.W.nsIn K mainGlobals "_law_caught" = some (some (.ref f5)))
    (l5 : K.lookup f5 = some ⟨fo5, od5, .func (PySem.W.fnOf "_law_caught" "_law_caught" (defArgs s__law_caught) (defBody s__law_caught) (defScope s__law_caught) .none kV5 dc5 pm5 an5 cd5 ct5), sl5⟩)
    (c5 : PySem.W.codeIn K cd5 "_law_caught" = true) (k5 : PySem.W.keepIn K (.ref f5) = true)
    (a6 : PySem.W.nsIn K mainGlobals "law" = some (some (.ref f6)))
    (l6 : K.lookup f6 = some ⟨fo6, od6, .func (PySem.W.fnOf "law" "law" (defArgs s_law) (defBody s_law) (defScope s_law) .none kV6 dc6 pm6 an6 cd6 ct6), sl6⟩)
    (c6 : PySem.W.codeIn K cd6 "law" = true) (k6 : PySem.W.keepIn K (.ref f6) = true)
    (eAM : PySem.W.nsIn K mainGlobals "MainsError" = some (some (.ref CM)))
    (eLM : K.lookup CM = some (excClassObj nmM qM CM NM bsM [.type "ValueError", .type "Exception", .type "BaseException", .type "object"] true snM sbM abM coM ddM mM zM yM xM wM "ValueError.__new__"))
    (eSM : PySem.W.findIn K (.ref CM) "__setattr__" = some (some (.builtin "object.__setattr__"))) (eGM : PySem.W.findIn K (.ref CM) "__getattribute__" = some (some (.builtin "BaseException.__getattribute__")))
    (eHM : PySem.W.findIn K (.ref CM) "__getattr__" = some none) (eCM : PySem.W.findIn K (.ref CM) "__class__" = some (some (.builtin "object.__class__")))
    (eKM : PySem.W.keepIn K (.ref CM) = true) (eDM : PySem.W.hasDictIn K CM = true)
    (eA0 : PySem.W.nsIn K mainGlobals "Wrong" = some (some (.ref C0)))
    (eL0 : K.lookup C0 = some (excClassObj nm0 q0 C0 N0 bs0 (bmM CM) true sn0 sb0 ab0 co0 dd0 m0 z0 y0 x0 w0 "ValueError.__new__"))
    (eS0 : PySem.W.findIn K (.ref C0) "__setattr__" = some (some (.builtin "object.__setattr__"))) (eG0 : PySem.W.findIn K (.ref C0) "__getattribute__" = some (some (.builtin "BaseException.__getattribute__")))
    (eH0 : PySem.W.findIn K (.ref C0) "__getattr__" = some none) (eC0 : PySem.W.findIn K (.ref C0) "__class__" = some (some (.builtin "object.__class__")))
    (eK0 : PySem.W.keepIn K (.ref C0) = true) (eD0 : PySem.W.hasDictIn K C0 = true)
    (eA1 : PySem.W.nsIn K mainGlobals "There" = some (some (.ref C1)))
    (eL1 : K.lookup C1 = some (excClassObj nm1 q1 C1 N1 bs1 (bmM CM) true sn1 sb1 ab1 co1 dd1 m1 z1 y1 x1 w1 "ValueError.__new__"))
    (eS1 : PySem.W.findIn K (.ref C1) "__setattr__" = some (some (.builtin "object.__setattr__"))) (eG1 : PySem.W.findIn K (.ref C1) "__getattribute__" = some (some (.builtin "BaseException.__getattribute__")))
    (eH1 : PySem.W.findIn K (.ref C1) "__getattr__" = some none) (eC1 : PySem.W.findIn K (.ref C1) "__class__" = some (some (.builtin "object.__class__")))
    (eK1 : PySem.W.keepIn K (.ref C1) = true) (eD1 : PySem.W.hasDictIn K C1 = true)
    (eA2 : PySem.W.nsIn K mainGlobals "Lacks" = some (some (.ref C2)))
    (eL2 : K.lookup C2 = some (excClassObj nm2 q2 C2 N2 bs2 (bmM CM) true sn2 sb2 ab2 co2 dd2 m2 z2 y2 x2 w2 "ValueError.__new__"))
    (eS2 : PySem.W.findIn K (.ref C2) "__setattr__" = some (some (.builtin "object.__setattr__"))) (eG2 : PySem.W.findIn K (.ref C2) "__getattribute__" = some (some (.builtin "BaseException.__getattribute__")))
    (eH2 : PySem.W.findIn K (.ref C2) "__getattr__" = some none) (eC2 : PySem.W.findIn K (.ref C2) "__class__" = some (some (.builtin "object.__class__")))
    (eK2 : PySem.W.keepIn K (.ref C2) = true) (eD2 : PySem.W.hasDictIn K C2 = true)
    (eA3 : PySem.W.nsIn K mainGlobals "TooMany" = some (some (.ref C3)))
    (eL3 : K.lookup C3 = some (excClassObj nm3 q3 C3 N3 bs3 (bmM CM) true sn3 sb3 ab3 co3 dd3 m3 z3 y3 x3 w3 "ValueError.__new__"))
    (eS3 : PySem.W.findIn K (.ref C3) "__setattr__" = some (some (.builtin "object.__setattr__"))) (eG3 : PySem.W.findIn K (.ref C3) "__getattribute__" = some (some (.builtin "BaseException.__getattribute__")))
    (eH3 : PySem.W.findIn K (.ref C3) "__getattr__" = some none) (eC3 : PySem.W.findIn K (.ref C3) "__class__" = some (some (.builtin "object.__class__")))
    (eK3 : PySem.W.keepIn K (.ref C3) = true) (eD3 : PySem.W.hasDictIn K C3 = true)
    (eA4 : PySem.W.nsIn K mainGlobals "InUse" = some (some (.ref C4)))
    (eL4 : K.lookup C4 = some (excClassObj nm4 q4 C4 N4 bs4 (bmM CM) true sn4 sb4 ab4 co4 dd4 m4 z4 y4 x4 w4 "ValueError.__new__"))
    (eS4 : PySem.W.findIn K (.ref C4) "__setattr__" = some (some (.builtin "object.__setattr__"))) (eG4 : PySem.W.findIn K (.ref C4) "__getattribute__" = some (some (.builtin "BaseException.__getattribute__")))
    (eH4 : PySem.W.findIn K (.ref C4) "__getattr__" = some none) (eC4 : PySem.W.findIn K (.ref C4) "__class__" = some (some (.builtin "object.__class__")))
    (eK4 : PySem.W.keepIn K (.ref C4) = true) (eD4 : PySem.W.hasDictIn K C4 = true)
    (eA5 : PySem.W.nsIn K mainGlobals "Held" = some (some (.ref C5)))
    (eL5 : K.lookup C5 = some (excClassObj nm5 q5 C5 N5 bs5 (bmM CM) true sn5 sb5 ab5 co5 dd5 m5 z5 y5 x5 w5 "ValueError.__new__"))
    (eS5 : PySem.W.findIn K (.ref C5) "__setattr__" = some (some (.builtin "object.__setattr__"))) (eG5 : PySem.W.findIn K (.ref C5) "__getattribute__" = some (some (.builtin "BaseException.__getattribute__")))
    (eH5 : PySem.W.findIn K (.ref C5) "__getattr__" = some none) (eC5 : PySem.W.findIn K (.ref C5) "__class__" = some (some (.builtin "object.__class__")))
    (eK5 : PySem.W.keepIn K (.ref C5) = true) (eD5 : PySem.W.hasDictIn K C5 = true)
    (eA6 : PySem.W.nsIn K mainGlobals "Stuck" = some (some (.ref C6)))
    (eL6 : K.lookup C6 = some (excClassObj nm6 q6 C6 N6 bs6 (bmM CM) true sn6 sb6 ab6 co6 dd6 m6 z6 y6 x6 w6 "ValueError.__new__"))
    (eS6 : PySem.W.findIn K (.ref C6) "__setattr__" = some (some (.builtin "object.__setattr__"))) (eG6 : PySem.W.findIn K (.ref C6) "__getattribute__" = some (some (.builtin "BaseException.__getattribute__")))
    (eH6 : PySem.W.findIn K (.ref C6) "__getattr__" = some none) (eC6 : PySem.W.findIn K (.ref C6) "__class__" = some (some (.builtin "object.__class__")))
    (eK6 : PySem.W.keepIn K (.ref C6) = true) (eD6 : PySem.W.hasDictIn K C6 = true)
    (eA7 : PySem.W.nsIn K mainGlobals "NoPart" = some (some (.ref C7)))
    (eL7 : K.lookup C7 = some (excClassObj nm7 q7 C7 N7 bs7 (bmM CM) true sn7 sb7 ab7 co7 dd7 m7 z7 y7 x7 w7 "ValueError.__new__"))
    (eS7 : PySem.W.findIn K (.ref C7) "__setattr__" = some (some (.builtin "object.__setattr__"))) (eG7 : PySem.W.findIn K (.ref C7) "__getattribute__" = some (some (.builtin "BaseException.__getattribute__")))
    (eH7 : PySem.W.findIn K (.ref C7) "__getattr__" = some none) (eC7 : PySem.W.findIn K (.ref C7) "__class__" = some (some (.builtin "object.__class__")))
    (eK7 : PySem.W.keepIn K (.ref C7) = true) (eD7 : PySem.W.hasDictIn K C7 = true)
    (eA8 : PySem.W.nsIn K mainGlobals "NotNow" = some (some (.ref C8)))
    (eL8 : K.lookup C8 = some (excClassObj nm8 q8 C8 N8 bs8 (bmM CM) true sn8 sb8 ab8 co8 dd8 m8 z8 y8 x8 w8 "ValueError.__new__"))
    (eS8 : PySem.W.findIn K (.ref C8) "__setattr__" = some (some (.builtin "object.__setattr__"))) (eG8 : PySem.W.findIn K (.ref C8) "__getattribute__" = some (some (.builtin "BaseException.__getattribute__")))
    (eH8 : PySem.W.findIn K (.ref C8) "__getattr__" = some none) (eC8 : PySem.W.findIn K (.ref C8) "__class__" = some (some (.builtin "object.__class__")))
    (eK8 : PySem.W.keepIn K (.ref C8) = true) (eD8 : PySem.W.hasDictIn K C8 = true)
    (eA9 : PySem.W.nsIn K mainGlobals "NotDry" = some (some (.ref C9)))
    (eL9 : K.lookup C9 = some (excClassObj nm9 q9 C9 N9 bs9 (bmM CM) true sn9 sb9 ab9 co9 dd9 m9 z9 y9 x9 w9 "ValueError.__new__"))
    (eS9 : PySem.W.findIn K (.ref C9) "__setattr__" = some (some (.builtin "object.__setattr__"))) (eG9 : PySem.W.findIn K (.ref C9) "__getattribute__" = some (some (.builtin "BaseException.__getattribute__")))
    (eH9 : PySem.W.findIn K (.ref C9) "__getattr__" = some none) (eC9 : PySem.W.findIn K (.ref C9) "__class__" = some (some (.builtin "object.__class__")))
    (eK9 : PySem.W.keepIn K (.ref C9) = true) (eD9 : PySem.W.hasDictIn K C9 = true)
    (eA10 : PySem.W.nsIn K mainGlobals "Known" = some (some (.ref C10)))
    (eL10 : K.lookup C10 = some (excClassObj nm10 q10 C10 N10 bs10 (bmM CM) true sn10 sb10 ab10 co10 dd10 m10 z10 y10 x10 w10 "ValueError.__new__"))
    (eS10 : PySem.W.findIn K (.ref C10) "__setattr__" = some (some (.builtin "object.__setattr__"))) (eG10 : PySem.W.findIn K (.ref C10) "__getattribute__" = some (some (.builtin "BaseException.__getattribute__")))
    (eH10 : PySem.W.findIn K (.ref C10) "__getattr__" = some none) (eC10 : PySem.W.findIn K (.ref C10) "__class__" = some (some (.builtin "object.__class__")))
    (eK10 : PySem.W.keepIn K (.ref C10) = true) (eD10 : PySem.W.hasDictIn K C10 = true)
    (eA11 : PySem.W.nsIn K mainGlobals "NoText" = some (some (.ref C11)))
    (eL11 : K.lookup C11 = some (excClassObj nm11 q11 C11 N11 bs11 (bmM CM) true sn11 sb11 ab11 co11 dd11 m11 z11 y11 x11 w11 "ValueError.__new__"))
    (eS11 : PySem.W.findIn K (.ref C11) "__setattr__" = some (some (.builtin "object.__setattr__"))) (eG11 : PySem.W.findIn K (.ref C11) "__getattribute__" = some (some (.builtin "BaseException.__getattribute__")))
    (eH11 : PySem.W.findIn K (.ref C11) "__getattr__" = some none) (eC11 : PySem.W.findIn K (.ref C11) "__class__" = some (some (.builtin "object.__class__")))
    (eK11 : PySem.W.keepIn K (.ref C11) = true) (eD11 : PySem.W.hasDictIn K C11 = true)
    (eA12 : PySem.W.nsIn K mainGlobals "NoRow" = some (some (.ref C12)))
    (eL12 : K.lookup C12 = some (excClassObj nm12 q12 C12 N12 bs12 (bmM CM) true sn12 sb12 ab12 co12 dd12 m12 z12 y12 x12 w12 "ValueError.__new__"))
    (eS12 : PySem.W.findIn K (.ref C12) "__setattr__" = some (some (.builtin "object.__setattr__"))) (eG12 : PySem.W.findIn K (.ref C12) "__getattribute__" = some (some (.builtin "BaseException.__getattribute__")))
    (eH12 : PySem.W.findIn K (.ref C12) "__getattr__" = some none) (eC12 : PySem.W.findIn K (.ref C12) "__class__" = some (some (.builtin "object.__class__")))
    (eK12 : PySem.W.keepIn K (.ref C12) = true) (eD12 : PySem.W.hasDictIn K C12 = true)
    (nF0 : PySem.W.findIn K (.ref C0) "at" = some none)
    (iF0 : PySem.W.findIn K (.ref C0) "__init__" = some (some (.ref g0))) (iT0 : PySem.W.typeIn K (.ref g0) = some (.type "function"))
    (iL0 : K.lookup g0 = some ⟨go0, gO0, .func (PySem.W.fnOf "__init__" "Wrong.__init__" (defArgs (inClass (topS 2) 0)) (defBody (inClass (topS 2) 0)) (defScope (inClass (topS 2) 0)) .none gV0 gc0 gm0 gA0 gd0 gt0), gs0⟩)
    (iC0 : PySem.W.codeIn K gd0 "Wrong.__init__" = true) (iK0 : PySem.W.keepIn K (.ref g0) = true)
    (nF1 : PySem.W.findIn K (.ref C1) "name" = some none)
    (iF1 : PySem.W.findIn K (.ref C1) "__init__" = some (some (.ref g1))) (iT1 : PySem.W.typeIn K (.ref g1) = some (.type "function"))
    (iL1 : K.lookup g1 = some ⟨go1, gO1, .func (PySem.W.fnOf "__init__" "There.__init__" (defArgs (inClass (topS 3) 0)) (defBody (inClass (topS 3) 0)) (defScope (inClass (topS 3) 0)) .none gV1 gc1 gm1 gA1 gd1 gt1), gs1⟩)
    (iC1 : PySem.W.codeIn K gd1 "There.__init__" = true) (iK1 : PySem.W.keepIn K (.ref g1) = true)
    (nF2 : PySem.W.findIn K (.ref C2) "name" = some none)
    (iF2 : PySem.W.findIn K (.ref C2) "__init__" = some (some (.ref g2))) (iT2 : PySem.W.typeIn K (.ref g2) = some (.type "function"))
    (iL2 : K.lookup g2 = some ⟨go2, gO2, .func (PySem.W.fnOf "__init__" "Lacks.__init__" (defArgs (inClass (topS 4) 0)) (defBody (inClass (topS 4) 0)) (defScope (inClass (topS 4) 0)) .none gV2 gc2 gm2 gA2 gd2 gt2), gs2⟩)
    (iC2 : PySem.W.codeIn K gd2 "Lacks.__init__" = true) (iK2 : PySem.W.keepIn K (.ref g2) = true)
    (nF3 : PySem.W.findIn K (.ref C3) "most" = some none)
    (iF3 : PySem.W.findIn K (.ref C3) "__init__" = some (some (.ref g3))) (iT3 : PySem.W.typeIn K (.ref g3) = some (.type "function"))
    (iL3 : K.lookup g3 = some ⟨go3, gO3, .func (PySem.W.fnOf "__init__" "TooMany.__init__" (defArgs (inClass (topS 5) 0)) (defBody (inClass (topS 5) 0)) (defScope (inClass (topS 5) 0)) .none gV3 gc3 gm3 gA3 gd3 gt3), gs3⟩)
    (iC3 : PySem.W.codeIn K gd3 "TooMany.__init__" = true) (iK3 : PySem.W.keepIn K (.ref g3) = true)
    (nF4 : PySem.W.findIn K (.ref C4) "name" = some none)
    (iF4 : PySem.W.findIn K (.ref C4) "__init__" = some (some (.ref g4))) (iT4 : PySem.W.typeIn K (.ref g4) = some (.type "function"))
    (iL4 : K.lookup g4 = some ⟨go4, gO4, .func (PySem.W.fnOf "__init__" "InUse.__init__" (defArgs (inClass (topS 6) 0)) (defBody (inClass (topS 6) 0)) (defScope (inClass (topS 6) 0)) .none gV4 gc4 gm4 gA4 gd4 gt4), gs4⟩)
    (iC4 : PySem.W.codeIn K gd4 "InUse.__init__" = true) (iK4 : PySem.W.keepIn K (.ref g4) = true)
    (nF5 : PySem.W.findIn K (.ref C5) "hands" = some none)
    (iF5 : PySem.W.findIn K (.ref C5) "__init__" = some (some (.ref g5))) (iT5 : PySem.W.typeIn K (.ref g5) = some (.type "function"))
    (iL5 : K.lookup g5 = some ⟨go5, gO5, .func (PySem.W.fnOf "__init__" "Held.__init__" (defArgs (inClass (topS 7) 0)) (defBody (inClass (topS 7) 0)) (defScope (inClass (topS 7) 0)) .none gV5 gc5 gm5 gA5 gd5 gt5), gs5⟩)
    (iC5 : PySem.W.codeIn K gd5 "Held.__init__" = true) (iK5 : PySem.W.keepIn K (.ref g5) = true)
    (nF6 : PySem.W.findIn K (.ref C6) "name" = some none)
    (iF6 : PySem.W.findIn K (.ref C6) "__init__" = some (some (.ref g6))) (iT6 : PySem.W.typeIn K (.ref g6) = some (.type "function"))
    (iL6 : K.lookup g6 = some ⟨go6, gO6, .func (PySem.W.fnOf "__init__" "Stuck.__init__" (defArgs (inClass (topS 8) 0)) (defBody (inClass (topS 8) 0)) (defScope (inClass (topS 8) 0)) .none gV6 gc6 gm6 gA6 gd6 gt6), gs6⟩)
    (iC6 : PySem.W.codeIn K gd6 "Stuck.__init__" = true) (iK6 : PySem.W.keepIn K (.ref g6) = true)
    (nF7 : PySem.W.findIn K (.ref C7) "way" = some none)
    (iF7 : PySem.W.findIn K (.ref C7) "__init__" = some (some (.ref g7))) (iT7 : PySem.W.typeIn K (.ref g7) = some (.type "function"))
    (iL7 : K.lookup g7 = some ⟨go7, gO7, .func (PySem.W.fnOf "__init__" "NoPart.__init__" (defArgs (inClass (topS 9) 0)) (defBody (inClass (topS 9) 0)) (defScope (inClass (topS 9) 0)) .none gV7 gc7 gm7 gA7 gd7 gt7), gs7⟩)
    (iC7 : PySem.W.codeIn K gd7 "NoPart.__init__" = true) (iK7 : PySem.W.keepIn K (.ref g7) = true)
    (nF8 : PySem.W.findIn K (.ref C8) "job" = some none)
    (iF8 : PySem.W.findIn K (.ref C8) "__init__" = some (some (.ref g8))) (iT8 : PySem.W.typeIn K (.ref g8) = some (.type "function"))
    (iL8 : K.lookup g8 = some ⟨go8, gO8, .func (PySem.W.fnOf "__init__" "NotNow.__init__" (defArgs (inClass (topS 10) 0)) (defBody (inClass (topS 10) 0)) (defScope (inClass (topS 10) 0)) .none gV8 gc8 gm8 gA8 gd8 gt8), gs8⟩)
    (iC8 : PySem.W.codeIn K gd8 "NotNow.__init__" = true) (iK8 : PySem.W.keepIn K (.ref g8) = true)
    (nF9 : PySem.W.findIn K (.ref C9) "damp" = some none)
    (iF9 : PySem.W.findIn K (.ref C9) "__init__" = some (some (.ref g9))) (iT9 : PySem.W.typeIn K (.ref g9) = some (.type "function"))
    (iL9 : K.lookup g9 = some ⟨go9, gO9, .func (PySem.W.fnOf "__init__" "NotDry.__init__" (defArgs (inClass (topS 11) 0)) (defBody (inClass (topS 11) 0)) (defScope (inClass (topS 11) 0)) .none gV9 gc9 gm9 gA9 gd9 gt9), gs9⟩)
    (iC9 : PySem.W.codeIn K gd9 "NotDry.__init__" = true) (iK9 : PySem.W.keepIn K (.ref g9) = true)
    (nF10 : PySem.W.findIn K (.ref C10) "number" = some none)
    (iF10 : PySem.W.findIn K (.ref C10) "__init__" = some (some (.ref g10))) (iT10 : PySem.W.typeIn K (.ref g10) = some (.type "function"))
    (iL10 : K.lookup g10 = some ⟨go10, gO10, .func (PySem.W.fnOf "__init__" "Known.__init__" (defArgs (inClass (topS 12) 0)) (defBody (inClass (topS 12) 0)) (defScope (inClass (topS 12) 0)) .none gV10 gc10 gm10 gA10 gd10 gt10), gs10⟩)
    (iC10 : PySem.W.codeIn K gd10 "Known.__init__" = true) (iK10 : PySem.W.keepIn K (.ref g10) = true)
    (xX11 : PySem.W.excIn K C11 [.type "ValueError", .type "Exception", .type "BaseException", .type "object"] "ValueError.__new__" = true)
    (xX12 : PySem.W.excIn K C12 [.type "ValueError", .type "Exception", .type "BaseException", .type "object"] "ValueError.__new__" = true)
    (z_len : PySem.W.nsIn K mainGlobals "len" = some none)
    (z_abs : PySem.W.nsIn K mainGlobals "abs" = some none)
    (z_range : PySem.W.nsIn K mainGlobals "range" = some none)
    (z_isinstance : PySem.W.nsIn K mainGlobals "isinstance" = some none)
    (z_ValueError : PySem.W.nsIn K mainGlobals "ValueError" = some none)
    (gS : PySem.W.specialIn K (.builtin "object.__class__") "__get__" = some (some (.builtin "getset_descriptor.__get__"))) (gT : PySem.W.takesIn K (.builtin "object.__class__") = some true)
    (nD : ([CM, C0, C1, C2, C3, C4, C5, C6, C7, C8, C9, C10, C11, C12] : List Addr).Nodup) :
    ∃ (C : Nat → Addr) (M : Addr), Tx K mg C M := by
  refine ⟨fun n => ([C0, C1, C2, C3, C4, C5, C6, C7, C8, C9, C10, C11, C12] : List Addr).getD n 0, CM, ?_⟩
  exact
    { d_bag := ⟨f0, _, fun_mk (st := s__law_bag) l0 c0 k0, PySem.W.mg_of X G a0⟩
      d_take := ⟨f1, _, fun_mk (st := s__law_take) l1 c1 k1, PySem.W.mg_of X G a1⟩
      d_raised := ⟨f2, _, fun_mk (st := s__law_raised) l2 c2 k2, PySem.W.mg_of X G a2⟩
      d_further := ⟨f3, _, fun_mk (st := s__law_further) l3 c3 k3, PySem.W.mg_of X G a3⟩
      d_flags := ⟨f4, _, fun_mk (st := s__law_flags) l4 c4 k4, PySem.W.mg_of X G a4⟩
      d_caught := ⟨f5, _, fun_mk (st := s__law_caught) l5 c5 k5, PySem.W.mg_of X G a5⟩
      d_law := ⟨f6, _, fun_mk (st := s_law) l6 c6 k6, PySem.W.mg_of X G a6⟩
      b_len := PySem.W.mg_none_of X G z_len
      b_abs := PySem.W.mg_none_of X G z_abs
      b_range := PySem.W.mg_none_of X G z_range
      b_isinstance := PySem.W.mg_none_of X G z_isinstance
      b_ValueError := PySem.W.mg_none_of X G z_ValueError
      gM := PySem.W.mg_of X G eAM
      eM := ⟨⟨_, _, _, _, _, _, _, _, _, _, _, _, _, _, eLM⟩, by decide +kernel, eSM, eGM, eHM, eCM, eKM, eDM⟩
      e := fun n hn => match n, hn with
      | 0, _ => ⟨⟨_, _, _, _, _, _, _, _, _, _, _, _, _, _, eL0⟩, rfl, eS0, eG0, eH0, eC0, eK0, eD0⟩
      | 1, _ => ⟨⟨_, _, _, _, _, _, _, _, _, _, _, _, _, _, eL1⟩, rfl, eS1, eG1, eH1, eC1, eK1, eD1⟩
      | 2, _ => ⟨⟨_, _, _, _, _, _, _, _, _, _, _, _, _, _, eL2⟩, rfl, eS2, eG2, eH2, eC2, eK2, eD2⟩
      | 3, _ => ⟨⟨_, _, _, _, _, _, _, _, _, _, _, _, _, _, eL3⟩, rfl, eS3, eG3, eH3, eC3, eK3, eD3⟩
      | 4, _ => ⟨⟨_, _, _, _, _, _, _, _, _, _, _, _, _, _, eL4⟩, rfl, eS4, eG4, eH4, eC4, eK4, eD4⟩
      | 5, _ => ⟨⟨_, _, _, _, _, _, _, _, _, _, _, _, _, _, eL5⟩, rfl, eS5, eG5, eH5, eC5, eK5, eD5⟩
      | 6, _ => ⟨⟨_, _, _, _, _, _, _, _, _, _, _, _, _, _, eL6⟩, rfl, eS6, eG6, eH6, eC6, eK6, eD6⟩
      | 7, _ => ⟨⟨_, _, _, _, _, _, _, _, _, _, _, _, _, _, eL7⟩, rfl, eS7, eG7, eH7, eC7, eK7, eD7⟩
      | 8, _ => ⟨⟨_, _, _, _, _, _, _, _, _, _, _, _, _, _, eL8⟩, rfl, eS8, eG8, eH8, eC8, eK8, eD8⟩
      | 9, _ => ⟨⟨_, _, _, _, _, _, _, _, _, _, _, _, _, _, eL9⟩, rfl, eS9, eG9, eH9, eC9, eK9, eD9⟩
      | 10, _ => ⟨⟨_, _, _, _, _, _, _, _, _, _, _, _, _, _, eL10⟩, rfl, eS10, eG10, eH10, eC10, eK10, eD10⟩
      | 11, _ => ⟨⟨_, _, _, _, _, _, _, _, _, _, _, _, _, _, eL11⟩, rfl, eS11, eG11, eH11, eC11, eK11, eD11⟩
      | 12, _ => ⟨⟨_, _, _, _, _, _, _, _, _, _, _, _, _, _, eL12⟩, rfl, eS12, eG12, eH12, eC12, eK12, eD12⟩
      | n + 13, hn => absurd hn (by omega)
      g0 := PySem.W.mg_of X G eA0
      n0 := nF0
      t0 := ⟨g0, _, fun_mk (st := (inClass (topS 2) 0)) iL0 iC0 iK0, iF0, iT0⟩
      g1 := PySem.W.mg_of X G eA1
      n1 := nF1
      t1 := ⟨g1, _, fun_mk (st := (inClass (topS 3) 0)) iL1 iC1 iK1, iF1, iT1⟩
      g2 := PySem.W.mg_of X G eA2
      n2 := nF2
      t2 := ⟨g2, _, fun_mk (st := (inClass (topS 4) 0)) iL2 iC2 iK2, iF2, iT2⟩
      g3 := PySem.W.mg_of X G eA3
      n3 := nF3
      t3 := ⟨g3, _, fun_mk (st := (inClass (topS 5) 0)) iL3 iC3 iK3, iF3, iT3⟩
      g4 := PySem.W.mg_of X G eA4
      n4 := nF4
      t4 := ⟨g4, _, fun_mk (st := (inClass (topS 6) 0)) iL4 iC4 iK4, iF4, iT4⟩
      g5 := PySem.W.mg_of X G eA5
      n5 := nF5
      t5 := ⟨g5, _, fun_mk (st := (inClass (topS 7) 0)) iL5 iC5 iK5, iF5, iT5⟩
      g6 := PySem.W.mg_of X G eA6
      n6 := nF6
      t6 := ⟨g6, _, fun_mk (st := (inClass (topS 8) 0)) iL6 iC6 iK6, iF6, iT6⟩
      g7 := PySem.W.mg_of X G eA7
      n7 := nF7
      t7 := ⟨g7, _, fun_mk (st := (inClass (topS 9) 0)) iL7 iC7 iK7, iF7, iT7⟩
      g8 := PySem.W.mg_of X G eA8
      n8 := nF8
      t8 := ⟨g8, _, fun_mk (st := (inClass (topS 10) 0)) iL8 iC8 iK8, iF8, iT8⟩
      g9 := PySem.W.mg_of X G eA9
      n9 := nF9
      t9 := ⟨g9, _, fun_mk (st := (inClass (topS 11) 0)) iL9 iC9 iK9, iF9, iT9⟩
      g10 := PySem.W.mg_of X G eA10
      n10 := nF10
      t10 := ⟨g10, _, fun_mk (st := (inClass (topS 12) 0)) iL10 iC10 iK10, iF10, iT10⟩
      g11 := PySem.W.mg_of X G eA11
      x11 := xX11
      g12 := PySem.W.mg_of X G eA12
      x12 := xX12
      gc := ⟨gS, gT⟩
      nd := nD }
end SM
open PySem PySem.W PyProof.Rows
set_option maxRecDepth 100000 in
set_option maxHeartbeats 0 in
theorem PySem.Challenge.cw_stillmain_k13_refusals_apart_holds : PySem.Challenge.rw_stillmain_k13_refusals_apart.Holds := by
  w_on; o_law; k_head; (case hw => w_witness2)
  k_fill
  refine SM.walkG (l := PySem.Challenge.rw_stillmain_k13_refusals_apart) (n := 63) (k := 6) (x := "_law_script") (sp := SM.spLaw) rfl (by decide) rfl ⟨rfl, by decide, by decide⟩ (fun w h Y => PySem.W.kIn_of Y) ?F (fun K H a ns hl hS => ⟨a, ns, rfl, hS, hl, fun _ => rfl⟩)
  case F =>
    intro w mg fa h KX G hmg base hKb hNb
    suffices T : ∃ (C : Nat → Addr) (M : Addr), SM.Tx _ mg C M from by
      obtain ⟨C, M, T⟩ := T
      exact (SM.ok_law T).q
    refine' SM.all_mk KX G ?a0 ?l0 ?c0 ?k0 ?a1 ?l1 ?c1 ?k1 ?a2 ?l2 ?c2 ?k2 ?a3 ?l3 ?c3 ?k3 ?a4 ?l4 ?c4 ?k4 ?a5 ?l5 ?c5 ?k5 ?a6 ?l6 ?c6 ?k6 ?eAM ?eLM ?eSM ?eGM ?eHM ?eCM ?eKM ?eDM ?eA0 ?eL0 ?eS0 ?eG0 ?eH0 ?eC0 ?eK0 ?eD0 ?eA1 ?eL1 ?eS1 ?eG1 ?eH1 ?eC1 ?eK1 ?eD1 ?eA2 ?eL2 ?eS2 ?eG2 ?eH2 ?eC2 ?eK2 ?eD2 ?eA3 ?eL3 ?eS3 ?eG3 ?eH3 ?eC3 ?eK3 ?eD3 ?eA4 ?eL4 ?eS4 ?eG4 ?eH4 ?eC4 ?eK4 ?eD4 ?eA5 ?eL5 ?eS5 ?eG5 ?eH5 ?eC5 ?eK5 ?eD5 ?eA6 ?eL6 ?eS6 ?eG6 ?eH6 ?eC6 ?eK6 ?eD6 ?eA7 ?eL7 ?eS7 ?eG7 ?eH7 ?eC7 ?eK7 ?eD7 ?eA8 ?eL8 ?eS8 ?eG8 ?eH8 ?eC8 ?eK8 ?eD8 ?eA9 ?eL9 ?eS9 ?eG9 ?eH9 ?eC9 ?eK9 ?eD9 ?eA10 ?eL10 ?eS10 ?eG10 ?eH10 ?eC10 ?eK10 ?eD10 ?eA11 ?eL11 ?eS11 ?eG11 ?eH11 ?eC11 ?eK11 ?eD11 ?eA12 ?eL12 ?eS12 ?eG12 ?eH12 ?eC12 ?eK12 ?eD12 ?nF0 ?iF0 ?iT0 ?iL0 ?iC0 ?iK0 ?nF1 ?iF1 ?iT1 ?iL1 ?iC1 ?iK1 ?nF2 ?iF2 ?iT2 ?iL2 ?iC2 ?iK2 ?nF3 ?iF3 ?iT3 ?iL3 ?iC3 ?iK3 ?nF4 ?iF4 ?iT4 ?iL4 ?iC4 ?iK4 ?nF5 ?iF5 ?iT5 ?iL5 ?iC5 ?iK5 ?nF6 ?iF6 ?iT6 ?iL6 ?iC6 ?iK6 ?nF7 ?iF7 ?iT7 ?iL7 ?iC7 ?iK7 ?nF8 ?iF8 ?iT8 ?iL8 ?iC8 ?iK8 ?nF9 ?iF9 ?iT9 ?iL9 ?iC9 ?iK9 ?nF10 ?iF10 ?iT10 ?iL10 ?iC10 ?iK10 ?xX11 ?xX12 ?z_len ?z_abs ?z_range ?z_isinstance ?z_ValueError ?gS ?gT ?nD
    (case a0 => k_is)
    (case l0 => k_is)
    (case c0 => k_is)
    (case k0 => k_is)
    (case a1 => k_is)
    (case l1 => k_is)
    (case c1 => k_is)
    (case k1 => k_is)
    (case a2 => k_is)
    (case l2 => k_is)
    (case c2 => k_is)
    (case k2 => k_is)
    (case a3 => k_is)
    (case l3 => k_is)
    (case c3 => k_is)
    (case k3 => k_is)
    (case a4 => k_is)
    (case l4 => k_is)
    (case c4 => k_is)
    (case k4 => k_is)
    (case a5 => k_is)
    (case l5 => k_is)
    (case c5 => k_is)
    (case k5 => k_is)
    (case a6 => k_is)
    (case l6 => k_is)
    (case c6 => k_is)
    (case k6 => k_is)
    (case eAM => k_is)
    (case eLM => k_is)
    (case eSM => k_is)
    (case eGM => k_is)
    (case eHM => k_is)
    (case eCM => k_is)
    (case eKM => k_is)
    (case eDM => k_is)
    (case eA0 => k_is)
    (case eL0 => k_is)
    (case eS0 => k_is)
    (case eG0 => k_is)
    (case eH0 => k_is)
    (case eC0 => k_is)
    (case eK0 => k_is)
    (case eD0 => k_is)
    (case eA1 => k_is)
    (case eL1 => k_is)
    (case eS1 => k_is)
    (case eG1 => k_is)
    (case eH1 => k_is)
    (case eC1 => k_is)
    (case eK1 => k_is)
    (case eD1 => k_is)
    (case eA2 => k_is)
    (case eL2 => k_is)
    (case eS2 => k_is)
    (case eG2 => k_is)
    (case eH2 => k_is)
    (case eC2 => k_is)
    (case eK2 => k_is)
    (case eD2 => k_is)
    (case eA3 => k_is)
    (case eL3 => k_is)
    (case eS3 => k_is)
    (case eG3 => k_is)
    (case eH3 => k_is)
    (case eC3 => k_is)
    (case eK3 => k_is)
    (case eD3 => k_is)
    (case eA4 => k_is)
    (case eL4 => k_is)
    (case eS4 => k_is)
    (case eG4 => k_is)
    (case eH4 => k_is)
    (case eC4 => k_is)
    (case eK4 => k_is)
    (case eD4 => k_is)
    (case eA5 => k_is)
    (case eL5 => k_is)
    (case eS5 => k_is)
    (case eG5 => k_is)
    (case eH5 => k_is)
    (case eC5 => k_is)
    (case eK5 => k_is)
    (case eD5 => k_is)
    (case eA6 => k_is)
    (case eL6 => k_is)
    (case eS6 => k_is)
    (case eG6 => k_is)
    (case eH6 => k_is)
    (case eC6 => k_is)
    (case eK6 => k_is)
    (case eD6 => k_is)
    (case eA7 => k_is)
    (case eL7 => k_is)
    (case eS7 => k_is)
    (case eG7 => k_is)
    (case eH7 => k_is)
    (case eC7 => k_is)
    (case eK7 => k_is)
    (case eD7 => k_is)
    (case eA8 => k_is)
    (case eL8 => k_is)
    (case eS8 => k_is)
    (case eG8 => k_is)
    (case eH8 => k_is)
    (case eC8 => k_is)
    (case eK8 => k_is)
    (case eD8 => k_is)
    (case eA9 => k_is)
    (case eL9 => k_is)
    (case eS9 => k_is)
    (case eG9 => k_is)
    (case eH9 => k_is)
    (case eC9 => k_is)
    (case eK9 => k_is)
    (case eD9 => k_is)
    (case eA10 => k_is)
    (case eL10 => k_is)
    (case eS10 => k_is)
    (case eG10 => k_is)
    (case eH10 => k_is)
    (case eC10 => k_is)
    (case eK10 => k_is)
    (case eD10 => k_is)
    (case eA11 => k_is)
    (case eL11 => k_is)
    (case eS11 => k_is)
    (case eG11 => k_is)
    (case eH11 => k_is)
    (case eC11 => k_is)
    (case eK11 => k_is)
    (case eD11 => k_is)
    (case eA12 => k_is)
    (case eL12 => k_is)
    (case eS12 => k_is)
    (case eG12 => k_is)
    (case eH12 => k_is)
    (case eC12 => k_is)
    (case eK12 => k_is)
    (case eD12 => k_is)
    (case nF0 => k_is)
    (case iF0 => k_is)
    (case iT0 => k_is)
    (case iL0 => k_is)
    (case iC0 => k_is)
    (case iK0 => k_is)
    (case nF1 => k_is)
    (case iF1 => k_is)
    (case iT1 => k_is)
    (case iL1 => k_is)
    (case iC1 => k_is)
    (case iK1 => k_is)
    (case nF2 => k_is)
    (case iF2 => k_is)
    (case iT2 => k_is)
    (case iL2 => k_is)
    (case iC2 => k_is)
    (case iK2 => k_is)
    (case nF3 => k_is)
    (case iF3 => k_is)
    (case iT3 => k_is)
    (case iL3 => k_is)
    (case iC3 => k_is)
    (case iK3 => k_is)
    (case nF4 => k_is)
    (case iF4 => k_is)
    (case iT4 => k_is)
    (case iL4 => k_is)
    (case iC4 => k_is)
    (case iK4 => k_is)
    (case nF5 => k_is)
    (case iF5 => k_is)
    (case iT5 => k_is)
    (case iL5 => k_is)
    (case iC5 => k_is)
    (case iK5 => k_is)
    (case nF6 => k_is)
    (case iF6 => k_is)
    (case iT6 => k_is)
    (case iL6 => k_is)
    (case iC6 => k_is)
    (case iK6 => k_is)
    (case nF7 => k_is)
    (case iF7 => k_is)
    (case iT7 => k_is)
    (case iL7 => k_is)
    (case iC7 => k_is)
    (case iK7 => k_is)
    (case nF8 => k_is)
    (case iF8 => k_is)
    (case iT8 => k_is)
    (case iL8 => k_is)
    (case iC8 => k_is)
    (case iK8 => k_is)
    (case nF9 => k_is)
    (case iF9 => k_is)
    (case iT9 => k_is)
    (case iL9 => k_is)
    (case iC9 => k_is)
    (case iK9 => k_is)
    (case nF10 => k_is)
    (case iF10 => k_is)
    (case iT10 => k_is)
    (case iL10 => k_is)
    (case iC10 => k_is)
    (case iK10 => k_is)
    (case xX11 => k_exc)
    (case xX12 => k_exc)
    (case z_len => k_is)
    (case z_abs => k_is)
    (case z_range => k_is)
    (case z_isinstance => k_is)
    (case z_ValueError => k_is)
    (case gS => k_is)
    (case gT => k_is)
    (case nD => decide)
