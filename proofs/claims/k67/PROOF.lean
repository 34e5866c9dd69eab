import PyProof.Rows.All
import Wide.All
import OpenK.AllK
import Wide.FinOn
import KE.KLam
import HandS.ForMost
import HandS.Codes
import HandS.Lambda
import HandS.Nested
import HandS.NestedK
import HandS.CallLocal
import KE.DatumOrd
import HandS.Rev
import HandS.SortInts
import KE.SortData
import HandS.SortKw
import KE.KDictLaws
import HandS.SetKeys
import HandS.Wide
import HandS.WideMore
import HandS.Conv
import HandS.IsInst
import HandS.WrittenGet
import HandS.HeadHook4
import HandS.HeadWalk
import HandS.Defaults
import HandS.TupSets
import KE.KeyNested
import HandS.OwnEq
import HandS.Deep
import HandS.DictTup
import PyProof.DictMoreH
import PySem.Challenge.RW_parley_k67_least_stuck_and_looping_trace
import HandS.Walk
import HandS.ExcOwn
import HandS.TryOnly
import HandS.HeadHook1
import HandS.Style
import HandS.Strs
import KE.DataCmp
import HandS.DictComp
import HandS.TupAny
import KE.SortKeyHeap
import HandS.Exc
import PyProof.TupleOfSeq
import KE.GoesEnumKw
import KE.KDictKeyed
import HandS.TupLen
import KE.KDictDisplayH
import HandS.Text
import HandS.More
import HandS.HeadHook3
import KE.KDictWalk
import HandS.ExcInit
import HandS.ExcField
import HandS.ClsMeth
import HandS.FStr
import HandS.TryMany
import HandS.Call
import KE.KSortKey
import KE.SortKeyed
import KE.KDictSum
import HandS.Flow
import PyProof.AutoSeq1
import HandS.Head0
import HandS.Head1
import HandS.Head2
import HandS.HeadEnd
import HandS.HeadHook2
set_option Elab.async false
set_option linter.all false
set_option maxRecDepth 100000
set_option maxHeartbeats 4000000
namespace VA
open PySem PySem.Spec PyProof.Rows L2 LamX NdefX
/-! lambdas as made functions: F's statements are not used, b is the expression -/
def LamO (f : Addr) (F : NF) (b : Expr) : HO :=
  .ext fun h => ∃ (od : Option Addr) (sl : Array (Option Value)) (pm ctv : Value),
    h.get? f = some (⟨.type "function", od, .func (PySem.W.kla_fn F.name F.qual F.params b F.scope F.cl pm (.ref F.c) ctv), sl⟩ : Obj)
theorem lamO_at {P : Program} {w : World} {H : Hp} {h : Heap} {f : Addr} {F : NF} {b : Expr}
    (hok : HOk P w H h) (e : H f = some (LamO f F b)) :
    ∃ (od : Option Addr) (sl : Array (Option Value)) (pm ctv : Value),
      h.get? f = some (⟨.type "function", od, .func (PySem.W.kla_fn F.name F.qual F.params b F.scope F.cl pm (.ref F.c) ctv), sl⟩ : Obj) := by
  have z := hok f _ e
  exact z.1
abbrev lamF (q : Str) (params : Arguments) (scope : Scope) (cl : List (Str × Addr)) (c : Addr) : NF :=
  ⟨"<lambda>", q, params, [], scope, cl, c⟩
section
variable {X : Cx} {pins : List (Addr × Obj)} {σ : L2.St} {H : Hp} {s : Shared}
theorem inv_lam {F : NF} {b : Expr} {o : Obj} {t' : Nat} {pm ctv : Value} (I : Inv X pins σ H s)
    (ho : o = { cls := .type "function", data := .func (PySem.W.kla_fn F.name F.qual F.params b F.scope F.cl pm (.ref F.c) ctv) }) :
    Inv X pins σ (upd H s.heap.objs.size (LamO s.heap.objs.size F b)) { s with heap := s.heap.push o, toks := t' } := by
  subst ho
  have e : (s.heap.push ({ cls := .type "function", data := .func (PySem.W.kla_fn F.name F.qual F.params b F.scope F.cl pm (.ref F.c) ctv) } : Obj)).get? s.heap.objs.size
      = some ({ cls := .type "function", data := .func (PySem.W.kla_fn F.name F.qual F.params b F.scope F.cl pm (.ref F.c) ctv) } : Obj) :=
    Heap.get?_push_size _ rfl
  refine I.laid (a := s.heap.objs.size) (fun b u q => Heap.get?_push_of_some _ q) (Nat.le_refl _) ⟨⟨_, _, pm, ctv, e⟩, ⟨_, e⟩, ?_⟩
  rintro h1 h2 ⟨od, sl, p, t, z⟩ st
  exact ⟨od, sl, p, t, st _ z⟩
theorem lam_mk {T : List (Addr × Str)} {c P : Addr} {params : Arguments} {body : Expr} {scope : Scope} {pos : Pos}
    {E : Value → Shared → Prop} {Q : Value → Shared → Prop} (I : Inv X pins σ H s) (TB : TabB X.base X.mg c P)
    (hcode : X.env.code = .ref c) (hm : (P, X.env.qual ++ "<lambda>") ∈ T)
    (hu : ∀ p ∈ T, p.1 = P → p.2 = X.env.qual ++ "<lambda>") (hT : Tabs T H)
    (hdef : defaultsOf params X.env = ([], []))
    (hfree : ∀ y ∈ scope.names, y.2 = .free → ∃ c, X.env.cells.lookup y.1 = some c)
    (h : ∀ (f c' : Addr) (H1 : Hp) (s' : Shared), Inv X pins σ H1 s' → ExtN H H1 → (∀ b, H1 b = Option.none → H b = Option.none) →
      Tabs T H1 → H f = none →
      H1 f = some (LamO f (lamF (X.env.qual ++ "<lambda>") params scope (cloFrom X.env.cells scope.names []) c') body) →
      H1 c' = some (CodeO c' (X.env.qual ++ "<lambda>")) → Q (.ref f) s') :
    wpAny (model X.prog X.w) X.A (eval (.Lambda params body scope pos) X.env) Q E s := by
  obtain ⟨ps, hP, ht, ha⟩ := hT _ hm
  refine PySem.W.kla_eval hdef ?_
  have bP : s.heap.BuiltinsAt X.mg P := TB.bm.keeps I.bk
  have hP' : s.heap.get? P = some { cls := .none, data := .fields ps } := I.hok P _ hP
  cases hc : codeAmong pos ps.toList with
  | none =>
    refine PySem.W.kla_makeFunction (mg := X.mg) (c := c) (P := P) (ps := ps) (closure_ok hfree) I.ok.glob (I.mod.glob.keeps I.bk)
      hcode (TB.code.keeps I.bk) hP' ht hc TB.gP bP ?_
    rintro c' ctv h' tk hx hge hlt ⟨c2, oc, vs, t, e2, hoc, hd, hv⟩ htb
    cases e2
    have nC : H c' = none := I.hok.fresh hge
    have I1 := inv_table (t' := tk) (q := X.env.qual ++ "<lambda>") (more := #[rawInt pos.line, rawInt pos.col, .ref c']) (h' := h')
      I hP (fun b o hb e => hx b o hb e) htb hge ⟨oc, vs, t, hoc, hd, hv⟩
    have hE : ExtN H (upd (upd H P (.tbl (ps ++ #[rawInt pos.line, rawInt pos.col, .ref c']))) c' (CodeO c' (X.env.qual ++ "<lambda>"))) := by
      intro b o e n
      have n1 : b ≠ P := fun z => n ps (Option.some.inj (e.symm.trans (by rw [z]; exact hP)))
      rw [upd_ne (ne_of_none e nC), upd_ne n1, e]
    have eL : (ps ++ #[rawInt pos.line, rawInt pos.col, .ref c']).toList = ps.toList ++ [rawInt pos.line, rawInt pos.col, .ref c'] := by simp
    have T1 : Tabs T (upd (upd H P (.tbl (ps ++ #[rawInt pos.line, rawInt pos.col, .ref c']))) c' (CodeO c' (X.env.qual ++ "<lambda>"))) := by
      intro p hp
      by_cases hb : p.1 = P
      · rw [hu p hp hb, hb]
        refine ⟨_, by rw [upd_ne (ne_of_none hP nC), upd_same], by rw [eL]; exact PySem.TriplesOk_snoc _ _ _ _ ht, fun p' cv hcv => ?_⟩
        rw [eL] at hcv
        rcases among_app _ ht hcv with z | z
        · obtain ⟨c0, e1, e2⟩ := ha p' cv z
          exact ⟨c0, e1, hE _ _ e2 codeO_ne⟩
        · exact ⟨c', z, upd_same⟩
      · obtain ⟨ps', a1, a2, a3⟩ := hT p hp
        refine ⟨ps', ?_, a2, fun p' cv hcv => ?_⟩
        · rw [upd_ne (ne_of_none a1 nC), upd_ne hb, a1]
        · obtain ⟨c0, e1, e2⟩ := a3 p' cv hcv
          exact ⟨c0, e1, hE _ _ e2 codeO_ne⟩
    have nF := I1.hok.fresh (Nat.le_refl _)
    have I2 := inv_lam (F := lamF (X.env.qual ++ "<lambda>") params scope (cloFrom X.env.cells scope.names []) c') (b := body) (t' := tk)
      (pm := (X.mg "__name__").getD .none) (ctv := ctv) I1 rfl
    refine h h'.objs.size c' _ _ I2 ?_ (fun b e => upd_none (upd_none (upd_none e))) (T1.ext fun b o e => ?_)
      (I.hok.fresh (Nat.le_trans hge (Nat.le_of_lt hlt))) upd_same ?_
    · intro b o e n
      have e1 := hE b o e n
      exact (upd_ne (ne_of_none e1 nF)).trans e1
    · exact (upd_ne (ne_of_none e nF)).trans e
    · exact (upd_ne (Nat.ne_of_lt hlt)).trans upd_same
  | some cv =>
    obtain ⟨c', e, hco⟩ := ha pos cv hc
    subst e
    refine PySem.W.kla_makeFunctionHit (mg := X.mg) (c := c) (P := P) (ps := ps) (closure_ok hfree) I.ok.glob (I.mod.glob.keeps I.bk)
      hcode (TB.code.keeps I.bk) hP' ht hc bP ?_
    intro ctv h' tk hx hsz
    have I1 : Inv X pins σ H { s with heap := h', toks := tk } := I.kept hx
    have nF : H h'.objs.size = none := I1.hok.fresh (Nat.le_refl _)
    have I2 := inv_lam (F := lamF (X.env.qual ++ "<lambda>") params scope (cloFrom X.env.cells scope.names []) c') (b := body) (t' := tk)
      (pm := (X.mg "__name__").getD .none) (ctv := ctv) I1 rfl
    refine h h'.objs.size c' _ _ I2 ?_ (fun b e => upd_none e) (hT.ext fun b o e => ?_) nF upd_same ?_
    · intro b o e n
      exact (upd_ne (ne_of_none e nF)).trans e
    · exact (upd_ne (ne_of_none e nF)).trans e
    · exact (upd_ne (ne_of_none hco nF)).trans hco
/-- the reading of «lambda ..: b» as a value -/
def tLam (T : List (Addr × Str)) (mk : Addr → NF) (b : Expr) : TE := fun σ H Q => Tabs T H ∧
  ∀ (f c' : Addr) (H1 : Hp), ExtN H H1 → (∀ b, H1 b = Option.none → H b = Option.none) → Tabs T H1 → H f = none →
    H1 f = some (LamO f (mk c') b) → H1 c' = some (CodeO c' (mk c').qual) → Q (.ref f) H1
theorem pe_lam {T : List (Addr × Str)} {c P : Addr} {params : Arguments} {body : Expr} {scope : Scope} {pos : Pos}
    (TB : TabB X.base X.mg c P) (hcode : X.env.code = .ref c) (hm : (P, X.env.qual ++ "<lambda>") ∈ T)
    (hu : ∀ p ∈ T, p.1 = P → p.2 = X.env.qual ++ "<lambda>") (hdef : defaultsOf params X.env = ([], []))
    (hfree : ∀ y ∈ scope.names, y.2 = .free → X.env.scope.names.lookup y.1 = some .cell ∨ X.env.scope.names.lookup y.1 = some .free) :
    PE X (.Lambda params body scope pos) (tLam T (lamF (X.env.qual ++ "<lambda>") params scope (cloFrom X.env.cells scope.names [])) body) := by
  refine ⟨fun pins s σ H Q I h => ?_⟩
  obtain ⟨hT, h⟩ := h
  refine lam_mk I TB hcode hm hu hT hdef (fun y hy e => ?_) fun f c' H1 s' I1 eN nn T1 f0 f1 c1 => ?_
  · exact (hfree y hy e).elim (fun z => I.ok.has _ (.inl z)) fun z => I.ok.has _ (.inr z)
  · exact ⟨.ref f, H1, I1, rfl, h f c' H1 eN nn T1 f0 f1 c1⟩
end
/-! a value that may be called: φ tells what must stand in the heap -/
structure VCall (P : Program) (w : World) (K : PySem.W.Frag) (mg : Str → Option Value) (base : Heap) (k : Nat) (f : Addr) (φ : Hp → Prop) (sp : Sp) : Prop where
  fn : ∀ (h : Heap) (H : Hp), HOk P w H h → K.In h → φ H → PySem.W.FnAt f h
  run : ∀ (A : Around) (outer : List Env) (s : Shared) (H : Hp) (us : List Value) (vs : List V) (Q : VK) (E : XK), Room k A →
    Env0 P w K mg base A outer s H → φ H → Vals vs us → sp vs H Q E →
    codeAny (model P w) A (.call (.ref f) ⟨us, []⟩) (CR CX0 outer P w H s Q E) s
section
variable {P : Program} {w : World} {K : PySem.W.Frag} {mg : Str → Option Value} {base : Heap} {k j : Nat} {f : Addr} {φ : Hp → Prop} {sp sp' : Sp}
theorem VCall.mono (c : VCall P w K mg base j f φ sp) (h : j ≤ k) : VCall P w K mg base k f φ sp :=
  ⟨c.fn, fun A outer s H us vs Q E hr => c.run A outer s H us vs Q E (hr.mono h)⟩
theorem VCall.imp (c : VCall P w K mg base k f φ sp) (h : ∀ vs H Q E, sp' vs H Q E → sp vs H Q E) : VCall P w K mg base k f φ sp' :=
  ⟨c.fn, fun A outer s H us vs Q E hr e0 hf r q => c.run A outer s H us vs Q E hr e0 hf r (h _ _ _ _ q)⟩
/-- a def of the module -/
theorem VCall.def_ {fd : FuncData} {ps : List Str} (F : FnOk P w K mg base CX0 k f fd ps sp) (b : Binds K fd ps [])
    (lk : ∃ oc od sl, K.lookup f = some ⟨oc, od, .func fd, sl⟩) : VCall P w K mg base k f (fun _ => True) sp := by
  obtain ⟨oc, od, sl, lk⟩ := lk
  refine ⟨fun h H _ kin _ => ⟨oc, od, fd, sl, kin _ _ lk⟩, fun A outer s H us vs Q E hr e0 _ r q => ?_⟩
  have KX : K.In s.heap := e0.mod.kin.keeps fun b o e => (e0.bs b o e).1
  have hl : us.length = ps.length := by rw [← r.length]; exact F.len _ _ _ _ q
  have hb := b s us KX (by simpa using hl)
  rw [List.append_nil] at hb
  exact F.run A outer s H ⟨us, []⟩ us vs Q E hr e0 hb r q
end
end VA

set_option Elab.async false
set_option linter.all false
set_option maxRecDepth 100000
set_option maxHeartbeats 4000000
namespace VA
open PySem PySem.Spec PyProof.Rows L2 LamX NdefX
section
variable {prog : Program} {w : World} {A : Around} {E : Value → Shared → Prop} {s : Shared}
/-- the test of a slice of step one -/
def selF (a n : Int) (i : Nat) : Bool :=
  if (1 : Int) > 0 then a ≤ i && i < n && (i - a) % 1 == 0
  else n < i && i ≤ a && (a - i) % (-1) == 0
end
section
variable {X : Cx} {pos tpos p2 : Pos}
/-- del xs[a:] of a list -/
def tDelFrom (to tl : TE) : TS := fun D σ H => to σ H fun x H1 => tl σ H1 fun y H2 =>
  ∃ (l : Addr) (xs : List V) (a : Nat), x = .ref l ∧ y = .int a ∧ H2 l = some (.lst xs) ∧ a ≤ xs.length ∧ D.nx σ (upd H2 l (.lst (xs.take a)))
end
end VA

set_option Elab.async false
set_option linter.all false
set_option maxRecDepth 100000
set_option maxHeartbeats 4000000
namespace VA
open PySem PySem.Spec PyProof.Rows L2 LamX NdefX
theorem each_vals {β : Type} (emb : β → V) : ∀ {bs : List β} {us : List Value}, Vals (bs.map emb) us → PySem.W.EachIs (fun u b => RelV (emb b) u) us bs
  | [], us, r => by rw [List.map_nil] at r; cases r; exact .nil
  | b :: bs, us, r => by
    rw [List.map_cons] at r
    cases r with
    | cons h t => exact .cons h (each_vals emb t)
theorem vals_each {β : Type} (emb : β → V) : ∀ {bs : List β} {us : List Value}, PySem.W.EachIs (fun u b => RelV (emb b) u) us bs → Vals (bs.map emb) us
  | _, _, .nil => .nil
  | _, _, .cons h t => .cons h (vals_each emb t)
theorem each_reads {β : Type} {X : Cx} {pins : List (Addr × Obj)} {σ : L2.St} {H : Hp} {s : Shared} (I : Inv X pins σ H s) (emb : β → V) (enc : β → PyData) :
    ∀ {bs : List β} {us : List Value}, (∀ b ∈ bs, Dp X.K H (emb b) (enc b)) → Vals (bs.map emb) us → PySem.W.EachIs (fun u b => ∃ as, Reads s.heap u (enc b) as) us bs
  | [], us, _, r => by rw [List.map_nil] at r; cases r; exact .nil
  | b :: bs, us, hd, r => by
    rw [List.map_cons] at r
    cases r with
    | cons h t =>
      exact .cons (Dp.reads I _ _ _ (hd b List.mem_cons_self) h) (each_reads I emb enc (fun c hc => hd c (List.mem_cons_of_mem _ hc)) t)
/-- sorted(xs), any alike data: bs are the items, emb their values, enc their data -/
def rSortedB {β : Type} (K : PySem.W.Frag) (emb : β → V) (enc : β → PyData) : List V → Hp → VK → Prop := fun vs H Q =>
  ∃ (a : Addr) (bs : List β), vs = [V.ref a] ∧ SqL K H a (bs.map emb) ∧ (∀ b ∈ bs, Dp K H (emb b) (enc b)) ∧
    PySem.W.AllAlike (bs.map enc) ∧ PySem.W.Sortable (bs.map enc) ∧ (∀ b ∈ bs, (enc b).depth ≤ 8) ∧
    ∀ p : Addr, H p = none → Q (.ref p) (upd H p (.lst ((bs.mergeSort (PySem.W.dataLe false enc)).map emb)))
section
variable {X : Cx}
theorem cr_sortedB {β : Type} {k : Nat} (emb : β → V) (enc : β → PyData) (hr : Room k X.A) : CallR X (.builtin "sorted") (rSortedB X.K emb enc) := by
  intro pins s σ H vs us Q I r h
  obtain ⟨a, bs, rfl, hs, hd, hal, hk, hdp, q⟩ := h
  obtain ⟨its, rv, hl, hz⟩ := I.list hs
  rw [Vals.ref1 r]
  have hun := hr.un
  have hlen : bs.length ≤ sizeLine := by rw [List.length_map] at hz; exact hz
  refine PySem.W.sorted_data (R := fun u b => RelV (emb b) u) hl.isList (each_vals emb rv) (each_reads I emb enc hd rv) hal hk hlen
    (fun b hb => by have := hdp b hb; omega) fun out ho he => ?_
  obtain ⟨ep, he'⟩ := PyProof.Rows.sortedAll_at s.heap its out.toArray
  have hl2 : ((bs.mergeSort (PySem.W.dataLe false enc)).map emb).length ≤ sizeLine := by
    rw [List.length_map, List.length_mergeSort]; exact hlen
  exact ⟨.ref _, upd H (s.heap.objs.size + 1) (.lst ((bs.mergeSort (PySem.W.dataLe false enc)).map emb)),
    I.laid (t' := s.toks) (fun _ _ => PyProof.Rows.sortedAll_old) (Nat.le_succ _) ⟨hl2, out, ep, vals_each emb he, he'⟩, rfl, q _ (I.hok.fresh (Nat.le_succ _))⟩
/-- max(xs, default=d), whole numbers -/
def rMaxD (K : PySem.W.Frag) : List V → List V → Hp → VK → Prop := fun vs zs H Q =>
  ∃ (a : Addr) (ns : List Int) (d : Int), vs = [V.ref a] ∧ zs = [.int d] ∧ SqL K H a (ns.map V.int) ∧
    Q (.int (match ns with | [] => d | n :: r => r.foldl max n)) H
end
/-! calls of a value -/
section
variable {X : Cx} {k j i : Nat} {x : Str} {p pos : Pos} {e : Expr} {es : List Expr} {t : TA}
/-- x(..), x a name that holds a function value -/
def tCallVal (P : Program) (w : World) (K : PySem.W.Frag) (mg : Str → Option Value) (base : Heap) (k i : Nat) (t : TA) : TE := fun σ H Q =>
  ∃ (f : Addr) (φ : Hp → Prop) (sp : Sp), σ[i]? = some (some (.ref f)) ∧ VCall P w K mg base k f φ sp ∧ φ H ∧ t σ H fun vs H1 => φ H1 ∧ sp vs H1 Q E0
theorem pe_callVal (hr : Room j X.A) (hk : k ≤ j) (hN : X.N[i]? = some x) (hv : Vis X.env.scope x) (ha : PA X (e :: es) t)
    (hdb : (x == ("__debug__" : Str)) = false := by decide) (hcd : (x == ("__classdict__" : Str)) = false := by decide)
    (he : starEach (e :: es) X.env = (false, eval e X.env) :: starEach es X.env := by rfl) (hpl : (backTo pos (starEach es X.env)).any (·.1) = false := by rfl) :
    PE X (.Call (.Name x p) (e :: es) [] pos) (tCallVal X.prog X.w X.K X.mg X.base k i t) := by
  refine ⟨fun pins s σ H Q I h => ?_⟩
  obtain ⟨f, φ, sp, hs, c, hf, ht⟩ := h
  refine wpAny_Call_Name_kw (thn ((pe_var (pos := p) hN hv hdb hcd).run pins s σ H (fun v H1 => v = .ref f ∧ H1 = H) I ⟨.ref f, hs, rfl, rfl⟩) fun u s1 ⟨v, H1, I1, r1, q1⟩ => ?_)
  obtain ⟨ev, eH⟩ := q1
  subst ev
  subst eH
  obtain rfl : u = Value.ref f := r1
  refine PySem.W.callWith_F (first := []) (c.fn _ _ I1.hok I1.kIn hf) (thn (ha.run pos pins s1 σ _ _ I1 ht) fun us s2 ⟨vs, H2, I2, r, h2, q⟩ => ⟨c.fn _ _ I2.hok I2.kIn h2, ?_⟩) he hpl
  show wpAny _ _ (call (.ref f) us) _ _ _
  refine wpAny_call (codeAny_mono (c.run X.A X.stack s2 H2 us vs Q E0 (hr.mono hk) I2.env0 h2 r q) fun r s' hq => ?_)
  cases r with
  | error e => exact hq.elim
  | ok fl =>
    cases fl with
    | ret u => exact I2.after hq
    | next => exact hq.elim
    | brk => exact hq.elim
    | cont => exact hq.elim
end
/-- a lambda without captured names, by its expression -/
def lamAt (f : Addr) (F : NF) (b : Expr) : Hp → Prop := fun H => H f = some (LamO f F b) ∧ H F.c = some (CodeO F.c F.qual)
section
variable {P : Program} {w : World} {K : PySem.W.Frag} {mg : Str → Option Value} {base : Heap} {N ps : List Str} {F : NF} {b : Expr} {f : Addr} {k : Nat} {sp : Sp}
end
end VA

set_option Elab.async false
set_option linter.all false
set_option maxRecDepth 100000
set_option maxHeartbeats 4000000
namespace VS
open PySem PySem.Spec PyProof.Rows L2
/-! sets of keys (whole numbers and texts) that can be walked: as SetR, over the mixed keys -/
def kOf (e : Int × Value) : Key := match e.2 with
  | .int k _ => Sum.inl k
  | .str x _ => Sum.inr x
  | _ => Sum.inl 0
def Fit (w : World) (e : Int × Value) : Prop := ∃ k : Key, keyIs k e.2 = true ∧ e.1 = keyH w k
theorem kOf_is {e : Int × Value} {k : Key} (h : keyIs k e.2 = true) : kOf e = k := by
  unfold kOf
  rcases keyIs_shape h with ⟨i, t, rfl, q⟩ | ⟨x, t, rfl, q⟩ <;> rw [q]
theorem keyIs_kOf {w : World} {e : Int × Value} (g : Fit w e) (k : Key) : keyIs k e.2 = true ↔ kOf e = k := by
  obtain ⟨k0, h0, _⟩ := g
  have e0 := kOf_is h0
  constructor
  · exact kOf_is
  · intro z
    rw [e0] at z
    rw [← z]
    exact h0
theorem fit_scan {w : World} {e : Int × Value} (g : Fit w e) : e.2.scannable = true := by
  obtain ⟨k0, h0, _⟩ := g
  rcases keyIs_shape h0 with ⟨i, t, _, q⟩ | ⟨x, t, _, q⟩ <;> rw [q] <;> rfl
/-- the set at a: its members are those of S, n of them -/
def SetM (w : World) (h : Heap) (a : Addr) (S : Key → Bool) (n : Nat) : Prop :=
  ∃ ob es ep tb, h.get? a = some ob ∧ ob.ExactSet ∧ ob.data = .set es ep tb ∧ (∀ e ∈ es.toList, Fit w e) ∧ (es.toList.map kOf).Nodup ∧
    (∀ k, S k = true ↔ k ∈ es.toList.map kOf) ∧ es.size < scanBound ∧ tb.fits es.size = true ∧ es.size = n ∧ Ris tb.place.toList ∧
    (w.params.followText "set-order" = true ∨ tb.led = true)
section
variable {P : Program} {w : World} {h h' : Heap} {a : Addr} {S : Key → Bool} {n : Nat}
theorem SetM.at (m : SetM w h a S n) (kp : ∀ ob, h.get? a = some ob → h'.get? a = some ob) : SetM w h' a S n := by
  obtain ⟨ob, es, ep, tb, ho, r⟩ := m
  exact ⟨ob, es, ep, tb, kp ob ho, r⟩
theorem fit_elems {l : List (Int × Value)} (g : ∀ e ∈ l, Fit w e) : ElemsOf (mixKind P w) l := by
  intro e he
  obtain ⟨k, h1, h2⟩ := g e he
  exact ⟨⟨k, h1, h2⟩, fit_scan (g e he)⟩
theorem fit_mem {l : List (Int × Value)} (g : ∀ e ∈ l, Fit w e) (k : Key) : k ∈ l.map kOf ↔ ∃ e ∈ l, (mixKind P w).is k e.2 = true := by
  rw [List.mem_map]
  constructor
  · rintro ⟨e, he, q⟩; exact ⟨e, he, (keyIs_kOf (g e he) k).2 q⟩
  · rintro ⟨e, he, q⟩; exact ⟨e, he, (keyIs_kOf (g e he) k).1 q⟩
end
section
variable {P : Program} {w : World} {A : Around} {E : Value → Shared → Prop} {s : Shared} {a : Addr} {S : Key → Bool} {n : Nat}
theorem add_tailM {gv : Bool → Sem Unit} (hgv : ∀ (b : Bool) (z : Shared) (F : Unit → Shared → Prop), F () z → wpAny (model P w) A (gv b) F E z)
    {ob : Obj} {es : Array (Int × Value)} {ep : Nat} {tb : SetTable} (ho : s.heap.get? a = some ob) (hex : ob.ExactSet) (hd : ob.data = .set es ep tb)
    {e1 : Array (Int × Value)} {t1 : SetTable} {S1 : Key → Bool} (g1 : ∀ e ∈ e1.toList, Fit w e) (nd1 : (e1.toList.map kOf).Nodup)
    (m1 : ∀ k, S1 k = true ↔ k ∈ e1.toList.map kOf) (hb1 : e1.size < scanBound) (hf1 : t1.fits e1.size = true) (hr1 : Ris t1.place.toList)
    (hl1 : w.params.followText "set-order" = true ∨ t1.led = true) {wasDummy : Bool} {F : Option Bool → Shared → Prop}
    (hF : ∀ h', Heap.SameBut a s.heap h' → SetM w h' a S1 e1.size → F (some true) { s with heap := h' }) :
    wpAny (model P w) A (do
      storeSet a e1 t1
      if (!wasDummy && t1.tooFull) = true then do
          gv (relayAll t1 e1 (SetTable.grown e1.size)).2.2
          storeSet a (relayAll t1 e1 (SetTable.grown e1.size)).1 (relayAll t1 e1 (SetTable.grown e1.size)).2.1
          pure (some true)
        else pure (some true)) F E s := by
  have at1 := store_at (es' := e1) (t' := t1) ho hd
  have but1 := Heap.SameBut.update s.heap a (Obj.putSet e1 t1)
  refine wpAny_bind (wpAny_storeSet_of ho hd ?_ (fits_of_scanBound hb1))
  split
  · have p2 := relayAll_perm t1 e1 (SetTable.grown e1.size)
    have f2 := relayAll_fits t1 e1 (SetTable.grown e1.size)
    have r2 := relayAll_ris t1 e1 (SetTable.grown e1.size)
    have l2 := relayAll_led t1 e1 (SetTable.grown e1.size)
    generalize relayAll t1 e1 (SetTable.grown e1.size) = Y at p2 f2 r2 l2 ⊢
    obtain ⟨e2, t2, gave⟩ := Y
    dsimp only at p2 f2 r2 l2 ⊢
    have z2 : e2.size = e1.size := by rw [← Array.length_toList, p2.length_eq, Array.length_toList]
    have b2 : e2.size < scanBound := z2 ▸ hb1
    refine wpAny_bind (hgv _ _ _ (wpAny_bind (wpAny_storeSet_of at1 rfl ?_ (fits_of_scanBound b2))))
    have at2 := store_at (es' := e2) (t' := t2) at1 rfl
    have pk := p2.map kOf
    refine wpAny_pure (hF _ (but1.trans (Heap.SameBut.update _ a _)) ⟨_, e2, _, t2, at2, hex, rfl, ?_, ?_, ?_, b2, f2, z2, r2, ?_⟩)
    · intro e he; exact g1 e (p2.mem_iff.mp he)
    · exact pk.nodup_iff.mpr nd1
    · intro k; exact Iff.trans (m1 k) pk.mem_iff.symm
    · exact hl1.imp id fun z => by rw [l2]; exact z
  · exact wpAny_pure (hF _ but1 ⟨_, e1, _, t1, at1, hex, rfl, g1, nd1, m1, hb1, hf1, rfl, hr1, hl1⟩)
theorem add_hashedM {k : Key} {u : Value} {F : Bool → Shared → Prop} (hkey : (mixKind P w).is k u = true) (hsc : u.scannable = true)
    (m : SetM w s.heap a S n) (room : n + 1 < scanBound)
    (hF : ∀ h', Heap.SameBut a s.heap h' → SetM w h' a (fun j => S j || decide (j = k)) (if S k = true then n else n + 1) → F (!S k) { s with heap := h' }) :
    wpAny (model P w) A (setAddHashed a u ((mixKind P w).hash k)) F E s := by
  obtain ⟨ob, es, ep, tb, ho, hex, hd, g, nd, hm, hb, hf, hn, hr, hl⟩ := m
  have hel : ElemsOf (mixKind P w) es.toList := fit_elems g
  unfold setAddHashed setAddHashedIn
  refine wpAny_holding (wpAny_bind (wpAny_setState_of ho hd hf ?_))
  dsimp only
  rw [byScan_of hsc hb hel]
  simp only [↓reduceIte]
  unfold setAddByScan
  refine wpAny_bind (wpAny_bind (wpAny_rule (wpAny_bind (wpAny_setScan_of hkey ho hd hf hel ?_))))
  cases hfi : List.findIdx? (fun e => (mixKind P w).is k e.2) es.toList with
  | some j =>
    obtain ⟨hj, pj, _⟩ := List.findIdx?_eq_some_iff_getElem.mp hfi
    have inS : S k = true := (hm k).2 ((fit_mem (P := P) (w := w) g k).2 ⟨es.toList[j], List.getElem_mem hj, pj⟩)
    dsimp only
    have mem : ∀ i, (S i || decide (i = k)) = true ↔ i ∈ es.toList.map kOf := by
      intro i
      rw [Bool.or_eq_true, decide_eq_true_eq, ← hm i]
      exact ⟨fun z => z.elim id (fun e => e ▸ inS), .inl⟩
    have q := hF s.heap (Heap.SameBut.refl a s.heap) ⟨ob, es, ep, tb, ho, hex, hd, g, nd, mem, hb, hf, by rw [if_pos inS]; exact hn, hr, hl⟩
    rw [inS] at q
    exact wpAny_pure (wpAny_pure q)
  | none =>
    have out : k ∉ es.toList.map kOf := by
      intro z
      obtain ⟨e, he, q⟩ := (fit_mem (P := P) (w := w) g k).1 z
      have c := List.findIdx?_eq_none_iff.mp hfi e he
      rw [q] at c
      cases c
    have offS : S k = false := by
      cases q : S k with
      | false => rfl
      | true => exact absurd ((hm k).1 q) out
    dsimp only
    have gw : ∀ (b : Bool) {z : Shared} {F' : Unit → Shared → Prop}, F' () z →
        wpAny (model P w) A (match b with | true => rule "set.scan.the-table-gave-way" | false => pure ()) F' E z := by
      intro b z F' q
      cases b
      · exact wpAny_pure q
      · exact wpAny_rule q
    have p1 := layNew_perm tb es ((mixKind P w).hash k) u
    have f1 := layNew_fits tb es ((mixKind P w).hash k) u
    have r1 := layNew_ris tb es ((mixKind P w).hash k) u hr
    have l1 := layNew_led tb es ((mixKind P w).hash k) u
    generalize layNew tb es ((mixKind P w).hash k) u = Y at p1 f1 r1 l1 ⊢
    obtain ⟨e1, t1, wasDummy, gave⟩ := Y
    dsimp only at p1 f1 r1 l1 ⊢
    rw [Array.toList_push] at p1
    have pc : e1.toList.Perm (((mixKind P w).hash k, u) :: es.toList) := p1.trans (List.perm_append_singleton _ _)
    have hk1 : kOf ((mixKind P w).hash k, u) = k := kOf_is hkey
    have pk : (e1.toList.map kOf).Perm (k :: es.toList.map kOf) := by
      have z := pc.map kOf
      rw [List.map_cons, hk1] at z
      exact z
    have g1 : ∀ e ∈ e1.toList, Fit w e := by
      intro e he
      rcases List.mem_cons.mp (pc.mem_iff.mp he) with z | z
      · rw [z]; exact ⟨k, hkey, rfl⟩
      · exact g e z
    have nd1 : (e1.toList.map kOf).Nodup := pk.nodup_iff.mpr (List.nodup_cons.mpr ⟨out, nd⟩)
    have m1 : ∀ i, (S i || decide (i = k)) = true ↔ i ∈ e1.toList.map kOf := by
      intro i
      rw [Bool.or_eq_true, decide_eq_true_eq, hm i, pk.mem_iff, List.mem_cons]
      exact Or.comm
    have sz : e1.size = n + 1 := by rw [← Array.length_toList, pc.length_eq, List.length_cons, Array.length_toList, hn]
    have b1 : e1.size < scanBound := by rw [sz]; exact room
    have led1 : w.params.followText "set-order" = true ∨ t1.led = true := hl.imp id fun z => by rw [l1]; exact z
    have fin : ∀ h', Heap.SameBut a s.heap h' → SetM w h' a (fun j => S j || decide (j = k)) e1.size → F true { s with heap := h' } := by
      intro h' sb r
      have q := hF h' sb
      rw [offS] at q
      rw [sz] at r
      exact q r
    refine wpAny_bind (gw _ ?_)
    split
    · refine wpAny_bind ?_
      rw [hashByValue_scannable 8 hsc]
      refine wpAny_pure (add_tailM ?_ ho hex hd g1 nd1 m1 b1 ?_ ?_ ?_ fun h' sb r => ?_)
      · intro b z F' q
        cases b
        · first | exact wpAny_pure q | exact wpAny_rule q
        · first | exact wpAny_rule q | exact wpAny_pure q
      · first | (split <;> first | exact f1 | exact SetTable.fits_plain_off f1) | exact f1
      · first | (split <;> exact r1) | exact r1
      · first | (split <;> exact led1) | exact led1
      · dsimp only; exact wpAny_pure (fin h' sb r)
    · refine wpAny_bind (wpAny_pure ?_)
      simp only [↓reduceIte]
      refine add_tailM ?_ ho hex hd g1 nd1 m1 b1 f1 r1 led1 fun h' sb r => ?_
      · intro b z F' q
        cases b
        · first | exact wpAny_pure q | exact wpAny_rule q
        · first | exact wpAny_rule q | exact wpAny_pure q
      · dsimp only; exact wpAny_pure (fin h' sb r)
end
/-! over the layer -/
def SetMO (w : World) (a : Addr) (S : Key → Bool) (n : Nat) : HO := .ext fun h => SetM w h a S n
section
variable {X : Cx}
theorem setMO_new {w : World} {P : Program} {H : Hp} {h : Heap} {a : Addr} {S : Key → Bool} {n : Nat} (m : SetM w h a S n) : ObjOk P w H h a (SetMO w a S n) := by
  have ⟨o, _, _, _, ho, _⟩ := m
  exact ⟨m, ⟨o, ho⟩, fun _ _ p q => SetM.at p q⟩
theorem setMO_get {pins : List (Addr × Obj)} {σ : L2.St} {H : Hp} {s : Shared} {a : Addr} {S : Key → Bool} {n : Nat} (I : Inv X pins σ H s)
    (ha : H a = some (SetMO X.w a S n)) : SetM X.w s.heap a S n := by
  have z := I.hok a _ ha
  exact z.1
/-- set() -/
def rSet0M (w : World) : List V → Hp → VK → Prop := fun xs H Q => xs = [] ∧ ∀ p, H p = none → Q (.ref p) (upd H p (SetMO w p (fun _ => false) 0))
/-- found.add(k) -/
def tSAddM (w : World) (to te : TE) : TE := fun σ H Q => to σ H fun x H1 => (∃ a S n, x = V.ref a ∧ H1 a = some (SetMO w a S n)) ∧
  te σ H1 fun y H2 => ∃ (a : Addr) (k : Key) (S : Key → Bool) (n : Nat), x = V.ref a ∧ y = kV k ∧ H2 a = some (SetMO w a S n) ∧ n + 1 < scanBound ∧
    Q .non (upd H2 a (SetMO w a (fun j => S j || decide (j = k)) (if S k = true then n else n + 1)))
variable {o e : Expr} {to te : TE} {apos cpos : Pos}
/-- the order of texts -/
def leS (a b : Str) : Bool := decide (a.cps.toList ≤ b.cps.toList)
/-- sorted(found), the members texts -/
def rSortedM (w : World) : List V → Hp → VK → Prop := fun vs H Q => ∃ (a : Addr) (S : Key → Bool) (n : Nat), vs = [V.ref a] ∧ H a = some (SetMO w a S n) ∧
  (∀ k, S k = true → ∃ x, k = Sum.inr x) ∧ ∀ (ss : List Str) (p : Addr), ss.Nodup → (∀ x, x ∈ ss ↔ S (Sum.inr x) = true) → ss.length = n → H p = none →
    Q (.ref p) (upd H p (.lst ((ss.mergeSort leS).map V.str)))
theorem key_str {e : Int × Value} {w : World} (g : Fit w e) {x : Str} (hk : kOf e = Sum.inr x) : RelV (V.str x) e.2 := by
  obtain ⟨k0, h0, _⟩ := g
  have e0 := kOf_is h0
  rw [hk] at e0
  subst e0
  rcases keyIs_shape h0 with ⟨i, t, z, _⟩ | ⟨y, t, z, q⟩
  · cases z
  · cases z
    exact ⟨t, q⟩
theorem cr_sortedM {k : Nat} (hc : X.calm = true) (hr : Room k X.A) : CallR X (.builtin "sorted") (rSortedM X.w) := by
  intro pins s σ H vs us Q I r h
  obtain ⟨a, S, n, rfl, ha, ks, q⟩ := h
  obtain ⟨ob, es, ep, tb, ho, hex, hd, g, nd, hm, hb, hf, hn, hri, hl⟩ := setMO_get I ha
  rw [Vals.ref1 r]
  have hun := hr.un
  have hh : X.A.handled = none := I.ok.hd hc
  refine Calls.call_function_entry kind_sorted plain_sorted entry_sorted (args_sorted1 _) ?_
  unfold Builtin.«sorted»
  refine wpAny_bind (m := checkCount "sorted" 1 1 _) (wpAny_pure ?_)
  refine wpAny_bind (collect_set (A := X.A.in1) hh ⟨ob, ho, hex.1, hd⟩ hf hb hri hl fun s1 us1 k1 hz g1 o1 pm => ?_)
  -- the texts, in the order met
  have hv : ∀ u ∈ us1, ∃ x, RelV (V.str x) u ∧ S (Sum.inr x) = true := by
    intro u hu
    obtain ⟨e, he, z⟩ := List.mem_map.mp (pm.mem_iff.mp hu)
    have inS : S (kOf e) = true := (hm _).2 (List.mem_map.mpr ⟨e, he, rfl⟩)
    obtain ⟨x, hx⟩ := ks _ inS
    exact ⟨x, by rw [← z]; exact key_str (g e he) hx, by rw [← hx]; exact inS⟩
  let tx : Value → Str := fun u => match u with | .str x _ => x | _ => Str.empty
  have htx : ∀ {u : Value} {x : Str}, RelV (V.str x) u → tx u = x := by
    intro u x z
    obtain ⟨t, z⟩ := z
    rw [z]
  have each : ∀ l : List Value, (∀ u ∈ l, ∃ x, RelV (V.str x) u ∧ S (Sum.inr x) = true) → PySem.W.EachIs (fun u x => RelV (V.str x) u) l (l.map tx) := by
    intro l
    induction l with
    | nil => intro _; exact .nil
    | cons u l ih =>
      intro hl2
      obtain ⟨x, hx, _⟩ := hl2 u List.mem_cons_self
      exact .cons (by rw [htx hx]; exact hx) (ih fun v hv => hl2 v (List.mem_cons_of_mem _ hv))
  have e1 := each us1 hv
  have pk : ((us1.map tx).map Sum.inr).Perm (es.toList.map kOf) := by
    have z := pm.map (fun u => (Sum.inr (tx u) : Key))
    rw [List.map_map] at z
    rw [List.map_map]
    refine z.trans (List.Perm.of_eq ?_)
    refine List.map_congr_left fun e he => ?_
    obtain ⟨x, hx⟩ := ks _ ((hm _).2 (List.mem_map.mpr ⟨e, he, rfl⟩))
    show (Sum.inr (tx e.2) : Key) = kOf e
    rw [htx (key_str (g e he) hx), hx]
  have ndS : (us1.map tx).Nodup := by
    have z := pk.nodup_iff.mpr nd
    exact List.Pairwise.of_map _ (fun x y hxy e => hxy (congrArg Sum.inr e)) z
  have memS : ∀ x, x ∈ us1.map tx ↔ S (Sum.inr x) = true := by
    intro x
    rw [hm, ← pk.mem_iff]
    refine ⟨fun z => List.mem_map.mpr ⟨x, z, rfl⟩, fun z => ?_⟩
    obtain ⟨y, hy, e⟩ := List.mem_map.mp z
    cases e
    exact hy
  have lenS : (us1.map tx).length = n := by
    rw [List.length_map, pm.length_eq, List.length_map, Array.length_toList]; exact hn
  have few : us1.length ≤ sizeLine := by
    have z := lenS
    rw [List.length_map] at z
    rw [z, ← hn]
    exact fits_of_scanBound hb
  refine wpAny_bind (wpAny_newList ?_ few)
  have hoL : (s1.heap.push (seqObj "list" us1.toArray 0)).get? s1.heap.objs.size = some (seqObj "list" us1.toArray 0) := Heap.get?_push_size _ rfl
  have hbs : ((us1.map tx).map PyData.str).length = us1.length := by rw [List.length_map, List.length_map]
  refine wpAny_bind (wpAny_holding (PySem.W.list_sort_data (enc := PyData.str) (bs := us1.map tx) (R := fun u x => RelV (V.str x) u) hoL e1 ?_ ?_ ?_ (by rw [List.length_map]; exact few) ?_ fun out lo eo => ?_))
  · exact e1.mono fun u x ⟨t, z⟩ => ⟨[], by rw [z]; exact .str x t, by simp⟩
  · intro d hd' d' hd''
    obtain ⟨x, _, rfl⟩ := List.mem_map.mp hd'
    obtain ⟨y, _, rfl⟩ := List.mem_map.mp hd''
    rfl
  · refine .inr fun d hd' => ?_
    obtain ⟨x, _, rfl⟩ := List.mem_map.mp hd'
    exact ⟨fun z => PyData.noConfusion z, fun xs z => PyData.noConfusion z⟩
  · intro b hb'
    show X.A.units + 1 + 1 + 0 < cLine
    omega
  · obtain ⟨c, hc'⟩ := sortedHeap_at (vs := us1) (out := out.toArray) hoL
    have kp : ∀ b u, s.heap.get? b = some u → (PyProof.Rows.sortedHeap (s1.heap.push (seqObj "list" us1.toArray 0)) s1.heap.objs.size us1 out.toArray).get? b = some u := by
      intro b u e
      have z := k1 b u e
      have hlt := Heap.lt_size z
      rw [sortedHeap_old (Nat.ne_of_lt hlt) (by rw [size_push']; exact Nat.lt_succ_of_lt hlt)]
      exact Heap.get?_push_of_some _ z
    have eS : (PySem.W.dataLe false PyData.str : Str → Str → Bool) = leS := PySem.W.dataLe_str (fun x => x)
    rw [eS] at eo
    have fr : H s1.heap.objs.size = none := I.hok.fresh hz
    have rv : Vals ((((us1.map tx).mergeSort leS)).map V.str) out := VA.vals_each V.str eo
    have lim : ((((us1.map tx).mergeSort leS)).map V.str).length ≤ sizeLine := by
      rw [List.length_map, List.length_mergeSort, List.length_map]; exact few
    have J : Inv X pins σ (upd H s1.heap.objs.size (.lst (((us1.map tx).mergeSort leS).map V.str)))
        { s with heap := PyProof.Rows.sortedHeap (s1.heap.push (seqObj "list" us1.toArray 0)) s1.heap.objs.size us1 out.toArray, gens := s1.gens, drawn := s1.drawn, toks := s1.toks } :=
      I.call (ch := []) (Un.laid kp hz fr) (I.hok.laid kp hz ⟨lim, out, c, rv, hc'⟩) (by rw [g1]; exact I.bare) (fun _ z => nomatch z)
    have es' : ({ s1 with heap := PyProof.Rows.sortedHeap (s1.heap.push (seqObj "list" us1.toArray 0)) s1.heap.objs.size us1 out.toArray } : Shared) =
        { s with heap := PyProof.Rows.sortedHeap (s1.heap.push (seqObj "list" us1.toArray 0)) s1.heap.objs.size us1 out.toArray, gens := s1.gens, drawn := s1.drawn, toks := s1.toks } := by
      rw [← o1]
    refine wpAny_pure ⟨_, rfl, ?_⟩
    rw [es']
    exact ⟨.ref _, _, J, rfl, q (us1.map tx) _ ndS memS lenS fr⟩
end
end VS

set_option Elab.async false
set_option linter.all false
set_option maxRecDepth 100000
set_option maxHeartbeats 4000000
namespace VB
open PySem PySem.Spec PyProof.Rows L2 LamX NdefX
/-! a def of the text under its name -/
abbrev FnP (K : PySem.W.Frag) (x : Str) (st : Stmt) (f : Addr) (fd : FuncData) : Prop := FunD K x x (defArgs st) (defBody st) (defScope st) [] [] f fd
def Df (K : PySem.W.Frag) (mg : Str → Option Value) (x : Str) (st : Stmt) : Prop := ∃ (f : Addr) (fd : FuncData), FnP K x st f fd ∧ mg x = some (.ref f)
abbrev BindOk (x : Str) (st : Stmt) (ps : List Str) : Prop := ∀ (kV doc pm : Value) (an : Option Addr) (cdv ct : Value) (us : List Value), us.length = ps.length →
  bindArgs (PySem.W.fnOf x x (defArgs st) (defBody st) (defScope st) .none kV doc pm an cdv ct) ⟨us, []⟩ = pure (ps.zip us)
section
variable {P : Program} {w : World} {K : PySem.W.Frag} {mg : Str → Option Value} {base : Heap}
theorem Df.cal {x : Str} {st : Stmt} {N ps : List Str} {k : Nat} {sp : Sp} (D : Df K mg x st) (S : FnScope N ps (defScope st)) (hb : BindOk x st ps)
    (len : ∀ vs H Q E, sp vs H Q E → vs.length = ps.length)
    (hbody : ∀ (f : Addr) (cdv : Value) (A : Around) (outer : List Env) (s : Shared) (H : Hp) (vs : List V) (Q : VK) (E : XK),
      Room k (A.deeper (envOfC x (defScope st) s.heap.objs.size f cdv)) → sp vs H Q E →
      ∃ t, PSs (cxOf CX0 P w K mg base N x (defScope st) f cdv A outer s H E).nox (defBody st) t ∧ t { nx := fun _ H' => Q .non H', rt := Q } (start N vs) H) :
    C8.Cal P w K mg base (k + 1) x sp [] := by
  obtain ⟨f, fd, F, hm⟩ := D
  refine ⟨f, fd, ps, [], F.ok S len (fun cdv A outer s H vs Q E hr h => ?_), hm, F.kp, F.bindsN hb, .nil⟩
  obtain ⟨t, a, b⟩ := hbody f cdv A outer s H vs Q E hr h
  exact ⟨t, a.nox, b⟩
theorem calImp {x : Str} {k : Nat} {sp sp' : Sp} {dvs : List V} (c : C8.Cal P w K mg base k x sp dvs) (h : ∀ vs H Q E, sp' vs H Q E → sp vs H Q E) : C8.Cal P w K mg base k x sp' dvs := by
  obtain ⟨f, fd, ps, ds, F, r⟩ := c.ex
  exact ⟨f, fd, ps, ds, F.imp h, r⟩
end
/-! heaps -/
/-- all but the object at a is as it was -/
def But (a : Addr) (H H' : Hp) : Prop := ∀ b o, b ≠ a → H b = some o → H' b = some o
/-- tuples and what is locked stay -/
structure Kp (H H' : Hp) : Prop where
  tup : ∀ b xs, H b = some (.tup xs) → H' b = some (.tup xs)
  frz : ∀ b o u, H b = some (.frz o u) → H' b = some (.frz o u)
theorem But.refl (a : Addr) (H : Hp) : But a H H := fun _ _ _ h => h
theorem But.trans {a : Addr} {H H1 H2 : Hp} (x : But a H H1) (y : But a H1 H2) : But a H H2 := fun b o n h => y b o n (x b o n h)
theorem But.of {a : Addr} {H H' : Hp} (x : Same H H') : But a H H' := fun b o _ h => x b o h
theorem But.upd {a : Addr} {H : Hp} (o : HO) : But a H (upd H a o) := fun b u n h => by rw [upd_ne n]; exact h
theorem same_upd {H : Hp} {p : Addr} (h : H p = none) (o : HO) : Same H (upd H p o) := fun b u q => by rw [upd_ne (ne_of_none q h)]; exact q
theorem Kp.refl (H : Hp) : Kp H H := ⟨fun _ _ h => h, fun _ _ _ h => h⟩
theorem Kp.trans {H H1 H2 : Hp} (x : Kp H H1) (y : Kp H1 H2) : Kp H H2 := ⟨fun b xs h => y.tup b xs (x.tup b xs h), fun b o u h => y.frz b o u (x.frz b o u h)⟩
theorem Kp.of {H H' : Hp} (x : Same H H') : Kp H H' := ⟨fun b xs h => x b _ h, fun b o u h => x b _ h⟩
theorem Kp.ofExtN {H H' : Hp} (x : ExtN H H') : Kp H H' := ⟨fun b xs h => x b _ h (fun ps z => by cases z), fun b o u h => x b _ h (fun ps z => by cases z)⟩
theorem Kp.ofBut {a : Addr} {H H' : Hp} {ys : List V} (x : But a H H') (h : H a = some (.lst ys)) : Kp H H' :=
  ⟨fun b xs q => x b _ (ne_of q h (by intro z; cases z)) q, fun b o u q => x b _ (ne_of q h (by intro z; cases z)) q⟩
theorem Kp.updL {H : Hp} {a : Addr} {ys : List V} (h : H a = some (.lst ys)) (o : HO) : Kp H (upd H a o) := Kp.ofBut (But.upd o) h
theorem Kp.sqT {K : PySem.W.Frag} {H H' : Hp} {a : Addr} {xs : List V} (x : Kp H H') (h : SqT K H a xs) : SqT K H' a xs := by
  rcases h with (h | ⟨o, h⟩) | h
  · exact .inl (.inl (x.tup _ _ h))
  · exact .inl (.inr ⟨o, x.frz _ _ _ h⟩)
  · exact .inr h
theorem Same.sqT {K : PySem.W.Frag} {H H' : Hp} {a : Addr} {xs : List V} (x : Same H H') (h : SqT K H a xs) : SqT K H' a xs := (Kp.of x).sqT h
theorem But.none {a b : Addr} {H H' : Hp} (x : But a H H') (n : b ≠ a) (h : H' b = Option.none) : H b = Option.none := by
  cases q : H b with
  | none => rfl
  | some o => rw [x b o n q] at h; cases h
/-! data of tuples alone -/
mutual
def flatD : PyData → Bool
  | .none => true
  | .bool _ => true
  | .int _ => true
  | .str _ => true
  | .tuple xs => flatAll xs
  | _ => false
def flatAll : List PyData → Bool
  | [] => true
  | x :: xs => flatD x && flatAll xs
end
mutual
theorem Dp.kp {K : PySem.W.Frag} {H H' : Hp} (x : Kp H H') : ∀ (d : PyData) (v : V), flatD d = true → Dp K H v d → Dp K H' v d
  | .none, _, _, h => by cases h; exact .non
  | .bool _, _, _, h => by cases h; exact .bl _
  | .int _, _, _, h => by cases h; exact .int _
  | .str _, _, _, h => by cases h; exact .str _
  | .tuple ds, _, hf, h => by
    cases h with
    | tup h1 h2 => exact .tup (x.sqT h1) (DpAll.kp x ds _ (by simpa only [flatD] using hf) h2)
theorem DpAll.kp {K : PySem.W.Frag} {H H' : Hp} (x : Kp H H') : ∀ (ds : List PyData) (vs : List V), flatAll ds = true → DpAll K H vs ds → DpAll K H' vs ds
  | [], _, _, h => by cases h; exact .nil
  | d :: ds, _, hf, h => by
    cases h with
    | cons h1 h2 =>
      simp only [flatAll, Bool.and_eq_true] at hf
      exact .cons (Dp.kp x d _ hf.1 h1) (DpAll.kp x ds _ hf.2 h2)
end
theorem DpAll.len {K : PySem.W.Frag} {H : Hp} : ∀ {vs : List V} {ds : List PyData}, DpAll K H vs ds → vs.length = ds.length
  | _, _, .nil => rfl
  | _, _, .cons _ t => congrArg Nat.succ (DpAll.len t)
theorem DpAll.get {K : PySem.W.Frag} {H : Hp} : ∀ {vs : List V} {ds : List PyData}, DpAll K H vs ds → ∀ {i : Nat} {d : PyData}, ds[i]? = some d → ∃ v, vs[i]? = some v ∧ Dp K H v d
  | _, _, .nil, i, d, e => by simp at e
  | _, _, .cons (v := v) h t, 0, d, e => by simp at e; subst e; exact ⟨v, rfl, h⟩
  | _, _, .cons h t, i + 1, d, e => by
    obtain ⟨v, h1, h2⟩ := DpAll.get t (i := i) (d := d) (by simpa using e)
    exact ⟨v, by simpa using h1, h2⟩
/-! .. and any list, where all that was tracked stays -/
mutual
theorem Dp.same {K : PySem.W.Frag} {H H' : Hp} (x : Same H H') : ∀ (d : PyData) (v : V), Dp K H v d → Dp K H' v d
  | .none, _, h => by cases h; exact .non
  | .bool _, _, h => by cases h; exact .bl _
  | .int _, _, h => by cases h; exact .int _
  | .str _, _, h => by cases h; exact .str _
  | .tuple ds, _, h => by
    cases h with
    | tup h1 h2 => exact .tup (Same.sqT x h1) (DpAll.same x ds _ h2)
  | .list ds, _, h => by
    cases h with
    | lst h1 h2 => exact .lst (x.seq h1) (DpAll.same x ds _ h2)
theorem DpAll.same {K : PySem.W.Frag} {H H' : Hp} (x : Same H H') : ∀ (ds : List PyData) (vs : List V), DpAll K H vs ds → DpAll K H' vs ds
  | [], _, h => by cases h; exact .nil
  | d :: ds, _, h => by
    cases h with
    | cons h1 h2 => exact .cons (Dp.same x d _ h1) (DpAll.same x ds _ h2)
end
theorem dpAll_strs {K : PySem.W.Frag} {H : Hp} : ∀ ss : List Str, DpAll K H (ss.map V.str) (ss.map PyData.str)
  | [] => .nil
  | s :: ss => .cons (.str s) (dpAll_strs ss)
/-- the order of texts has one sorted list -/
theorem leS_total (a b : Str) : (VS.leS a b || VS.leS b a) = true := by
  unfold VS.leS
  rw [Bool.or_eq_true, decide_eq_true_eq, decide_eq_true_eq]
  exact List.le_total _ _
theorem leS_trans (a b c : Str) (h1 : VS.leS a b = true) (h2 : VS.leS b c = true) : VS.leS a c = true := by
  unfold VS.leS at *
  rw [decide_eq_true_eq] at *
  exact List.le_trans h1 h2
theorem leS_anti {a b : Str} (h1 : VS.leS a b = true) (h2 : VS.leS b a = true) : a = b := by
  unfold VS.leS at *
  rw [decide_eq_true_eq] at *
  exact PyProof.Rows.ext_toList (List.le_antisymm h1 h2)
theorem sort_perm {xs ys : List Str} (h : xs.Perm ys) : xs.mergeSort VS.leS = ys.mergeSort VS.leS := by
  have h1 := List.pairwise_mergeSort (le := VS.leS) leS_trans leS_total xs
  have h2 := List.pairwise_mergeSort (le := VS.leS) leS_trans leS_total ys
  have p : (xs.mergeSort VS.leS).Perm (ys.mergeSort VS.leS) := (List.mergeSort_perm xs _).trans (h.trans (List.mergeSort_perm ys _).symm)
  exact p.eq_of_pairwise (fun a b _ _ x y => leS_anti x y) h1 h2
theorem sort_mem {xs ys : List Str} (n1 : xs.Nodup) (n2 : ys.Nodup) (h : ∀ x, x ∈ xs ↔ x ∈ ys) : xs.mergeSort VS.leS = ys.mergeSort VS.leS :=
  sort_perm ((List.perm_ext_iff_of_nodup n1 n2).mpr h)
end VB

set_option Elab.async false
set_option linter.all false
set_option maxRecDepth 100000
set_option maxHeartbeats 4000000
namespace VK
open PySem PySem.Spec PyProof.Rows L2 LamX NdefX VB
/-! rules told with the written part by its name (within a comprehension's block the context has names of its own) -/
section
variable {X : Cx} {K : PySem.W.Frag} (h : X.K = K)
include h
theorem ixL : IxR X (rIxL K) := by subst h; exact ix_list
theorem ixT : IxR X (rIxT K) := by subst h; exact ix_tup
theorem ixQ : IxR X (rIx K) := by subst h; exact ix_seq
theorem slT : SlR X (rSlT K) := by subst h; exact sl_tup
theorem inQ : OpR X (compareOp .In) (rIn K false) := by subst h; exact op_in_seq
theorem notInQ : OpR X (compareOp .NotIn) (rIn K true) := by subst h; exact op_notIn_seq
theorem eqD (hu : X.A.units + 64 < cLine) : OpR X (compareOp .Eq) (rEqD K) := by subst h; exact op_eqD hu
theorem neD (hu : X.A.units + 64 < cLine) : OpR X (compareOp .NotEq) (rNeD K) := by subst h; exact op_neD hu
theorem allL (hc : X.calm = true) : CallR X (.builtin "all") (rAll K) := by subst h; exact cr_all hc
theorem isi : CallR X (.builtin "isinstance") (rIsi K) := by subst h; exact call_isi
end
def rLenQ (K : PySem.W.Frag) : List V → Hp → VK → Prop := fun xs H Q => ∃ p ys, xs = [.ref p] ∧ (SqL K H p ys ∨ SqT K H p ys) ∧ Q (.int ys.length) H
def rListQ (K : PySem.W.Frag) : List V → Hp → VK → Prop := fun xs H Q => ∃ p ys, xs = [.ref p] ∧ (SqL K H p ys ∨ SqT K H p ys) ∧ ∀ l, H l = none → Q (.ref l) (upd H l (.lst ys))
def rTupQ (K : PySem.W.Frag) : List V → Hp → VK → Prop := fun xs H Q => ∃ p ys, xs = [.ref p] ∧ ((SqL K H p ys ∧ ∀ l, H l = none → Q (.ref l) (upd H l (.tup ys))) ∨ (SqT K H p ys ∧ Q (.ref p) H))
section
variable {X : Cx} {K : PySem.W.Frag} (h : X.K = K)
include h
theorem lenQ : CallR X (.builtin "len") (rLenQ K) := by subst h; exact call_len_seq
theorem listQ : CallR X (.type "list") (rListQ K) := by subst h; exact call_list_of
theorem tupQ : CallR X (.type "tuple") (rTupQ K) := by subst h; exact call_tuple_of
end
end VK
namespace VK
open PySem PySem.Spec PyProof.Rows L2 LamX NdefX VB
/-- sorted of texts, any number of them -/
def rSortS (K : PySem.W.Frag) : List V → Hp → VK → Prop := fun vs H Q => ∃ (a : Addr) (ss : List Str), vs = [V.ref a] ∧ SqL K H a (ss.map V.str) ∧
  ∀ p : Addr, H p = none → Q (.ref p) (upd H p (.lst ((ss.mergeSort VS.leS).map V.str)))
theorem sortedS {X : Cx} {K : PySem.W.Frag} (h : X.K = K) {k : Nat} (hr : Room k X.A) : CallR X (.builtin "sorted") (rSortS K) := by
  subst h
  intro pins s σ H vs us Q I r hh
  obtain ⟨a, ss, rfl, hs, q⟩ := hh
  have eS : (PySem.W.dataLe false PyData.str : Str → Str → Bool) = VS.leS := PySem.W.dataLe_str (fun x => x)
  refine VA.cr_sortedB V.str PyData.str hr pins s σ H [V.ref a] us Q I r ⟨a, ss, rfl, hs, fun b _ => .str b, ?_, ?_, ?_, fun p np => ?_⟩
  · intro d hd d' hd'
    obtain ⟨x, _, rfl⟩ := List.mem_map.mp hd
    obtain ⟨y, _, rfl⟩ := List.mem_map.mp hd'
    rfl
  · refine .inr fun d hd => ?_
    obtain ⟨x, _, rfl⟩ := List.mem_map.mp hd
    exact ⟨fun z => PyData.noConfusion z, fun xs z => PyData.noConfusion z⟩
  · intro b _
    show (0 : Nat) ≤ 8
    decide
  · rw [eS]
    exact q p np
end VK
namespace VK
open PySem PySem.Spec PyProof.Rows L2 LamX NdefX VB
/-! sets, told with the world by its name -/
section
variable {X : Cx} {w : World} (h : X.w = w)
include h
theorem sortedM {k : Nat} (hc : X.calm = true) (hr : Room k X.A) : CallR X (.builtin "sorted") (VS.rSortedM w) := by subst h; exact VS.cr_sortedM hc hr
end
end VK

set_option Elab.async false
set_option linter.all false
set_option maxRecDepth 100000
set_option maxHeartbeats 4000000
namespace VT
open PySem PySem.Spec PyProof.Rows L2
/-! tables of a set up to 2048 slots: what the library says of three masks, said of five. All that speaks of no mask is the library's. -/
/-- the masks up to 1,228 members -/
def Msk (m : Nat) : Prop := m ∈ [7, 31, 127, 511, 2047]
theorem Msk.cases {m : Nat} (h : Msk m) : m = 7 ∨ m = 31 ∨ m = 127 ∨ m = 511 ∨ m = 2047 := by
  unfold Msk at h
  simpa using h
/-- the numbers of a round, as the bits of one number -/
def marks (m : Nat) : Nat → Nat → Nat → Nat
  | 0, _, acc => acc
  | n + 1, i, acc => marks m n ((i * 5 + 1) % (m + 1)) (acc ||| 2 ^ i)
theorem marks_bit (m j : Nat) : ∀ n a acc, (marks m n (lcgN m a) acc).testBit j = true → acc.testBit j = true ∨ ∃ b, b < a + n ∧ lcgN m b = j
  | 0, _, _, z => .inl z
  | n + 1, a, acc, z => by
    rcases marks_bit m j n (a + 1) (acc ||| 2 ^ lcgN m a) z with y | ⟨b, hb, e⟩
    · rw [Nat.testBit_or, Bool.or_eq_true, Nat.testBit_two_pow, decide_eq_true_eq] at y
      exact y.imp_right fun e => ⟨a, by omega, e⟩
    · exact .inr ⟨b, by omega, e⟩
theorem round_full {m : Nat} (h : Msk m) : marks m (m + 1) 0 0 = 2 ^ (m + 1) - 1 ∧ lcgN m (m + 1) = 0 := by
  rcases h.cases with e | e | e | e | e <;> subst e <;> constructor <;> decide +kernel
theorem met_all {m : Nat} (h : Msk m) {j : Nat} (hj : j ≤ m) : ∃ b, b < m + 1 ∧ lcgN m b = j := by
  have z : (marks m (m + 1) (lcgN m 0) 0).testBit j = true := by
    show (marks m (m + 1) 0 0).testBit j = true
    rw [(round_full h).1, Nat.testBit_two_pow_sub_one]
    exact decide_eq_true (Nat.lt_succ_of_le hj)
  rcases marks_bit m j _ _ _ z with y | ⟨b, hb, e⟩
  · rw [Nat.zero_testBit] at y
    cases y
  · exact ⟨b, by omega, e⟩
theorem round_on {m : Nat} (h : Msk m) (k : Nat) : lcgN m (k + (m + 1)) = lcgN m k := by
  induction k with
  | zero => rw [Nat.zero_add]; exact (round_full h).2
  | succ k ih =>
    have e : k + 1 + (m + 1) = (k + (m + 1)) + 1 := by omega
    rw [e]
    unfold lcgN
    rw [ih]
theorem round_from {m : Nat} (h : Msk m) {i j : Nat} (hi : i ≤ m) (hj : j ≤ m) : ∃ k, k < m + 1 ∧ lcgI m i k = j := by
  obtain ⟨a, la, rfl⟩ := met_all h hi
  obtain ⟨b, lb, rfl⟩ := met_all h hj
  by_cases c : a ≤ b
  · exact ⟨b - a, by omega, by rw [lcgN_add, show a + (b - a) = b by omega]⟩
  · exact ⟨b + (m + 1) - a, by omega, by rw [lcgN_add, show a + (b + (m + 1) - a) = b + (m + 1) by omega, round_on h]⟩
/-- where a hash begins -/
abbrev home (m : Nat) (h : Int) : Nat := SetTable.bits h % (m + 1)
theorem way_in (m : Nat) (h : Int) (k : Nat) : way m h k ≤ m := by
  have l : home m h ≤ m := Nat.le_of_lt_succ (Nat.mod_lt _ (Nat.succ_pos _))
  obtain ⟨r1, r2, _⟩ := runEnd_bd l
  have q := nth_in (m := m) k (runAt m (home m h) (SetTable.bits h)) (by show home m h + (SetTable.runEnd m (home m h) - home m h) ≤ m; omega)
  exact Nat.le_trans (Nat.le_add_right _ _) q
/-- the place of the n-th run -/
theorem way_run {m : Nat} (H : Msk m) (h : Int) {j : Nat} (hj : j ≤ m) : ∃ n, n < m + 13 ∧ runI m (SetTable.bits h) n = j := by
  obtain ⟨k, l, e⟩ := round_from H (runI_le m (SetTable.bits h) 12) hj
  exact ⟨12 + k, by omega, (runI_tail (bits_lt h) k).trans e⟩
theorem way_meets {m : Nat} (H : Msk m) (h : Int) {j : Nat} (hj : j ≤ m) : ∃ k, k < 10 * SetTable.turns m ∧ way m h k = j := by
  obtain ⟨n, l, e⟩ := way_run H h hj
  obtain ⟨k, l2, e2⟩ := run_nth m (SetTable.bits h) n
  have ek : way m h k = j := by
    show (nth m _ k).j = j
    rw [e2]
    exact e
  refine ⟨k, ?_, ek⟩
  show k < 10 * (m + 15)
  omega
/-- a table in which each hash finds its own place -/
structure Tbl (t : SetTable) (hs : List Int) : Prop where
  ris : Ris t.place.toList
  dm : t.dummies = #[]
  sz : t.place.size = hs.length
  mok : Msk t.mask
  bd : ∀ y, y ∈ t.place.toList → y ≤ t.mask
  reach : ∀ (i : Nat) (g : Int) (y : Nat), hs[i]? = some g → t.place.toList[i]? = some y → ∃ c, way t.mask g c = y ∧ ∀ d, d < c → way t.mask g d ∈ t.place.toList
theorem msk_odd {m : Nat} (h : Msk m) : m % 2 = 1 := by
  rcases h.cases with e | e | e | e | e <;> rw [e]
theorem msk_le {m : Nat} (h : Msk m) : m ≤ 2047 := by
  rcases h.cases with e | e | e | e | e <;> rw [e] <;> decide
theorem Tbl.first {t : SetTable} {hs : List Int} (T : Tbl t hs) (hl : hs.length ≤ t.mask) (h : Int) : ∃ c, c < 10 * SetTable.turns t.mask ∧ way t.mask h c ∉ t.place.toList ∧ ∀ d, d < c → way t.mask h d ∈ t.place.toList := by
  obtain ⟨j, lj, nj⟩ := st_missing t.place.toList (t.mask + 1) (by rw [Array.length_toList, T.sz]; exact Nat.lt_succ_of_le hl)
  obtain ⟨k, lk, ek⟩ := way_meets T.mok h (Nat.le_of_lt_succ lj)
  obtain ⟨c, c1, c2, c3⟩ := st_least (p := fun d => way t.mask h d ∉ t.place.toList) k (by rw [← ek] at nj; exact nj)
  exact ⟨c, Nat.lt_of_le_of_lt c1 lk, c2, fun d ld => Classical.byContradiction (c3 d ld)⟩
theorem Tbl.before {t : SetTable} {hs : List Int} (T : Tbl t hs) {h : Int} {K i j : Nat} (free : way t.mask h K ∉ t.place.toList) (eh : hs[i]? = some h) (ej : t.place.toList[i]? = some j) : ∃ c, c < K ∧ way t.mask h c = j := by
  obtain ⟨c, ec, occ⟩ := T.reach i h j eh ej
  refine ⟨c, Nat.lt_of_not_le fun z => free ?_, ec⟩
  rcases Nat.eq_or_lt_of_le z with y | y
  · rw [y, ec]
    exact List.mem_of_getElem? ej
  · exact occ K y
/-- a hash more, at the first free place of its way -/
theorem Tbl.put {t : SetTable} {hs : List Int} (T : Tbl t hs) {h : Int} {K : Nat} (free : way t.mask h K ∉ t.place.toList) (occ : ∀ d, d < K → way t.mask h d ∈ t.place.toList) {j at_ : Nat} (ej : j = way t.mask h K) (eat : at_ = SetTable.below t.place j) :
    (t.put j).2 = at_ ∧ at_ ≤ hs.length ∧ Tbl (t.put j).1 (hs.take at_ ++ h :: hs.drop at_) ∧ (t.put j).1.mask = t.mask ∧ (t.put j).1.led = t.led ∧ (t.put j).1.plain = t.plain ∧ (t.put j).1.moves = t.moves ∧ (t.put j).1.finger = t.finger ∧ (t.put j).1.fill = hs.length + 1 := by
  have lat : at_ ≤ hs.length := by
    rw [eat, ← T.sz]
    exact (below_cut T.ris j).1
  have lpl : t.place.toList.length = hs.length := by rw [Array.length_toList, T.sz]
  have rows : (t.put j).1.place.toList = t.place.toList.take at_ ++ j :: t.place.toList.drop at_ := by
    rw [put_place, eat]
  have nDm := put_dm T.dm j
  have more : (t.put j).1.place.size = hs.length + 1 := by
    rw [← Array.length_toList, rows, len_ins _ (by omega), lpl]
  have keep : ∀ {y : Nat}, y ∈ t.place.toList → y ∈ (t.put j).1.place.toList := fun z => by
    rw [rows]
    exact mem_ins.2 (.inr z)
  have ris' : Ris (t.put j).1.place.toList := ris_insert T.ris fun z => free (by
    rw [← ej]
    exact List.mem_of_getElem? (by rw [Array.getElem?_toList]; exact z))
  refine ⟨eat.symm, lat, ⟨ris', nDm, (by rw [len_ins _ lat]; exact more), T.mok, fun y hy => ?_, fun i g y e1 e2 => ?_⟩, rfl, rfl, rfl, rfl, rfl, ?_⟩
  · rw [rows] at hy
    rcases mem_ins.1 hy with rfl | z
    · rw [ej]; exact way_in ..
    · exact T.bd y z
  · show ∃ c, way t.mask g c = y ∧ ∀ d, d < c → way t.mask g d ∈ (t.put j).1.place.toList
    rw [tins_get hs lat] at e1
    rw [rows, tins_get _ (by omega)] at e2
    have old : ∀ i', hs[i']? = some g → t.place.toList[i']? = some y → ∃ c, way t.mask g c = y ∧ ∀ d, d < c → way t.mask g d ∈ (t.put j).1.place.toList := fun i' x1 x2 => by
      obtain ⟨c, c1, c2⟩ := T.reach i' g y x1 x2
      exact ⟨c, c1, fun d ld => keep (c2 d ld)⟩
    rcases Nat.lt_trichotomy i at_ with c | c | c
    · rw [if_pos c] at e1 e2
      exact old i e1 e2
    · rw [if_neg (by omega), if_pos c] at e1 e2
      cases e1
      cases e2
      exact ⟨K, ej.symm, fun d ld => keep (occ d ld)⟩
    · rw [if_neg (by omega), if_neg (by omega)] at e1 e2
      exact old (i - 1) e1 e2
  · show (t.put j).1.place.size + (t.put j).1.dummies.size = _
    rw [more, nDm] <;> rfl
/-! all hashes laid anew -/
abbrev fr (m : Nat) (owner : Array (Option Nat)) (h : Int) : Option Nat := SetTable.layClean.free m owner (SetTable.turns m) (home m h) (SetTable.bits h)
theorem fr_some {m : Nat} (H : Msk m) (owner : Array (Option Nat)) (h : Int) {j : Nat} (hj : j ≤ m) (e : oAt owner j = none) :
    ∃ c, fr m owner h = some (way m h c) ∧ oAt owner (way m h c) = none ∧ ∀ d, d < c → (oAt owner (way m h d)).isNone = false := by
  obtain ⟨n, ln, en⟩ := way_run H h hj
  have ew : way m h (off m (home m h) (SetTable.bits h) n) = j := by
    show SetTable.Probe.j (nth m _ _) = j
    rw [nth_off, itL_run]
    exact en
  obtain ⟨c, c1, c2, c3⟩ := st_least (p := fun d => oAt owner (way m h d) = none) (off m (home m h) (SetTable.bits h) n) (by rw [ew]; exact e)
  have occ : ∀ d, d < c → (oAt owner (way m h d)).isNone = false := fun d ld => by
    have q := c3 d ld
    revert q
    cases oAt owner (way m h d) <;> intro q
    · exact absurd rfl q
    · rfl
  exact ⟨c, free_spec m owner _ n _ _ c (by show n < m + 15; omega) c1 occ (by rw [c2]; rfl), c2, occ⟩
theorem own_more {m : Nat} (H : Msk m) {ds : List Int} {owner : Array (Option Nat)} (W : Own m ds owner) (few : ds.length ≤ m) (h : Int) :
    ∃ j, fr m owner h = some j ∧ Own m (ds ++ [h]) (owner.setIfInBounds j (some ds.length)) := by
  obtain ⟨ps, lps, allp⟩ := W.ps
  obtain ⟨j0, l0, n0⟩ := st_missing ps (m + 1) (by omega)
  have e0 : oAt owner j0 = none := Classical.byContradiction fun z => n0 (allp j0 (Nat.le_of_lt_succ l0) z)
  obtain ⟨c, f1, f2, f3⟩ := fr_some H owner h (Nat.le_of_lt_succ l0) e0
  have inm := way_in m h c
  have ins : way m h c < owner.size := by rw [W.sz]; omega
  refine ⟨way m h c, f1, ?_⟩
  have here := oAt_set_self (some ds.length) ins
  revert f2 inm ins here f3
  generalize ew : way m h c = j
  intro f2 f3 inm ins here
  have stay : ∀ i, oAt owner i ≠ none → oAt (owner.setIfInBounds j (some ds.length)) i ≠ none := fun i z => by
    by_cases e : i = j
    · rw [e, here]; exact Option.some_ne_none _
    · rw [oAt_set_ne _ e]; exact z
  constructor
  · rw [Array.size_setIfInBounds]; exact W.sz
  · intro i k li ei
    by_cases e : i = j
    · rw [e, here] at ei
      cases ei
      refine ⟨h, c, ?_, ew.trans e.symm, fun d ld => stay _ fun z => ?_⟩
      · rw [List.getElem?_concat_length]
      · have y := f3 d ld
        rw [z] at y
        cases y
    · rw [oAt_set_ne _ e] at ei
      obtain ⟨g, d, x1, x2, x3⟩ := W.at_ i k li ei
      exact ⟨g, d, (by rw [List.getElem?_append_left (List.getElem?_eq_some_iff.mp x1).1]; exact x1), x2, fun b lb => stay _ (x3 b lb)⟩
  · intro k lk
    rw [List.length_append, List.length_singleton] at lk
    by_cases e : k = ds.length
    · exact ⟨j, inm, by rw [here, e]⟩
    · obtain ⟨i, li, ei⟩ := W.all k (by omega)
      exact ⟨i, li, by rw [oAt_set_ne _ fun z => by rw [z, f2] at ei; cases ei]; exact ei⟩
  · refine ⟨j :: ps, by rw [List.length_cons, List.length_append, lps] <;> rfl, fun i li z => ?_⟩
    by_cases e : i = j
    · rw [e]; exact List.mem_cons_self
    · rw [oAt_set_ne _ e] at z
      exact List.mem_cons_of_mem _ (allp i li z)
theorem own_all {m : Nat} (H : Msk m) : ∀ (rest ds : List Int) (owner : Array (Option Nat)), Own m ds owner → ds.length + rest.length ≤ m →
    ∃ o2, rest.foldl (stepF m) (some (owner, ds.length)) = some (o2, (ds ++ rest).length) ∧ Own m (ds ++ rest) o2 := by
  intro rest
  induction rest with
  | nil => intro ds owner W _; exact ⟨owner, by rw [List.append_nil] <;> rfl, by rw [List.append_nil]; exact W⟩
  | cons h rest ih =>
    intro ds owner W few
    rw [List.length_cons] at few
    obtain ⟨j, e, W2⟩ := own_more H W (by omega) h
    obtain ⟨o2, e2, W3⟩ := ih _ _ W2 (by rw [List.length_append, List.length_singleton]; omega)
    rw [List.append_assoc, List.singleton_append] at e2 W3
    refine ⟨o2, ?_, W3⟩
    rw [List.foldl_cons]; rw [stepF_some e]
    rw [List.length_append, List.length_singleton] at e2
    exact e2
theorem own_lay {m : Nat} (H : Msk m) (hs : Array Int) (few : hs.size ≤ m) : ∃ owner, SetTable.layClean m hs = some owner ∧ Own m hs.toList owner := by
  obtain ⟨owner, e, W⟩ := own_all H hs.toList [] _ (Own.init m) (by rw [Array.length_toList]; simpa using few)
  refine ⟨owner, ?_, W⟩
  have e' : hs.toList.foldl (stepF m) (some (Array.replicate (m + 1) none, 0)) = some (owner, ([] ++ hs.toList).length) := e
  rw [layClean_eq, e']
  rfl
/-- the rows of the new table -/
theorem live_rows {m : Nat} {hs : List Int} {owner : Array (Option Nat)} (W : Own m hs owner) :
    Ris ((liveOf m owner).map (·.1)) ∧ (∀ y ∈ (liveOf m owner).map (·.1), y ≤ m) ∧ ((liveOf m owner).map (·.2)).Perm (List.range hs.length) := by
  have r := ris_live (fun j => owner.getD j none) (List.range (m + 1)) (by unfold Ris; exact List.pairwise_lt_range)
  have asc : Ris ((liveOf m owner).map (·.1)) := r.1
  have all : ∀ k, k < hs.length → k ∈ (liveOf m owner).map (·.2) := fun k lk => by
    obtain ⟨j, lj, ej⟩ := W.all k lk
    exact List.mem_map.mpr ⟨(j, k), (mem_live W.sz).2 ⟨lj, ej⟩, rfl⟩
  obtain ⟨ps, lps, allp⟩ := W.ps
  have up : (liveOf m owner).length ≤ hs.length := by
    have z := nat_nodup_len ((liveOf m owner).map (·.1)) ps (List.nodup_iff_pairwise_ne.mpr (asc.imp fun y => Nat.ne_of_lt y)) fun x hx => by
      obtain ⟨⟨j, k⟩, hq, rfl⟩ := List.mem_map.mp hx
      obtain ⟨y1, y2⟩ := (mem_live W.sz).1 hq
      exact allp j y1 (by rw [y2]; exact Option.some_ne_none _)
    rw [List.length_map] at z
    omega
  have down : hs.length ≤ (liveOf m owner).length := by
    have z := nat_nodup_len (List.range hs.length) ((liveOf m owner).map (·.2)) List.nodup_range fun k hk => all k (List.mem_range.mp hk)
    rw [List.length_map, List.length_range] at z
    exact z
  refine ⟨asc, fun y hy => ?_, perm_range _ _ (by rw [List.length_map]; omega) all⟩
  obtain ⟨⟨j, k⟩, hq, rfl⟩ := List.mem_map.mp hy
  exact ((mem_live W.sz).1 hq).1
theorem laidAnew (t : SetTable) (hs : Array Int) {wanted m : Nat} (ew : SetTable.sizeAbove wanted - 1 = m) (H : Msk m) (few : hs.size ≤ m) :
    ∃ t' order, t.relaid hs wanted = some (t', order) ∧ order.toList.Perm (List.range hs.size) ∧ Tbl t' (order.toList.map fun i => hs.getD i 0) ∧ t'.mask = m ∧ t'.led = t.led ∧ t'.plain = t.plain ∧ t'.dummies = #[] := by
  obtain ⟨owner, e, W⟩ := own_lay H hs few
  obtain ⟨asc, low, pm⟩ := live_rows W
  refine ⟨tabOf t m owner, ((liveOf m owner).map (·.2)).toArray, by rw [relaid_eq, ew, e] <;> rfl, pm, ?_, rfl, rfl, rfl, rfl⟩
  refine ⟨asc, rfl, ?_, H, low, fun i g y e1 e2 => ?_⟩
  · show ((liveOf m owner).map (·.1)).toArray.size = _
    simp
  · have e1 : (((liveOf m owner).map (·.2)).map fun i => hs.getD i 0)[i]? = some g := e1
    have e2 : ((liveOf m owner).map (·.1))[i]? = some y := e2
    rw [List.getElem?_map, List.getElem?_map] at e1
    rw [List.getElem?_map] at e2
    obtain ⟨⟨j, k⟩, hq, rfl⟩ := Option.map_eq_some_iff.mp e2
    rw [hq] at e1
    have eg : hs.getD k 0 = g := Option.some.inj e1
    obtain ⟨lj, ej⟩ := (mem_live W.sz).1 (List.mem_of_getElem? hq)
    obtain ⟨g2, c, a1, a2, a3⟩ := W.at_ j k lj ej
    have : g2 = g := by
      rw [← eg, Array.getD_eq_getD_getElem?, ← Array.getElem?_toList, a1] <;> rfl
    subst this
    refine ⟨c, a2, fun d ld => ?_⟩
    show way m g2 d ∈ (liveOf m owner).map (·.1)
    obtain ⟨k2, e4⟩ := Option.ne_none_iff_exists'.mp (a3 d ld)
    exact List.mem_map.mpr ⟨(way m g2 d, k2), (mem_live W.sz).2 ⟨way_in m g2 d, e4⟩, rfl⟩
theorem grow_5 : SetTable.sizeAbove (SetTable.grown 5) - 1 = 31 := by decide +kernel
theorem grow_19 : SetTable.sizeAbove (SetTable.grown 19) - 1 = 127 := by decide +kernel
theorem grow_77 : SetTable.sizeAbove (SetTable.grown 77) - 1 = 511 := by decide +kernel
theorem grow_307 : SetTable.sizeAbove (SetTable.grown 307) - 1 = 2047 := by decide +kernel
end VT

set_option Elab.async false
set_option linter.all false
set_option maxRecDepth 100000
set_option maxHeartbeats 4000000
namespace VT
open PySem PySem.Spec PyProof.Rows L2
/-! sets of tuples, any kind of members (Mem), at most 1,200. The table's laws: VTk. -/
section
variable {P : Program} {w : World} {κ : Type} [DecidableEq κ]
/-- no reference -/
def NoRef (v : Value) : Prop := ∀ a, v ≠ .ref a
theorem noRef_of {v : Value} (h : carriedByValue v = true) : NoRef v := fun a e => by
  rw [e] at h
  simp [carriedByValue] at h
theorem class_no {v : Value} (h : NoRef v) (n : Nat) : ofAClassStatement n v = pure false := by
  cases v with
  | ref a => exact absurd rfl (h a)
  | _ => cases n <;> rfl
theorem hash_some {v : Value} (h : NoRef v) (n : Nat) : ∃ b, hashByValue n v = pure b := by
  cases v with
  | ref a => exact absurd rfl (h a)
  | _ => cases n <;> exact ⟨_, rfl⟩
variable {A : Around} {E : Value → Shared → Prop} {s : Shared} {knd : KeyKind P w κ}
theorem items_noRef {k : List κ} {vs : List Value} (h : ItemsAre knd k vs) : ∀ v ∈ vs, NoRef v := fun v hv => noRef_of (h.byValue v hv)
theorem class_tuple {k : List κ} {b : Addr} {Q : Bool → Shared → Prop} (hk : IsTupleKey knd s.heap k b) (h : Q false s) : wpAny (model P w) A (ofAClassStatement 8 (.ref b)) Q E s := by
  have hT := hk.typeIs
  obtain ⟨o, items, n, ho, _, hd, hi⟩ := hk
  have plain := items_noRef hi
  unfold ofAClassStatement
  refine wpAny_bind (wpAny_typeOf hT ?_)
  simp only [show (("tuple" : String) == "tuple") = true by decide, if_true, Bool.not_true, Bool.false_eq_true, if_false]
  try refine wpAny_bind (wpAny_pure ?_)
  try simp only [Bool.not_true, Bool.false_eq_true, if_false]
  show wpAny _ _ (seqItems? (.ref b) >>= _) _ _ s
  refine wpAny_bind (wpAny_seqItems ho hd ?_)
  refine wpAny_bind ?_
  show wpAny _ _ (forIn items _ _) _ _ s
  rw [← Array.forIn_toList]
  refine wpAny_forIn_list _ (fun rest r s' => (r.1 = none ∧ s' = s) ∧ ∀ v ∈ rest, NoRef v) _ ?_ ?_ _ _ ⟨⟨rfl, rfl⟩, plain⟩
  · rintro v rest r s' ⟨⟨hr, rfl⟩, all⟩
    rw [class_no (all v List.mem_cons_self)]
    refine wpAny_bind (wpAny_pure ?_)
    simp only [Bool.false_eq_true, if_false]
    exact wpAny_pure ⟨⟨rfl, rfl⟩, fun u hu => all u (List.mem_cons_of_mem _ hu)⟩
  · rintro ⟨r1, r2⟩ s' ⟨⟨hr, rfl⟩, _⟩
    simp only at hr
    subst hr
    exact wpAny_pure h
theorem byValue_tuple {k : List κ} {b : Addr} {Q : Bool → Shared → Prop} (hk : IsTupleKey knd s.heap k b) (h : ∀ c, Q c s) : wpAny (model P w) A (hashByValue 8 (.ref b)) Q E s := by
  have hT := hk.typeIs
  obtain ⟨o, items, n, ho, _, hd, hi⟩ := hk
  have plain := items_noRef hi
  unfold hashByValue
  refine wpAny_bind (wpAny_specialOf hT F.slot_tuple_hash.lookup ?_)
  show wpAny _ _ (seqItems? (.ref b) >>= _) _ _ s
  refine wpAny_bind (wpAny_seqItems ho hd ?_)
  refine wpAny_bind ?_
  show wpAny _ _ (forIn items _ _) _ _ s
  rw [← Array.forIn_toList]
  refine wpAny_forIn_list _ (fun rest r s' => (r.1 = none ∧ s' = s) ∧ ∀ v ∈ rest, NoRef v) _ ?_ ?_ _ _ ⟨⟨rfl, rfl⟩, plain⟩
  · rintro v rest r s' ⟨⟨hr, rfl⟩, all⟩
    obtain ⟨c, e⟩ := hash_some (all v List.mem_cons_self) 7
    rw [e]
    refine wpAny_bind (wpAny_pure ?_)
    cases c with
    | true =>
      simp only [Bool.not_true, Bool.false_eq_true, if_false]
      exact wpAny_pure ⟨⟨rfl, rfl⟩, fun u hu => all u (List.mem_cons_of_mem _ hu)⟩
    | false =>
      simp only [Bool.not_false, if_true]
      exact wpAny_pure (wpAny_pure (h false))
  · rintro ⟨r1, r2⟩ s' ⟨⟨hr, rfl⟩, _⟩
    simp only at hr
    subst hr
    exact wpAny_pure (h true)
end
/-- a kind of members: tuples of some kind of keys -/
structure Mem (P : Program) (w : World) (κ : Type) [DecidableEq κ] where
  is : Heap → κ → Addr → Prop
  hash : κ → Int
  toks : κ → Nat
  deep : Nat
  few : deep ≤ 8
  seq : ∀ {h : Heap} {k : κ} {a : Addr}, is h k a → ∃ o items n, h.get? a = some o ∧ o.cls = .type "tuple" ∧ o.data = .seq items n
  keep : ∀ {h h' : Heap} {k : κ} {a : Addr}, is h k a → (∀ b o vs n, h.get? b = some o → o.data = .seq vs n → h'.get? b = some o) → is h' k a
  hashes : ∀ {A : Around} {E : Value → Shared → Prop} {s : Shared} {k : κ} {a : Addr} {Q : Int → Shared → Prop}, A.units + deep < cLine → is s.heap k a → Q (hash k) { s with toks := s.toks + toks k } → wpAny (model P w) A (pyHash (.ref a)) Q E s
  eq : ∀ {A : Around} {E : Value → Shared → Prop} {s : Shared} {x y : κ} {a b : Addr} {Q : Bool → Shared → Prop}, A.units + deep < cLine → is s.heap x a → is s.heap y b → Q (decide (x = y)) s → wpAny (model P w) A (eqBool (.ref a) (.ref b)) Q E s
  quiet : ∀ {A : Around} {E : Value → Shared → Prop} {s : Shared} {k : κ} {a : Addr} {Q : Bool → Shared → Prop}, is s.heap k a → Q true s → wpAny (model P w) A (eqIsQuiet 8 (.ref a)) Q E s
  cls : ∀ {A : Around} {E : Value → Shared → Prop} {s : Shared} {k : κ} {a : Addr} {Q : Bool → Shared → Prop}, is s.heap k a → Q false s → wpAny (model P w) A (ofAClassStatement 8 (.ref a)) Q E s
  byVal : ∀ {A : Around} {E : Value → Shared → Prop} {s : Shared} {k : κ} {a : Addr} {Q : Bool → Shared → Prop}, is s.heap k a → (∀ c, Q c s) → wpAny (model P w) A (hashByValue 8 (.ref a)) Q E s
/-- tuples of flat keys -/
def tupM {P : Program} {w : World} {κ : Type} [DecidableEq κ] (knd : KeyKind P w κ) : Mem P w (List κ) where
  is := IsTupleKey knd
  hash := tupleKeyHash knd
  toks := fun k => k.length + 1
  deep := 0
  few := by decide
  seq := fun ⟨o, items, n, h1, h2, h3, _⟩ => ⟨o, items, n, h1, h2, h3⟩
  keep := fun ⟨o, items, n, h1, h2, h3, h4⟩ z => ⟨o, items, n, z _ _ _ _ h1 h3, h2, h3, h4⟩
  hashes := fun hu hk h => wpAny_pyHash_tuple hu hk h
  eq := fun hu hx hy h => wpAny_eqBool_tuple hu hx hy h
  quiet := fun hk h => wpAny_eqIsQuiet_tuple hk h
  cls := fun hk h => class_tuple hk h
  byVal := fun hk h => byValue_tuple hk h
/-! nested keys -/
section
variable {P : Program} {w : World}
def NoClsAt (P : Program) (w : World) (n : Nat) (s : Shared) (v : Value) : Prop := ∀ (A : Around) (E : Value → Shared → Prop) (Q : Bool → Shared → Prop), Q false s → wpAny (model P w) A (ofAClassStatement n v) Q E s
def ByValAt (P : Program) (w : World) (n : Nat) (s : Shared) (v : Value) : Prop := ∀ (A : Around) (E : Value → Shared → Prop) (Q : Bool → Shared → Prop), (∀ c, Q c s) → wpAny (model P w) A (hashByValue n v) Q E s
theorem noCls_flat {n : Nat} {s : Shared} {v : Value} (h : NoRef v) : NoClsAt P w n s v := fun A E Q q => by
  rw [class_no h]
  exact wpAny_pure q
theorem byVal_flat {n : Nat} {s : Shared} {v : Value} (h : NoRef v) : ByValAt P w n s v := fun A E Q q => by
  obtain ⟨b, e⟩ := hash_some h n
  rw [e]
  exact wpAny_pure (q b)
theorem noCls_tup {n : Nat} {s : Shared} {a : Addr} {o : Obj} {vs : Array Value} {m : Nat} (ho : s.heap.get? a = some o) (hc : o.cls = .type "tuple") (hd : o.data = .seq vs m) (hq : ∀ v ∈ vs.toList, NoClsAt P w n s v) : NoClsAt P w (n + 1) s (.ref a) := fun A E Q h => by
  have hT : s.TypeIs (.ref a) "tuple" := ⟨o, ho, hc⟩
  unfold ofAClassStatement
  refine wpAny_bind (wpAny_typeOf hT ?_)
  simp only [show (("tuple" : String) == "tuple") = true by decide, if_true, Bool.not_true, Bool.false_eq_true, if_false]
  try refine wpAny_bind (wpAny_pure ?_)
  try simp only [Bool.not_true, Bool.false_eq_true, if_false]
  show wpAny _ _ (seqItems? (.ref a) >>= _) _ _ s
  refine wpAny_bind (wpAny_seqItems ho hd ?_)
  refine wpAny_bind ?_
  show wpAny _ _ (forIn vs _ _) _ _ s
  rw [← Array.forIn_toList]
  refine wpAny_forIn_list _ (fun rest r s' => (r.1 = none ∧ s' = s) ∧ ∀ v ∈ rest, NoClsAt P w n s v) _ ?_ ?_ _ _ ⟨⟨rfl, rfl⟩, hq⟩
  · rintro v rest r s' ⟨⟨hr, rfl⟩, all⟩
    refine wpAny_bind (all v List.mem_cons_self _ _ _ ?_)
    simp only [Bool.false_eq_true, if_false]
    exact wpAny_pure ⟨⟨rfl, rfl⟩, fun u hu => all u (List.mem_cons_of_mem _ hu)⟩
  · rintro ⟨r1, r2⟩ s' ⟨⟨hr, rfl⟩, _⟩
    simp only at hr
    subst hr
    exact wpAny_pure h
theorem byVal_tup {n : Nat} {s : Shared} {a : Addr} {o : Obj} {vs : Array Value} {m : Nat} (ho : s.heap.get? a = some o) (hc : o.cls = .type "tuple") (hd : o.data = .seq vs m) (hq : ∀ v ∈ vs.toList, ByValAt P w n s v) : ByValAt P w (n + 1) s (.ref a) := fun A E Q h => by
  have hT : s.TypeIs (.ref a) "tuple" := ⟨o, ho, hc⟩
  unfold hashByValue
  refine wpAny_bind (wpAny_specialOf hT F.slot_tuple_hash.lookup ?_)
  show wpAny _ _ (seqItems? (.ref a) >>= _) _ _ s
  refine wpAny_bind (wpAny_seqItems ho hd ?_)
  refine wpAny_bind ?_
  show wpAny _ _ (forIn vs _ _) _ _ s
  rw [← Array.forIn_toList]
  refine wpAny_forIn_list _ (fun rest r s' => (r.1 = none ∧ s' = s) ∧ ∀ v ∈ rest, ByValAt P w n s v) _ ?_ ?_ _ _ ⟨⟨rfl, rfl⟩, hq⟩
  · rintro v rest r s' ⟨⟨hr, rfl⟩, all⟩
    refine wpAny_bind (all v List.mem_cons_self _ _ _ fun c => ?_)
    cases c with
    | true =>
      simp only [Bool.not_true, Bool.false_eq_true, if_false]
      exact wpAny_pure ⟨⟨rfl, rfl⟩, fun u hu => all u (List.mem_cons_of_mem _ hu)⟩
    | false =>
      simp only [Bool.not_false, if_true]
      exact wpAny_pure (wpAny_pure (h false))
  · rintro ⟨r1, r2⟩ s' ⟨⟨hr, rfl⟩, _⟩
    simp only at hr
    subst hr
    exact wpAny_pure (h true)
mutual
theorem nested_noCls : ∀ (k : NestedKey) (v : Value) (n : Nat) (s : Shared), NestedIs s.heap k v → k.depth ≤ n → NoClsAt P w n s v
  | .none, _, n, s, x, _ => by cases x; exact noCls_flat (fun a e => nomatch e)
  | .num i, _, n, s, x, _ => by cases x <;> exact noCls_flat (fun a e => nomatch e)
  | .text y, _, n, s, x, _ => by cases x; exact noCls_flat (fun a e => nomatch e)
  | .tup ks, _, n, s, x, hn => by
    cases x with
    | tup hg hc hd hk =>
      simp only [NestedKey.depth] at hn
      cases n with
      | zero => omega
      | succ n => exact noCls_tup hg hc hd (nesteds_noCls ks _ n s hk (by omega))
theorem nesteds_noCls : ∀ (ks : List NestedKey) (vs : List Value) (n : Nat) (s : Shared), NestedAll s.heap ks vs → NestedKey.depthAll ks ≤ n → ∀ v ∈ vs, NoClsAt P w n s v
  | [], _, n, s, x, _, v, hv => by cases x; cases hv
  | k :: ks, _, n, s, x, hn, v, hv => by
    cases x with
    | cons x1 x2 =>
      simp only [NestedKey.depthAll] at hn
      rcases List.mem_cons.mp hv with e | hv
      · rw [e]; exact nested_noCls k _ n s x1 (by omega)
      · exact nesteds_noCls ks _ n s x2 (by omega) v hv
end
mutual
theorem nested_byVal : ∀ (k : NestedKey) (v : Value) (n : Nat) (s : Shared), NestedIs s.heap k v → k.depth ≤ n → ByValAt P w n s v
  | .none, _, n, s, x, _ => by cases x; exact byVal_flat (fun a e => nomatch e)
  | .num i, _, n, s, x, _ => by cases x <;> exact byVal_flat (fun a e => nomatch e)
  | .text y, _, n, s, x, _ => by cases x; exact byVal_flat (fun a e => nomatch e)
  | .tup ks, _, n, s, x, hn => by
    cases x with
    | tup hg hc hd hk =>
      simp only [NestedKey.depth] at hn
      cases n with
      | zero => omega
      | succ n => exact byVal_tup hg hc hd (nesteds_byVal ks _ n s hk (by omega))
theorem nesteds_byVal : ∀ (ks : List NestedKey) (vs : List Value) (n : Nat) (s : Shared), NestedAll s.heap ks vs → NestedKey.depthAll ks ≤ n → ∀ v ∈ vs, ByValAt P w n s v
  | [], _, n, s, x, _, v, hv => by cases x; cases hv
  | k :: ks, _, n, s, x, hn, v, hv => by
    cases x with
    | cons x1 x2 =>
      simp only [NestedKey.depthAll] at hn
      rcases List.mem_cons.mp hv with e | hv
      · rw [e]; exact nested_byVal k _ n s x1 (by omega)
      · exact nesteds_byVal ks _ n s x2 (by omega) v hv
end
/-- nested tuples -/
def nestM (P : Program) (w : World) : Mem P w NestedKey where
  is := fun h k a => (NestedIs h k (.ref a) ∧ k.depth ≤ 8) ∧ ∃ ks, k = .tup ks
  hash := fun k => k.hash w
  toks := fun k => k.draws
  deep := 8
  few := by decide
  seq := fun ⟨⟨h, _⟩, ks, e⟩ => by
    subst e
    cases h with
    | tup h1 h2 h3 h4 => exact ⟨_, _, _, h1, h2, h3⟩
  keep := fun ⟨⟨h, d⟩, e⟩ z => ⟨⟨NestedIs.at z _ _ h, d⟩, e⟩
  hashes := fun hu hk h => pyHash_key _ _ _ _ _ hk.1.1 (Nat.lt_of_le_of_lt (Nat.add_le_add_left hk.1.2 _) hu) h
  eq := fun hu hx hy h => (nestedKind P w).eqBool hu hx.1 hy.1 h
  quiet := fun hk h => quiet_key _ _ 8 _ hk.1.1 hk.1.2 _ _ _ h
  cls := fun hk h => nested_noCls _ _ 8 _ hk.1.1 hk.1.2 _ _ _ h
  byVal := fun hk h => nested_byVal _ _ 8 _ hk.1.1 hk.1.2 _ _ _ h
end
section
variable {P : Program} {w : World} {κ : Type} [DecidableEq κ]
variable {A : Around} {E : Value → Shared → Prop} {s : Shared} {knd : Mem P w κ}
/-- nobody sees a search among such tuples -/
theorem unseen {k : κ} {b : Addr} {Q : Bool → Shared → Prop} (hk : knd.is s.heap k b) {ys : List Value} (hy : ∀ y ∈ ys, ∃ k' c, y = Value.ref c ∧ knd.is s.heap k' c) (h : Q false s) :
    wpAny (model P w) A (searchCouldBeSeen (.ref b) ys) Q E s := by
  unfold searchCouldBeSeen
  refine wpAny_bind (wpAny_forIn_list _ (fun rest r s' => (r.1 = none ∧ s' = s) ∧ ∀ y ∈ rest, ∃ k' c, y = Value.ref c ∧ knd.is s.heap k' c) _ ?_ ?_ _ _ ⟨⟨rfl, rfl⟩, hy⟩)
  · rintro v rest r s' ⟨⟨hr, rfl⟩, all⟩
    obtain ⟨k', c, rfl, hc⟩ := all v List.mem_cons_self
    have tail := fun u (hu : u ∈ rest) => all u (List.mem_cons_of_mem _ hu)
    dsimp only
    split
    · exact wpAny_pure ⟨⟨rfl, rfl⟩, tail⟩
    · refine wpAny_bind (knd.quiet hk ?_)
      simp only [Bool.not_true, Bool.false_eq_true, if_false]
      refine wpAny_bind (knd.quiet hc ?_)
      simp only [Bool.not_true, Bool.false_eq_true, if_false]
      refine wpAny_bind (knd.cls hk ?_)
      simp only [Bool.false_eq_true, if_false]
      refine wpAny_bind (knd.cls hc ?_)
      simp only [Bool.false_eq_true, if_false]
      exact wpAny_pure ⟨⟨rfl, rfl⟩, tail⟩
  · rintro ⟨r1, r2⟩ s' ⟨⟨hr, rfl⟩, _⟩
    simp only at hr
    subst hr
    exact wpAny_pure h
/-! the set: its members in the order of the table -/
abbrev hOf (knd : Mem P w κ) (k : κ) : Int := knd.hash k
def ent (knd : Mem P w κ) (p : Addr × κ) : Int × Value := (hOf knd p.2, Value.ref p.1)
/-- members L in the entries es and the table t -/
structure Laid (knd : Mem P w κ) (h : Heap) (L : List (Addr × κ)) (es : Array (Int × Value)) (t : SetTable) : Prop where
  rows : es.toList = L.map (ent knd)
  tab : Tbl t (L.map fun p => hOf knd p.2)
  nd : (L.map (·.2)).Nodup
  mem : ∀ p ∈ L, knd.is h p.2 p.1
  led : w.params.followText "set-order" = true ∨ t.led = true
def SetK (knd : Mem P w κ) (h : Heap) (a : Addr) (L : List (Addr × κ)) : Prop :=
  ∃ o es ep t, h.get? a = some o ∧ o.ExactSet ∧ o.data = .set es ep t ∧ Laid knd h L es t ∧ L.length * 5 < t.mask * 3 ∧ L.length < 1201
variable {L : List (Addr × κ)} {es : Array (Int × Value)} {t : SetTable}
theorem Laid.size {h : Heap} (R : Laid knd h L es t) : es.size = L.length := by
  rw [← Array.length_toList, R.rows, List.length_map]
theorem Laid.places {h : Heap} (R : Laid knd h L es t) : t.place.toList.length = L.length := by
  rw [Array.length_toList, R.tab.sz, List.length_map]
theorem Laid.fits {h : Heap} (R : Laid knd h L es t) (hm : L.length ≤ t.mask) : t.fits es.size = true := by
  have h2 := R.size
  have h3 := R.places
  rw [Array.length_toList] at h3
  unfold SetTable.fits SetTable.fill
  rw [R.tab.dm, Bool.and_eq_true, beq_iff_eq, decide_eq_true_eq]
  exact ⟨by omega, (by show t.place.size + 0 ≤ t.mask; omega)⟩
theorem Laid.entry {h : Heap} (R : Laid knd h L es t) {i : Nat} {p : Addr × κ} (e : L[i]? = some p) : es[i]? = some (hOf knd p.2, Value.ref p.1) := by
  rw [← Array.getElem?_toList, R.rows, List.getElem?_map, e] <;> rfl
theorem Laid.hashAt {h : Heap} (R : Laid knd h L es t) {i : Nat} {p : Addr × κ} (e : L[i]? = some p) : (es[i]?.map (·.1)).getD 0 = hOf knd p.2 := by
  rw [R.entry e] <;> rfl
theorem Laid.at_ {h : Heap} (R : Laid knd h L es t) {i j : Nat} (e : t.place.toList[i]? = some j) : ∃ p, L[i]? = some p := by
  have h1 := (List.getElem?_eq_some_iff.mp e).1
  rw [R.places] at h1
  exact ⟨_, List.getElem?_eq_getElem h1⟩
/-- the c-th place of the way, as the search keeps it -/
abbrev pr (m : Nat) (h : Int) (c : Nat) : SetTable.Probe := nth m (runAt m (SetTable.bits h % (m + 1)) (SetTable.bits h)) c
theorem nth_noDummy (m : Nat) : ∀ (n : Nat) (p : SetTable.Probe), p.dummy = none → (nth m p n).dummy = none
  | 0, _, h => h
  | n + 1, p, h => nth_noDummy m n (adv m p) (by unfold adv; split <;> exact h)
theorem pr_add (m : Nat) (h : Int) (c q : Nat) : nth m (pr m h c) q = pr m h (c + q) := (nth_add m c _ q).symm
/-- one look of the search, from the place c on: the first member of this hash not before it, or the free place K -/
theorem look {hp : Heap} (R : Laid knd hp L es t) (h : Int) {K c : Nat} (hKf : K < 10 * SetTable.turns t.mask) (hK : way t.mask h K ∉ t.place.toList) (hb : ∀ k, k < K → way t.mask h k ∈ t.place.toList) (hc : c ≤ K) :
    (∃ d i, c ≤ d ∧ d < K ∧ t.place.toList[i]? = some (way t.mask h d) ∧ (∀ (d' i' : Nat) (p : Addr × κ), c ≤ d' → d' < d → t.place.toList[i']? = some (way t.mask h d') → L[i']? = some p → hOf knd p.2 ≠ h) ∧
      t.probe (fun i => (es[i]?.map (·.1)).getD 0) h (pr t.mask h c) = some (.candidate (way t.mask h d) i (pr t.mask h (d + 1)))) ∨
    ((∀ (d' i' : Nat) (p : Addr × κ), c ≤ d' → d' < K → t.place.toList[i']? = some (way t.mask h d') → L[i']? = some p → hOf knd p.2 ≠ h) ∧
      t.probe (fun i => (es[i]?.map (·.1)).getD 0) h (pr t.mask h c) = some (.empty (way t.mask h K) none)) := by
  have ej : ∀ q, (nth t.mask (pr t.mask h c) q).j = way t.mask h (c + q) := fun q => congrArg SetTable.Probe.j (pr_add t.mask h c q)
  have back : ∀ d, c ≤ d → c + (d - c) = d := fun d z => by omega
  rcases go_spec t R.tab.ris R.tab.dm (fun i => (es[i]?.map (·.1)).getD 0) h (10 * SetTable.turns t.mask) (K - c) (pr t.mask h c) (nth_noDummy _ _ _ rfl) (by omega)
      (fun q hq => by rw [ej]; exact hb _ (by omega)) (by rw [ej, back K hc]; exact hK) with ⟨q, i, h1, h2, h3, h4, h5⟩ | ⟨h4, h5⟩
  · refine .inl ⟨c + q, i, by omega, by omega, by rw [← ej]; exact h2, fun d' i' p z1 z2 z3 z4 e => ?_, ?_⟩
    · refine h4 (d' - c) i' (by omega) (by rw [ej, back d' z1]; exact z3) ?_
      exact (R.hashAt z4).trans e
    · have e1 : pr t.mask h (c + q + 1) = nth t.mask (pr t.mask h c) (q + 1) := by rw [pr_add]; rfl
      rw [e1, ← ej]
      exact h5
  · refine .inr ⟨fun d' i' p z1 z2 z3 z4 e => ?_, ?_⟩
    · refine h4 (d' - c) i' (by omega) (by rw [ej, back d' z1]; exact z3) ?_
      exact (R.hashAt z4).trans e
    · have e1 : way t.mask h K = (nth t.mask (pr t.mask h c) (K - c)).j := by rw [ej, back K hc]
      rw [e1]
      exact h5
variable {a : Addr} {o : Obj} {ep : Nat}
/-- the search of a tuple of the keys k -/
theorem search (ho : s.heap.get? a = some o) (hd : o.data = .set es ep t) (R : Laid knd s.heap L es t) (hm : L.length ≤ t.mask) {x : Addr} {k : κ} (hx : knd.is s.heap k x) (hu : A.units + knd.deep < cLine)
    {K : Nat} (hKf : K < 10 * SetTable.turns t.mask) (hK : way t.mask (hOf knd k) K ∉ t.place.toList) (hb : ∀ d, d < K → way t.mask (hOf knd k) d ∈ t.place.toList) {Q : SetFound → Shared → Prop}
    (yes : k ∈ L.map (·.2) → Q (.there none) s) (no : k ∉ L.map (·.2) → Q (.free (way t.mask (hOf knd k) K) false) s) :
    ∀ (f c : Nat) (stand : Option SetTable.Probe), stand.getD (t.probeStart (hOf knd k)) = pr t.mask (hOf knd k) c → c ≤ K → K - c < f →
      (∀ (d i : Nat) (p : Addr × κ), d < c → t.place.toList[i]? = some (way t.mask (hOf knd k) d) → L[i]? = some p → p.2 ≠ k) →
      wpAny (model P w) A (setSearchFrom a (.ref x) (hOf knd k) true f stand) Q E s := by
  intro f
  induction f with
  | zero => exact fun c stand _ _ z _ => absurd z (Nat.not_lt_zero _)
  | succ f ih =>
    intro c stand est hc hf past
    rw [setSearchFrom_succ]
    refine wpAny_bind (wpAny_setState_of ho hd (R.fits hm) ?_)
    dsimp only
    refine wp_if_neg (by unfold SetTable.gaveWay; rw [msk_odd R.tab.mok]; decide) ?_
    try refine wpAny_bind (wpAny_pure ?_)
    rw [est]
    rcases look R (hOf knd k) hKf hK hb hc with ⟨d, i, d1, d2, d3, d4, e⟩ | ⟨d4, e⟩
    · rw [e]
      dsimp only
      obtain ⟨p, hp⟩ := R.at_ d3
      have hpm := List.mem_of_getElem? hp
      have cont : wpAny (model P w) A (searchRest a (.ref x) (hOf knd k) true f es t (way t.mask (hOf knd k) d) i (pr t.mask (hOf knd k) (d + 1))) Q E s := by
        unfold searchRest
        rw [R.entry hp]
        refine wpAny_bind (wpAny_holding (knd.eq hu (R.mem p hpm) hx ?_))
        refine wpAny_bind (wpAny_setState_of ho hd (R.fits hm) ?_)
        dsimp only
        by_cases same : p.2 = k
        · refine wp_if_pos (by simp [same]) (wpAny_pure (yes ?_))
          rw [← same]
          exact List.mem_map_of_mem hpm
        · refine wp_if_neg (by simp [same]) ?_
          try refine wpAny_bind (wpAny_pure ?_)
          rw [sameMem]
          simp only [if_true, slot_live R.tab.ris d3, R.entry hp]
          refine wpAny_bind (wpAny_isSame_ref_self (wpAny_bind (wpAny_pure ?_)))
          simp only [if_true]
          refine wp_if_neg (by simp [same]) ?_
          refine ih (d + 1) _ rfl d2 (by omega) fun d' i' p' z1 z2 z3 z4 => ?_
          rcases Nat.lt_or_ge d' c with y | y
          · exact past d' i' p' y z2 z3 z4
          · rcases Nat.lt_or_ge d' d with u | u
            · exact d4 d' i' p' y u z2 z3 (by rw [z4])
            · obtain rfl : d' = d := by omega
              have s1 := slot_live R.tab.ris z2
              rw [slot_live R.tab.ris d3] at s1
              injection s1 with s1
              rw [← s1, hp] at z3
              exact same (by rw [Option.some.inj z3]; exact z4)
      cases hl : t.led with
      | true =>
        refine wp_if_neg (by simp) ?_
        try refine wpAny_bind (wpAny_pure ?_)
        exact cont
      | false =>
        refine wp_if_pos (by simp) (wpAny_bind (unseen hx (fun y hy => ?_) ?_))
        · obtain ⟨g, hg, rfl⟩ := List.mem_map.mp hy
          have hg2 : g ∈ es.toList := by
            have z : g ∈ es ∧ g.1 = hOf knd k := by simpa using hg
            simpa using z.1
          rw [R.rows] at hg2
          obtain ⟨p2, hp2, rfl⟩ := List.mem_map.mp hg2
          exact ⟨p2.2, p2.1, rfl, R.mem p2 hp2⟩
        · refine wp_if_neg (by decide) ?_
          try refine wpAny_bind (wpAny_pure ?_)
          exact cont
    · rw [e]
      refine wpAny_pure (no fun hin => ?_)
      obtain ⟨p, hp, ek⟩ := List.mem_map.mp hin
      obtain ⟨i, hi, eg⟩ := List.getElem_of_mem hp
      have g1 : L[i]? = some p := by rw [List.getElem?_eq_getElem hi, eg]
      have g2 : (L.map fun p => hOf knd p.2)[i]? = some (hOf knd k) := by rw [List.getElem?_map, g1, ← ek] <;> rfl
      have hj : i < t.place.toList.length := by rw [R.places]; exact hi
      obtain ⟨d, z1, z2⟩ := R.tab.before hK g2 (List.getElem?_eq_getElem hj)
      have g3 : t.place.toList[i]? = some (way t.mask (hOf knd k) d) := by rw [List.getElem?_eq_getElem hj, z2]
      rcases Nat.lt_or_ge d c with y | y
      · exact past d i p y g3 g1 ek
      · exact d4 d i p y z1 g3 g1 (by rw [ek])
theorem range_all {α : Type} : ∀ l : List α, (List.range l.length).filterMap (fun i => l[i]?) = l
  | [] => rfl
  | x :: l => by
    rw [List.length_cons, List.range_succ_eq_map, List.filterMap_cons_some (f := fun i => (x :: l)[i]?) (b := x) rfl, List.filterMap_map]
    exact congrArg (x :: ·) (range_all l)
/-- the entries in another order -/
theorem reorder (rows : es.toList = L.map (ent knd)) {order : Array Nat} (hp : order.toList.Perm (List.range L.length)) :
    ∃ L2 : List (Addr × κ), (order.filterMap (es[·]?)).toList = L2.map (ent knd) ∧ L2.Perm L ∧ (L2.map fun p => hOf knd p.2) = order.toList.map fun i => (es.map (·.1)).getD i 0 := by
  have e1 : (fun i : Nat => es[i]?) = fun i => (L[i]?).map (ent knd) := funext fun i => by rw [← Array.getElem?_toList, rows, List.getElem?_map]
  refine ⟨order.toList.filterMap fun i => L[i]?, ?_, ?_, ?_⟩
  · rw [Array.toList_filterMap, e1, List.map_filterMap]
  · have z := hp.filterMap (fun i => L[i]?)
    rw [range_all] at z
    exact z
  · have low : ∀ i ∈ order.toList, i < L.length := fun i hi => List.mem_range.mp (hp.mem_iff.mp hi)
    revert low
    generalize order.toList = l
    intro low
    induction l with
    | nil => rfl
    | cons i l ih =>
      have hi := low i List.mem_cons_self
      have e2 : es[i]? = some (ent knd L[i]) := by rw [congrFun e1 i, List.getElem?_eq_getElem hi] <;> rfl
      have e3 : (es.map (·.1)).getD i 0 = hOf knd (L[i]).2 := by
        rw [Array.getD_eq_getD_getElem?, Array.getElem?_map, e2] <;> rfl
      rw [List.filterMap_cons_some (List.getElem?_eq_getElem hi), List.map_cons, List.map_cons, ih fun j hj => low j (List.mem_cons_of_mem _ hj), e3]
theorem tuple_stays {h h' : Heap} {k : κ} {b : Addr} (hb : knd.is h k b) (ho : h.get? a = some o) (hd : o.data = .set es ep t) (hs : Heap.SameBut a h h') : knd.is h' k b :=
  knd.keep hb fun c oc vs n e1 e2 => (hs.2 c fun z => by
    rw [z, ho] at e1
    rw [← Option.some.inj e1, hd] at e2
    cases e2).trans e1
theorem tuple_keep {h h' : Heap} {k : κ} {b : Addr} (hb : knd.is h k b) (e : ∀ b o, h.get? b = some o → h'.get? b = some o) : knd.is h' k b :=
  knd.keep hb fun c oc _ _ e1 _ => e c oc e1
/-- a larger table -/
theorem relay (ho : s.heap.get? a = some o) (hex : o.ExactSet) (hd : o.data = .set es ep t) (R : Laid knd s.heap L es t) (hm : L.length ≤ t.mask) (few : L.length < 1201) {wanted M : Nat}
    (hw : SetTable.sizeAbove wanted - 1 = M) (hM : Msk M) (hw2 : SetTable.sizeAbove wanted ≤ 2048) (hn : L.length * 5 < M * 3) {Q : Unit → Shared → Prop}
    (hQ : ∀ h' L', Heap.SameBut a s.heap h' → SetK knd h' a L' → L'.Perm L → Q () { s with heap := h' }) : wpAny (model P w) A (setRelay a wanted) Q E s := by
  have sz := R.size
  obtain ⟨t', order, e, hp, T, em, el, _, ed⟩ := laidAnew t (es.map (·.1)) (wanted := wanted) hw hM (by rw [Array.size_map, sz]; omega)
  rw [Array.size_map, sz] at hp
  obtain ⟨L2, r1, r2, r3⟩ := reorder R.rows hp
  rw [← r3] at T
  have sz2 : (order.filterMap (es[·]?)).size = es.size := by rw [← Array.length_toList, r1, List.length_map, r2.length_eq, sz]
  rw [setRelay_eq]
  refine wpAny_bind (wpAny_setState_of ho hd (R.fits hm) ?_)
  dsimp only
  refine wp_if_neg (by rw [sizeLine_eq]; omega) ?_
  try refine wpAny_bind (wpAny_pure ?_)
  rw [e]
  refine wpAny_bind ?_
  dsimp only
  refine wp_if_neg (by rw [sz2]; simp) ?_
  try refine wpAny_bind (wpAny_pure ?_)
  refine wpAny_pure (wpAny_storeSet_of ho hd ?_ (by rw [sz2, sz, sizeLine_eq]; omega))
  have sb : Heap.SameBut a s.heap (s.heap.update a (Obj.putSet (order.filterMap (es[·]?)) t')) := Heap.SameBut.update ..
  refine hQ _ L2 sb ⟨_, _, _, t', store_at ho hd, hex, rfl, ⟨r1, T, (r2.map (·.2)).nodup_iff.mpr R.nd, fun p hp' => tuple_stays (R.mem p (r2.mem_iff.mp hp')) ho hd sb, by rw [el]; exact R.led⟩, ?_, ?_⟩ r2
  · rw [r2.length_eq, em]; exact hn
  · rw [r2.length_eq]; exact few
/-- a member is added -/
theorem add (M : SetK knd s.heap a L) {x : Addr} {k : κ} (hx : knd.is s.heap k x) (hu : A.units + knd.deep < cLine) (few0' : k ∉ L.map (·.2) → L.length + 1 < 1201) {Q : Bool → Shared → Prop}
    (hQ : ∀ b h' L', Heap.SameBut a s.heap h' → SetK knd h' a L' → (k ∈ L.map (·.2) → L' = L) → (k ∉ L.map (·.2) → L'.Perm ((x, k) :: L)) → Q b { s with heap := h' }) :
    wpAny (model P w) A (setAddHashed a (.ref x) (hOf knd k)) Q E s := by
  obtain ⟨o, es, ep, t, ho, hex, hd, R, room, few0⟩ := M
  have hm : L.length ≤ t.mask := by omega
  have sz := R.size
  unfold setAddHashed
  refine wpAny_holding ?_
  rw [show (100000 : Nat) = 99999 + 1 from rfl, setAddHashedIn_succ]
  refine wpAny_bind (wpAny_setState_of ho hd (R.fits hm) ?_)
  dsimp only
  refine wp_if_neg (by simp [byScan, Value.scannable]) ?_
  try refine wpAny_bind (wpAny_pure ?_)
  obtain ⟨K, hKf, hK, hb⟩ := R.tab.first (by rw [List.length_map]; exact hm) (hOf knd k)
  have turns : 10 * SetTable.turns t.mask ≤ 30000 := by
    have := msk_le R.tab.mok
    show 10 * (t.mask + 15) ≤ 30000
    omega
  unfold setSearch
  refine wpAny_bind (search ho hd R hm hx hu hKf hK hb (fun hin => ?_) (fun hin => ?_) 100000 0 none rfl (Nat.zero_le _) (by omega) fun d _ _ z => absurd z (Nat.not_lt_zero d))
  · exact wpAny_pure (hQ false s.heap L (Heap.SameBut.refl a s.heap) ⟨o, es, ep, t, ho, hex, hd, R, room, few0⟩ (fun _ => rfl) fun z => absurd hin z)
  have few := few0' hin
  dsimp only
  refine wpAny_bind (wpAny_setState_of ho hd (R.fits hm) ?_)
  dsimp only
  obtain ⟨q1, q2, q3, q4, q5, q6, q7, q8, q9⟩ := R.tab.put hK hb rfl rfl
  revert q1 q2 q3 q4 q5 q6 q7 q8 q9
  generalize t.put (way t.mask (hOf knd k) K) = pt
  obtain ⟨t1, at_⟩ := pt
  intro q1 q2 q3 q4 q5 q6 q7 q8 q9
  dsimp only at q1 q3 q4 q5 q6 q7 q8 q9 ⊢
  rw [← q1] at q2 q3
  rw [List.length_map] at q2 q9
  have pm := put_perm L at_ (x, k)
  have len1 : (L.take at_ ++ (x, k) :: L.drop at_).length = L.length + 1 := pm.length_eq
  have rows1 : (SetTable.insertAt es at_ (hOf knd k, Value.ref x)).toList = (L.take at_ ++ (x, k) :: L.drop at_).map (ent knd) := by
    rw [SetTable.toList_insertAt, R.rows, List.map_append, List.map_cons, List.map_take, List.map_drop] <;> rfl
  have hash1 : (L.take at_ ++ (x, k) :: L.drop at_).map (fun p => hOf knd p.2) = (L.map fun p => hOf knd p.2).take at_ ++ hOf knd k :: (L.map fun p => hOf knd p.2).drop at_ := by
    rw [List.map_append, List.map_cons, List.map_take, List.map_drop]
  rw [← hash1] at q3
  have nd1 : ((L.take at_ ++ (x, k) :: L.drop at_).map (·.2)).Nodup := by
    rw [(pm.map (·.2)).nodup_iff, List.map_cons, List.nodup_cons]
    exact ⟨hin, R.nd⟩
  revert rows1 pm len1 q3 nd1
  generalize L.take at_ ++ (x, k) :: L.drop at_ = L1
  generalize SetTable.insertAt es at_ (hOf knd k, Value.ref x) = es1
  clear hash1
  intro q3 pm len1 rows1 nd1
  have sz1 : es1.size = L.length + 1 := by rw [← Array.length_toList, rows1, List.length_map, len1]
  -- the marks of the table do not matter
  have done : ∀ t2 : SetTable, t2.place = t1.place → t2.dummies = t1.dummies → t2.mask = t1.mask → t2.led = t1.led →
      wpAny (model P w) A (do
        storeSet a es1 t2
        if (!false && t2.tooFull) = true then do
          setRelay a (SetTable.grown (es.size + 1))
          pure true
        else pure true) Q E s := by
    intro t2 g1 g2 g3 g4
    have T2 : Tbl t2 (L1.map fun p => hOf knd p.2) :=
      ⟨by rw [g1]; exact q3.ris, by rw [g2]; exact q3.dm, by rw [g1]; exact q3.sz, by rw [g3]; exact q3.mok, by rw [g1, g3]; exact q3.bd, by rw [g1, g3]; exact q3.reach⟩
    have fill2 : t2.fill = L.length + 1 := by
      rw [← q9]
      unfold SetTable.fill
      rw [g1, g2]
    refine wpAny_bind (wpAny_storeSet_of ho hd ?_ (by rw [sz1, sizeLine_eq]; omega))
    have sb : Heap.SameBut a s.heap (s.heap.update a (Obj.putSet es1 t2)) := Heap.SameBut.update ..
    have ho1 := store_at (es' := es1) (t' := t2) ho hd
    generalize s.heap.update a (Obj.putSet es1 t2) = h1 at sb ho1 ⊢
    have R1 : Laid knd h1 L1 es1 t2 := ⟨rows1, T2, nd1, fun p hp => by
      rcases List.mem_cons.mp (pm.mem_iff.mp hp) with e | z
      · rw [e]; exact tuple_stays hx ho hd sb
      · exact tuple_stays (R.mem p z) ho hd sb, by rw [g4, q5]; exact R.led⟩
    have ex1 : Obj.ExactSet { cls := o.cls, dict := o.dict, data := Data.set es1 (ep + 1) t2, slots := o.slots } := ⟨hex.1, hex.2.1, hex.2.2⟩
    have full : (t2.tooFull = true) ↔ t.mask * 3 ≤ (L.length + 1) * 5 := by
      unfold SetTable.tooFull
      rw [decide_eq_true_eq, fill2, g3, q4]
    by_cases tf : t2.tooFull = true
    · refine wp_if_pos (by simp [tf]) ?_
      have big := full.mp tf
      rw [sz]
      refine wpAny_bind ?_
      have fin : ∀ (M : Nat), SetTable.sizeAbove (SetTable.grown (L.length + 1)) - 1 = M → Msk M → SetTable.sizeAbove (SetTable.grown (L.length + 1)) ≤ 2048 → (L.length + 1) * 5 < M * 3 →
          wpAny (model P w) A (setRelay a (SetTable.grown (L.length + 1))) (fun _ s' => wpAny (model P w) A (pure true) Q E s') E { s with heap := h1 } := fun M z1 z2 z3 z4 =>
        relay (s := { s with heap := h1 }) ho1 ex1 rfl R1 (by rw [len1, g3, q4]; rcases R.tab.mok.cases with e | e | e | e | e <;> omega) (by rw [len1]; exact few) z1 z2 z3 (by rw [len1]; exact z4)
          fun h2 L2 sb2 M2 pm2 => wpAny_pure (hQ true h2 L2 (sb.trans sb2) M2 (fun z => absurd z hin) fun _ => pm2.trans pm)
      rcases R.tab.mok.cases with e | e | e | e | e
      · have e4 : L.length = 4 := by omega
        exact fin 31 (by rw [e4]; exact grow_5) (by unfold Msk; decide) (by rw [e4]; decide +kernel) (by omega)
      · have e4 : L.length = 18 := by omega
        exact fin 127 (by rw [e4]; exact grow_19) (by unfold Msk; decide) (by rw [e4]; decide +kernel) (by omega)
      · have e4 : L.length = 76 := by omega
        exact fin 511 (by rw [e4]; exact grow_77) (by unfold Msk; decide) (by rw [e4]; decide +kernel) (by omega)
      · have e4 : L.length = 306 := by omega
        exact fin 2047 (by rw [e4]; exact grow_307) (by unfold Msk; decide) (by rw [e4]; decide +kernel) (by omega)
      · omega
    · refine wp_if_neg (by simp [tf]) ?_
      refine wpAny_pure (hQ true h1 L1 sb ⟨_, es1, _, t2, ho1, ex1, rfl, R1, ?_, by rw [len1]; exact few⟩ (fun z => absurd z hin) fun _ => pm)
      have small : ¬ t.mask * 3 ≤ (L.length + 1) * 5 := fun z => tf (full.mpr z)
      rw [len1, g3, q4]
      omega
  by_cases pl : t1.plain = true
  · rw [if_pos pl]
    refine wpAny_bind (knd.byVal hx fun c => ?_)
    cases c with
    | true => exact done t1 rfl rfl rfl rfl
    | false => exact done { t1 with plain := false } rfl rfl rfl rfl
  · rw [if_neg pl]
    refine wpAny_bind (wpAny_pure ?_)
    exact done t1 rfl rfl rfl rfl
end
end VT

set_option Elab.async false
set_option linter.all false
set_option maxRecDepth 100000
set_option maxHeartbeats 4000000
namespace VT
open PySem PySem.Spec PyProof.Rows L2
/-! set(xs), xs a list, by what adding a member means: J i tells the set's state after i items -/
section
variable {P : Program} {w : World} {A : Around} {E : Value → Shared → Prop} {s : Shared}
/-- what was in h0, and the object at S, stays -/
def Holds0 (h0 : Heap) (S : Addr) (h h' : Heap) : Prop := ∀ b o, (b = S ∨ h0.get? b ≠ none) → h.get? b = some o → h'.get? b = some o
def Old (h0 h : Heap) : Prop := ∀ b o, h0.get? b = some o → h.get? b = some o
structure Adds (P : Program) (w : World) (d : Nat) (S : Addr) (h0 : Heap) (n : Nat) (Pv : Nat → Value → Prop) (J : Nat → Heap → Prop) : Prop where
  keep : ∀ i h h', J i h → Holds0 h0 S h h' → J i h'
  step : ∀ (A : Around) (E : Value → Shared → Prop) (i : Nat) (v : Value) (s : Shared) (F : Bool → Shared → Prop), A.units + d < cLine → i < n → Pv i v → J i s.heap → Old h0 s.heap →
    (∀ b h' tk, Heap.SameBut S s.heap h' → J (i + 1) h' → F b { s with heap := h', toks := s.toks + tk }) → wpAny (model P w) A (setAdd S v) F E s
variable {I S : Addr} {fp wr : List Addr} {G : Array GenState → Array GenState → Prop} {n : Nat} {Pv : Nat → Value → Prop} {St : Nat → Shared → Prop} {R : Result → Shared → Prop} {h0 : Heap} {J : Nat → Heap → Prop}
theorem loop_adds (W : WalksS P w A.in1 I fp wr G n Pv St) (hS : S ∉ fp) (hS0 : h0.get? S = none) (hw : ∀ b ∈ wr, h0.get? b = none) {d : Nat} (D : Adds P w d S h0 n Pv J) (hu : A.in1.units + d < cLine) :
    ∀ (m i : Nat) (s : Shared), n - i = m → i ≤ n → St i s → Old h0 s.heap → J i s.heap →
      (∀ s', Moved (S :: wr) G s s' → J n s'.heap → Old h0 s'.heap → R (.ok (.ret .none)) s') →
      codeAny (model P w) A (.builtin "set.update.loop" ⟨[.ref S, .ref I], []⟩) R s := by
  have nS : S ∉ wr := fun z => hS (W.sub _ z)
  have up : ∀ {s s' : Shared}, Moved wr G s s' → Old h0 s.heap → Old h0 s'.heap := fun mv z b o e => mv.heap b o (fun y => by rw [hw b y] at e; cases e) (z b o e)
  have held : ∀ {s s' : Shared}, Moved wr G s s' → Holds0 h0 S s.heap s'.heap := fun mv b o c e =>
    mv.heap b o (fun y => c.elim (fun z => nS (z ▸ y)) fun z => z (hw b y)) e
  intro m
  induction m with
  | zero =>
    intro i s em hi st old j fin
    obtain rfl : i = n := by omega
    refine codeAny_builtin F.entry_set_update_loop ?_
    rw [Around.under_plainId F.plain_set_update_loop _]
    show wpAny _ A.in1 (pyNext (.ref I) >>= _) _ _ s
    refine wpAny_bind (W.done s _ _ st fun s' mv => ?_)
    show wpAny _ A.in1 (ret Value.none) _ _ s'
    exact wpAny_pure (fin s' (mv.mono fun b hb => List.mem_cons_of_mem _ hb) (D.keep _ _ _ j (held mv)) (up mv old))
  | succ m ih =>
    intro i s em hi st old j fin
    have lt : i < n := by omega
    refine codeAny_builtin F.entry_set_update_loop ?_
    rw [Around.under_plainId F.plain_set_update_loop _]
    show wpAny _ A.in1 (pyNext (.ref I) >>= _) _ _ s
    refine wpAny_bind (W.item i s _ _ lt st fun v s' pv st' mv => ?_)
    show wpAny _ A.in1 (holding [v] (setAdd S v) >>= _) _ _ s'
    refine wpAny_bind (wpAny_holding (D.step A.in1 _ i v s' _ hu lt pv (D.keep _ _ _ j (held mv)) (up mv old) fun b h' tk sb j' => ?_))
    have old' : Old h0 h' := fun b o e => (sb.2 b fun z => by rw [z, hS0] at e; cases e).trans (up mv old b o e)
    refine wpAny_pure ⟨plainId_quiet F.plain_set_update_loop _, ih (i + 1) _ (by omega) lt (W.frame _ s' _ _ st' (Nat.le_add_right _ _) fun b hb o e => ?_) old' j' fun s'' mv'' j'' old'' => ?_⟩
    · rw [sb.2 b fun z => hS (z ▸ hb)]; exact e
    · refine fin s'' (Moved.trans W.gtrans ((mv.mono fun b hb => List.mem_cons_of_mem _ hb).then_heap (Nat.le_add_right _ _) fun b o hb e => ?_) mv'') j'' old''
      rw [sb.2 b fun z => hb (z ▸ List.mem_cons_self)]; exact e
/-- the new set -/
abbrev newSetO (w : World) : Obj := { cls := .type "set", dict := none, data := .set #[] 0 (.fresh 0 0 (!w.params.followText "set-order")) }
theorem set_of_list {l : Addr} {items : Array Value} {Q : Value → Shared → Prop} (hh : A.handled = none) (hl : s.heap.IsList l items) {d : Nat} (hu : A.units + 3 + d < cLine) (J : Nat → Heap → Prop)
    (D : Adds P w d s.heap.objs.size s.heap items.size (fun i v => items[i]? = some v) J) (j0 : ∀ h, h.get? s.heap.objs.size = some (newSetO w) → Old s.heap h → J 0 h)
    (h : ∀ (h' : Heap) (tk : Nat), J items.size h' → Old s.heap h' → Q (.ref s.heap.objs.size) { s with heap := h', toks := tk }) :
    wpAny (model P w) A (call (.type "set") [.ref l]) Q E s := by
  obtain ⟨c, tl, hmro⟩ := F.called_set.mro
  have hmade := F.called_set.made
  have hsub := F.called_set.sub
  refine wpAny_call (codeAny_of_tree ?_)
  show wpAny _ _ (callAny (.type "set") _) _ _ _
  refine wpAny_pure ⟨Code.quiet_builtin _ (by decide +kernel), codeAny_builtin F.entry_type_call ?_⟩
  rw [Around.under_plain (weight_type_call_type "set" [.ref l] []) rfl]
  have h1 := F.called_set.notType
  have h2 := F.called_set.canCreate
  have hct := F.typeCall_set_1 (.ref l)
  repeat (any_goals (first | assumption | wp_step))
  refine codeAny_mono (code_set_led1 (.ref l) (E := E) (Q₁ := fun obj s₁ => obj = .ref s.heap.objs.size ∧ s₁ = { s with heap := s.heap.push (newSetO w) }) ⟨rfl, rfl⟩) fun r s₁ hr => ?_
  cases r with
  | error e => exact hr
  | ok fl =>
    cases fl with
    | ret obj =>
      obtain ⟨rfl, rfl⟩ := hr
      have hS : (s.heap.push (newSetO w)).get? s.heap.objs.size = some (newSetO w) := Heap.get?_push_size _ rfl
      have hT : Shared.TypeIs { s with heap := s.heap.push (newSetO w) } (.ref s.heap.objs.size) "set" := ⟨_, hS, rfl⟩
      have hli := F.called_set.init.lookup
      have hbi := F.called_set.init.bind (.ref s.heap.objs.size)
      repeat (any_goals (first | assumption | wp_step))
      refine codeAny_mono (codeAny_call_builtin (R := wants (fun r s₂ => r = .none ∧ ∃ h' tk, s₂ = { s with heap := h', toks := tk } ∧ J items.size h' ∧ Old s.heap h') E) F.called_set.init.plain F.entry_set_init (check_set_init_1 hT ?_)) fun r₂ s₂ hr₂ => ?_
      · obtain ⟨ol, hol, hcl, nl, hdl⟩ := hl
        obtain ⟨ocls, odict, odata, oslots⟩ := ol
        simp only at hcl hdl
        subst hcl; subst hdl
        have hol' : (s.heap.push (newSetO w)).get? l = some { cls := .type "list", dict := odict, data := .seq items nl, slots := oslots } := Heap.get?_push_of_some _ hol
        have hsls := F.sub_list_set
        have hslf := F.sub_list_frozenset
        have hne : (Value.type "list" == Value.type "dict") = false := by decide
        have hl1 : (s.heap.push (newSetO w)).IsList l items := ⟨_, hol', rfl, nl, rfl⟩
        unfold Builtin.«set.__init__» noKeywords Builtin.Frozenset.updateFrom
        generalize hPI : pyIter = PI
        wp_walk
        subst hPI
        refine wpAny_pyIter_list hl1 ?_
        refine wpAny_bind (wpAny_runValue ?_)
        have lS : l < s.heap.objs.size := Heap.lt_size hol
        have nI : l ≠ (s.heap.push (newSetO w)).objs.size := by
          rw [Heap.size_push]; exact Nat.ne_of_lt (Nat.lt_succ_of_lt lS)
        have nS : s.heap.objs.size ∉ [(s.heap.push (newSetO w)).objs.size, l] := by
          rw [Heap.size_push]
          intro z
          rcases List.mem_cons.mp z with e | z
          · omega
          · exact absurd lS (by rw [List.mem_singleton.mp z]; exact Nat.lt_irrefl _)
        have free : ∀ b, s.heap.objs.size ≤ b → s.heap.get? b = none := fun b hb => by
          cases q : s.heap.get? b with
          | none => rfl
          | some o => exact absurd (Nat.lt_of_lt_of_le (Heap.lt_size q) hb) (Nat.lt_irrefl _)
        refine loop_adds ((Walks.list (by simp [hh]) _ l nI items).toS) nS (free _ (Nat.le_refl _)) (fun b hb => free b (by rw [List.mem_singleton.mp hb, Heap.size_push]; exact Nat.le_succ _)) D hu (items.size - 0) 0 _ (by omega) (Nat.zero_le _)
          ⟨⟨_, Heap.get?_push_size _ rfl, rfl, rfl⟩, (hl1.push _)⟩ (fun b o e => Heap.get?_push_of_some _ (Heap.get?_push_of_some _ e))
          (j0 _ (Heap.get?_push_of_some _ hS) fun b o e => Heap.get?_push_of_some _ (Heap.get?_push_of_some _ e)) fun s' mv j old => ?_
        obtain ⟨h', g2, d', tk', os'⟩ := s'
        have eg : g2 = s.gens := mv.gens
        have ed : d' = s.drawn := mv.drawn
        have eo : os' = s.os := mv.os
        subst eg; subst ed; subst eo
        show wpAny _ _ _ _ _ _
        refine wpAny_pure ?_
        show wpAny _ _ (ret Value.none) _ _ _
        exact wpAny_pure ⟨rfl, h', tk', rfl, j, old⟩
      · cases r₂ with
        | error e => exact hr₂
        | ok fl₂ =>
          cases fl₂ with
          | ret r =>
            obtain ⟨rfl, h', tk, rfl, j, old⟩ := hr₂
            repeat (any_goals (first | assumption | wp_step))
            exact h _ _ j old
          | _ => exact hr₂.elim
    | _ => exact hr.elim
end
end VT

set_option Elab.async false
set_option linter.all false
set_option maxRecDepth 100000
set_option maxHeartbeats 4000000
namespace VT
open PySem PySem.Spec PyProof.Rows L2
/-! over the layer: set(xs) of a list of tuples of ints and texts, sorted of such a set -/
section
variable {κ : Type} [DecidableEq κ] {P : Program} {w : World} {knd : Mem P w κ}
/-- the set alone, without its members' objects -/
def BareK (knd : Mem P w κ) (h : Heap) (a : Addr) (L : List (Addr × κ)) : Prop :=
  ∃ o es ep t, h.get? a = some o ∧ o.ExactSet ∧ o.data = .set es ep t ∧ es.toList = L.map (ent knd) ∧ Tbl t (L.map fun p => hOf knd p.2) ∧ (L.map (·.2)).Nodup ∧
    (w.params.followText "set-order" = true ∨ t.led = true) ∧ L.length * 5 < t.mask * 3 ∧ L.length < 1201
theorem SetK.bare {h : Heap} {a : Addr} {L : List (Addr × κ)} (M : SetK knd h a L) : BareK knd h a L := by
  obtain ⟨o, es, ep, t, ho, hx, hd, R, r, f⟩ := M
  exact ⟨o, es, ep, t, ho, hx, hd, R.rows, R.tab, R.nd, R.led, r, f⟩
theorem BareK.full {h : Heap} {a : Addr} {L : List (Addr × κ)} (M : BareK knd h a L) (hm : ∀ p ∈ L, knd.is h p.2 p.1) : SetK knd h a L := by
  obtain ⟨o, es, ep, t, ho, hx, hd, r1, r2, r3, r4, r, f⟩ := M
  exact ⟨o, es, ep, t, ho, hx, hd, ⟨r1, r2, r3, hm, r4⟩, r, f⟩
theorem BareK.at_ {h h' : Heap} {a : Addr} {L : List (Addr × κ)} (M : BareK knd h a L) (e : ∀ o, h.get? a = some o → h'.get? a = some o) : BareK knd h' a L := by
  obtain ⟨o, es, ep, t, ho, r⟩ := M
  exact ⟨o, es, ep, t, e o ho, r⟩
/-- the fresh set is the set of no members -/
theorem fresh_bare {h : Heap} {a : Addr} (e : h.get? a = some (newSetO w)) : BareK knd h a [] :=
  ⟨_, #[], 0, _, e, ⟨rfl, rfl, rfl⟩, rfl, rfl, ⟨List.Pairwise.nil, rfl, rfl, (by show Msk 7; unfold Msk; decide), fun x hx => (by cases hx), fun i h j hi => (by simp at hi)⟩, List.nodup_nil, by
    show _ ∨ (!w.params.followText "set-order") = true
    cases w.params.followText "set-order"
    · exact .inr rfl
    · exact .inl rfl, (by show 0 * 5 < 7 * 3; decide), (by show 0 < 1201; decide)⟩
theorem nodup_le {α : Type} [DecidableEq α] : ∀ (l m : List α), l.Nodup → (∀ x ∈ l, x ∈ m) → l.length ≤ m.length
  | [], m, _, _ => Nat.zero_le _
  | x :: l, m, nd, h => by
    obtain ⟨n1, n2⟩ := List.nodup_cons.mp nd
    have hx := h x List.mem_cons_self
    have ih := nodup_le l (m.erase x) n2 fun y hy => (List.mem_erase_of_ne (fun e => by rw [e] at hy; exact n1 hy)).mpr (h y (List.mem_cons_of_mem _ hy))
    rw [List.length_erase_of_mem hx] at ih
    have := List.length_pos_of_mem hx
    rw [List.length_cons]
    omega
/-- the keys are among 1,200 -/
def Few {α β : Type} (ks : List (β × α)) : Prop := ∃ U : List α, U.length ≤ 1200 ∧ ∀ p ∈ ks, p.2 ∈ U
theorem few_of {α β : Type} {ks : List (β × α)} (h : ks.length ≤ 1200) : Few ks := ⟨ks.map (·.2), by rw [List.length_map]; omega, fun p hp => List.mem_map_of_mem hp⟩
/-- the members after i items of the list -/
def Mid (knd : Mem P w κ) (a : Addr) (ks : List (Addr × κ)) (i : Nat) (h : Heap) : Prop :=
  ∃ L, BareK knd h a L ∧ (∀ p ∈ L, p ∈ ks.take i) ∧ (∀ p ∈ ks.take i, p.2 ∈ L.map (·.2)) ∧ L.length ≤ i
theorem mid_adds {S : Addr} {h0 : Heap} {items : Array Value} (ks : List (Addr × κ)) (hit : items.toList = ks.map fun p => Value.ref p.1) (hk : ∀ p ∈ ks, knd.is h0 p.2 p.1) (few : Few ks) :
    Adds P w knd.deep S h0 items.size (fun i v => items[i]? = some v) (Mid knd S ks) where
  keep := fun i h h' ⟨L, B, r⟩ z => ⟨L, B.at_ fun o e => z S o (.inl rfl) e, r⟩
  step := by
    intro A E i v s F hu hi hv ⟨L, B, sub, all, len⟩ old fin
    have hv2 : (ks.map fun p => Value.ref p.1)[i]? = some v := by rw [← hit, Array.getElem?_toList]; exact hv
    rw [List.getElem?_map] at hv2
    obtain ⟨p, hp, rfl⟩ := Option.map_eq_some_iff.mp hv2
    have pin := List.mem_of_getElem? hp
    have tk : ks.take (i + 1) = ks.take i ++ [p] := by rw [List.take_succ, hp] <;> rfl
    have mem : ∀ q ∈ L, knd.is s.heap q.2 q.1 := fun q hq => tuple_keep (hk q (List.mem_of_mem_take (sub q hq))) fun b o e => old b o e
    have hx : knd.is s.heap p.2 p.1 := tuple_keep (hk p pin) fun b o e => old b o e
    have small : i < ks.length := (List.getElem?_eq_some_iff.mp hp).1
    have room : p.2 ∉ L.map (·.2) → L.length + 1 < 1201 := fun c => by
      obtain ⟨U, hU, inU⟩ := few
      have ndL : (L.map (·.2)).Nodup := by
        obtain ⟨_, _, _, _, _, _, _, _, _, nd, _⟩ := B
        exact nd
      have z := nodup_le (p.2 :: L.map (·.2)) U (List.nodup_cons.mpr ⟨c, ndL⟩) fun x hx => by
        rcases List.mem_cons.mp hx with e | e
        · rw [e]; exact inU p pin
        · obtain ⟨q, hq, rfl⟩ := List.mem_map.mp e
          exact inU q (List.mem_of_mem_take (sub q hq))
      rw [List.length_cons, List.length_map] at z
      omega
    unfold setAdd
    refine wpAny_holding (wpAny_bind (knd.hashes hu hx ?_))
    refine add (s := { s with toks := s.toks + knd.toks p.2 }) (B.full mem) hx hu room fun b h' L' sb M' c1 c2 => fin b h' (knd.toks p.2) sb ⟨L', M'.bare, ?_⟩
    by_cases c : p.2 ∈ L.map (·.2)
    · rw [c1 c, tk]
      refine ⟨fun q hq => List.mem_append_left _ (sub q hq), fun q hq => ?_, by omega⟩
      rcases List.mem_append.mp hq with z | z
      · exact all q z
      · rw [List.mem_singleton.mp z]; exact c
    · have pm := c2 c
      rw [tk]
      refine ⟨fun q hq => ?_, fun q hq => ?_, by rw [pm.length_eq, List.length_cons]; omega⟩
      · rcases List.mem_cons.mp (pm.mem_iff.mp hq) with e | z
        · rw [e]; exact List.mem_append_right _ (List.mem_singleton.mpr rfl)
        · exact List.mem_append_left _ (sub q z)
      · rw [(pm.map (·.2)).mem_iff, List.map_cons]
        rcases List.mem_append.mp hq with z | z
        · exact List.mem_cons_of_mem _ (all q z)
        · rw [List.mem_singleton.mp z]; exact List.mem_cons_self
end
/-- the members of a set made of ks -/
structure Of {κ : Type} (ks L : List (Addr × κ)) : Prop where
  sub : ∀ p ∈ L, p ∈ ks
  all : ∀ p ∈ ks, p.2 ∈ L.map (·.2)
  nd : (L.map (·.2)).Nodup
def SetKO (P : Program) (w : World) (a : Addr) (L : List (Addr × List Key)) : HO := .ext fun h => BareK (tupM (mixKind P w)) h a L
section
variable {X : Cx} {P : Program} {w : World}
theorem setKO_new {H : Hp} {h : Heap} {a : Addr} {L : List (Addr × List Key)} (M : BareK (tupM (mixKind P w)) h a L) : ObjOk P w H h a (SetKO P w a L) := by
  have ⟨o, _, _, _, ho, _⟩ := M
  exact ⟨M, ⟨o, ho⟩, fun _ _ p q => BareK.at_ p q⟩
theorem items_vals : ∀ {k : List Key} {us : List Value}, Vals (k.map kV) us → ItemsAre (mixKind P w) k us
  | [], us, r => by rw [List.map_nil] at r; cases r; exact .nil
  | k :: ks, us, r => by
    rw [List.map_cons] at r
    cases r with
    | cons h t => exact .cons (kV_is h) (items_vals t)
theorem inv_tuple {pins : List (Addr × Obj)} {σ : L2.St} {H : Hp} {s : Shared} {b : Addr} {k : List Key} (I : Inv X pins σ H s) (h : SqT X.K H b (k.map kV)) : IsTupleKey (mixKind X.prog X.w) s.heap k b := by
  obtain ⟨its, r, ⟨o, ho, hc, n, hd⟩, _⟩ := I.tuple h
  exact ⟨o, its.toArray, n, ho, hc, hd, by simpa using items_vals r⟩
theorem refs_list : ∀ {ks : List (Addr × List Key)} {us : List Value}, Vals (ks.map fun p => V.ref p.1) us → us = ks.map fun p => Value.ref p.1
  | [], us, r => by rw [List.map_nil] at r; cases r; rfl
  | k :: ks, us, r => by
    rw [List.map_cons] at r
    cases r with
    | cons h t => rw [refs_list t, List.map_cons, show _ = Value.ref k.1 from h]
/-- set(xs) -/
def rSetT (K : PySem.W.Frag) (P : Program) (w : World) : List V → Hp → VK → Prop := fun xs H Q => ∃ (l : Addr) (ks : List (Addr × List Key)), xs = [V.ref l] ∧ SqL K H l (ks.map fun p => V.ref p.1) ∧
  (∀ p ∈ ks, SqT K H p.1 (p.2.map kV)) ∧ Few ks ∧ ∀ (a : Addr) (L : List (Addr × List Key)), H a = none → Of ks L → Q (.ref a) (upd H a (SetKO P w a L))
theorem cr_setT {K : PySem.W.Frag} (hK : X.K = K) (hP : X.prog = P) (hw : X.w = w) (hc : X.calm = true) (hu : X.A.units + 3 < cLine) : CallR X (.type "set") (rSetT K P w) := by
  subst hK
  subst hP
  subst hw
  intro pins s σ H xs us Q I r h
  obtain ⟨l, ks, rfl, hS, hk, few, q⟩ := h
  obtain ⟨its, rv, hl, hz⟩ := I.list hS
  rw [Vals.ref1 r]
  have hit := refs_list rv
  have hk0 : ∀ p ∈ ks, (tupM (mixKind X.prog X.w)).is s.heap p.2 p.1 := fun p hp => inv_tuple I (hk p hp)
  have szs : its.toArray.size = ks.length := by rw [List.size_toArray, hit, List.length_map]
  refine set_of_list (I.ok.hd hc) hl.isList hu (Mid (tupM (mixKind X.prog X.w)) s.heap.objs.size ks) (mid_adds ks (by simpa using hit) hk0 few) (fun h' e _ => ⟨[], fresh_bare e, fun p z => absurd z List.not_mem_nil, fun p z => absurd z (by rw [List.take_zero]; exact List.not_mem_nil), Nat.zero_le _⟩) fun h' tk j old => ?_
  rw [szs] at j
  obtain ⟨L, B, sub, all, _⟩ := j
  rw [List.take_length] at sub all
  have fr : H s.heap.objs.size = none := I.hok.fresh (Nat.le_refl _)
  have nd : (L.map (·.2)).Nodup := by
    obtain ⟨_, _, _, _, _, _, _, _, _, nd, _⟩ := B
    exact nd
  exact ⟨.ref _, upd H s.heap.objs.size (SetKO X.prog X.w s.heap.objs.size L), I.laid (t' := tk) old (Nat.le_refl _) (setKO_new B), rfl, q _ L fr ⟨sub, all, nd⟩⟩
/-! sorted of it -/
def keyD : Key → PyData
  | .inl i => .int i
  | .inr x => .str x
def keysD (k : List Key) : PyData := .tuple (k.map keyD)
theorem key_read {h : Heap} {k : Key} {u : Value} (e : (mixKind P w).is k u = true) : Reads h u (keyD k) [] := by
  rcases keyIs_shape e with ⟨i, t, rfl, rfl⟩ | ⟨x, t, rfl, rfl⟩
  · exact .int i t
  · exact .str x t
theorem keys_read {h : Heap} : ∀ {k : List Key} {us : List Value}, ItemsAre (mixKind P w) k us → ReadsAll h us (k.map keyD) []
  | _, _, .nil => .nil
  | _, _, .cons e t => ReadsAll.cons (as := []) (bs := []) (key_read e) (keys_read t)
theorem tuple_read {h : Heap} {k : List Key} {b : Addr} (e : IsTupleKey (mixKind P w) h k b) : Reads h (.ref b) (keysD k) [] := by
  obtain ⟨o, items, n, ho, hc, hd, hi⟩ := e
  exact .tuple ho hc hd (keys_read hi)
theorem keys_flat : ∀ k : List Key, PyData.depthAll (k.map keyD) = 0
  | [] => rfl
  | .inl i :: k => by rw [List.map_cons]; simp only [PyData.depthAll, keyD, PyData.depth, keys_flat k, Nat.max_self]
  | .inr i :: k => by rw [List.map_cons]; simp only [PyData.depthAll, keyD, PyData.depth, keys_flat k, Nat.max_self]
theorem keys_depth (k : List Key) : (keysD k).depth = 1 := by
  unfold keysD PyData.depth
  rw [keys_flat]
def leK (p q : Addr × List Key) : Bool := PySem.W.dataLe false (fun p : Addr × List Key => keysD p.2) p q
def rSortT (P : Program) (w : World) (K : PySem.W.Frag) : List V → Hp → VK → Prop := fun vs H Q => ∃ (a : Addr) (L : List (Addr × List Key)), vs = [V.ref a] ∧ H a = some (SetKO P w a L) ∧ (∀ p ∈ L, SqT K H p.1 (p.2.map kV)) ∧
  PySem.W.AllAlike (L.map fun p => keysD p.2) ∧ (∀ p ∈ L, p.2 ≠ []) ∧ ∀ (L' : List (Addr × List Key)) (p : Addr), L'.Perm L → H p = none → Q (.ref p) (upd H p (.lst ((L'.mergeSort leK).map fun q => V.ref q.1)))
theorem each_refs : ∀ L : List (Addr × List Key), PySem.W.EachIs (fun (u : Value) (p : Addr × List Key) => u = Value.ref p.1) (L.map fun p => Value.ref p.1) L
  | [] => .nil
  | p :: L => .cons rfl (each_refs L)
theorem each_out : ∀ {L : List (Addr × List Key)} {us : List Value}, PySem.W.EachIs (fun (u : Value) (p : Addr × List Key) => u = Value.ref p.1) us L → Vals (L.map fun p => V.ref p.1) us
  | _, _, .nil => .nil
  | _, _, .cons h t => .cons (by rw [h]; rfl) (each_out t)
theorem perm_lift {α β : Type} {f : α → β} : ∀ {l : List α} {us : List β}, us.Perm (l.map f) → ∃ l' : List α, l'.Perm l ∧ us = l'.map f := by
  intro l us h
  have : ∀ {us vs : List β}, us.Perm vs → ∀ l : List α, vs = l.map f → ∃ l' : List α, l'.Perm l ∧ us = l'.map f := by
    intro us vs h
    induction h with
    | nil => intro l e; exact ⟨[], by rw [List.map_eq_nil_iff.mp e.symm], rfl⟩
    | @cons x l1 l2 _ ih =>
      intro l e
      cases l with
      | nil => cases e
      | cons y l =>
        rw [List.map_cons] at e
        injection e with e1 e2
        obtain ⟨l', p, e3⟩ := ih l e2
        exact ⟨y :: l', p.cons y, by rw [List.map_cons, ← e1, e3]⟩
    | swap x y l1 =>
      intro l e
      match l, e with
      | a :: b :: l, e =>
        rw [List.map_cons, List.map_cons] at e
        injection e with e1 e2
        injection e2 with e2 e3
        exact ⟨b :: a :: l, .swap a b l, by rw [List.map_cons, List.map_cons, ← e1, ← e2, e3]⟩
    | trans _ _ ih1 ih2 =>
      intro l e
      obtain ⟨l2, p2, e2⟩ := ih2 l e
      obtain ⟨l1, p1, e1⟩ := ih1 l2 e2
      exact ⟨l1, p1.trans p2, e1⟩
  exact this h l rfl
theorem cr_sortT {K : PySem.W.Frag} (hK : X.K = K) (hP : X.prog = P) (hw : X.w = w) {k : Nat} (hc : X.calm = true) (hr : Room k X.A) : CallR X (.builtin "sorted") (rSortT P w K) := by
  subst hK
  subst hP
  subst hw
  intro pins s σ H vs us Q I r h
  obtain ⟨a, L, rfl, ha, hk, hal, hne, q⟩ := h
  have M0 : BareK (tupM (mixKind X.prog X.w)) s.heap a L := (I.hok a _ ha).1
  obtain ⟨o, es, ep, t, ho, hx, hd, R, room, few⟩ := M0.full fun p hp => inv_tuple I (hk p hp)
  rw [Vals.ref1 r]
  have hun := hr.un
  refine Calls.call_function_entry kind_sorted plain_sorted entry_sorted (args_sorted1 _) ?_
  unfold Builtin.«sorted»
  refine wpAny_bind (m := checkCount "sorted" 1 1 _) (wpAny_pure ?_)
  refine wpAny_bind (collect_set (A := X.A.in1) (I.ok.hd hc) ⟨o, ho, hx.1, hd⟩ (R.fits (by omega)) (by rw [R.size]; exact Nat.lt_of_lt_of_le few (by decide)) R.tab.ris R.led fun s1 us1 k1 hz g1 o1 pm => ?_)
  have pm2 : us1.Perm (L.map fun p => Value.ref p.1) := by
    rw [R.rows, List.map_map] at pm
    exact pm
  obtain ⟨L', pl, rfl⟩ := perm_lift pm2
  have len : L'.length = L.length := pl.length_eq
  have lim : (L'.map fun p => Value.ref p.1).length ≤ sizeLine := by rw [List.length_map, len, sizeLine_eq]; omega
  refine wpAny_bind (wpAny_newList ?_ lim)
  have hoL : (s1.heap.push (seqObj "list" (L'.map fun p => Value.ref p.1).toArray 0)).get? s1.heap.objs.size = some (seqObj "list" (L'.map fun p => Value.ref p.1).toArray 0) := Heap.get?_push_size _ rfl
  refine wpAny_bind (wpAny_holding (PySem.W.list_sort_data (enc := fun p : Addr × List Key => keysD p.2) (bs := L') (R := fun (u : Value) (p : Addr × List Key) => u = Value.ref p.1) hoL (each_refs L') ?_ ?_ ?_ (by rw [len, sizeLine_eq]; omega) ?_ fun out lo eo => ?_))
  · have go : ∀ l : List (Addr × List Key), (∀ p ∈ l, p ∈ L) → PySem.W.EachIs (fun (u : Value) (p : Addr × List Key) => ∃ as, Reads (s1.heap.push (seqObj "list" (L'.map fun p => Value.ref p.1).toArray 0)) u (keysD p.2) as ∧ s1.heap.objs.size ∉ as) (l.map fun p => Value.ref p.1) l := by
      intro l
      induction l with
      | nil => intro _; exact .nil
      | cons p l ih =>
        intro hl
        refine .cons ⟨[], tuple_read (tuple_keep (R.mem p (hl p List.mem_cons_self)) fun b o e => Heap.get?_push_of_some _ (k1 b o e)), by simp⟩ (ih fun q hq => hl q (List.mem_cons_of_mem _ hq))
    exact go L' fun p hp => pl.mem_iff.mp hp
  · intro d hd' d' hd''
    refine hal d ?_ d' ?_
    · exact (pl.map _).mem_iff.mp hd'
    · exact (pl.map _).mem_iff.mp hd''
  · refine .inl fun d hd' => ?_
    obtain ⟨p, hp, rfl⟩ := List.mem_map.mp hd'
    have ne := hne p (pl.mem_iff.mp hp)
    cases e : p.2 with
    | nil => exact absurd e ne
    | cons x r => exact ⟨keyD x, r.map keyD, by rw [keysD, List.map_cons]⟩
  · intro p hp
    show X.A.units + 1 + 1 + (keysD p.2).depth < cLine
    rw [keys_depth]
    omega
  · obtain ⟨c, hc'⟩ := sortedHeap_at (vs := L'.map fun p => Value.ref p.1) (out := out.toArray) hoL
    have kp : ∀ b u, s.heap.get? b = some u → (PyProof.Rows.sortedHeap (s1.heap.push (seqObj "list" (L'.map fun p => Value.ref p.1).toArray 0)) s1.heap.objs.size (L'.map fun p => Value.ref p.1) out.toArray).get? b = some u := by
      intro b u e
      have hlt := Heap.lt_size (k1 b u e)
      rw [sortedHeap_old (Nat.ne_of_lt hlt) (by rw [size_push']; exact Nat.lt_succ_of_lt hlt)]
      exact Heap.get?_push_of_some _ (k1 b u e)
    have fr : H s1.heap.objs.size = none := I.hok.fresh hz
    have rv : Vals ((L'.mergeSort leK).map fun p => V.ref p.1) out := each_out eo
    have J : Inv X pins σ (upd H s1.heap.objs.size (.lst ((L'.mergeSort leK).map fun p => V.ref p.1)))
        { s with heap := PyProof.Rows.sortedHeap (s1.heap.push (seqObj "list" (L'.map fun p => Value.ref p.1).toArray 0)) s1.heap.objs.size (L'.map fun p => Value.ref p.1) out.toArray, gens := s1.gens, drawn := s1.drawn, toks := s1.toks } :=
      I.call (ch := []) (Un.laid kp hz fr) (I.hok.laid kp hz ⟨by rw [List.length_map, List.length_mergeSort, len, sizeLine_eq]; omega, out, c, rv, hc'⟩) (by rw [g1]; exact I.bare) (fun _ z => nomatch z)
    refine wpAny_pure ⟨_, rfl, ?_⟩
    rw [show ({ s1 with heap := PyProof.Rows.sortedHeap (s1.heap.push (seqObj "list" (L'.map fun p => Value.ref p.1).toArray 0)) s1.heap.objs.size (L'.map fun p => Value.ref p.1) out.toArray } : Shared) =
        { s with heap := PyProof.Rows.sortedHeap (s1.heap.push (seqObj "list" (L'.map fun p => Value.ref p.1).toArray 0)) s1.heap.objs.size (L'.map fun p => Value.ref p.1) out.toArray, gens := s1.gens, drawn := s1.drawn, toks := s1.toks } by rw [← o1]]
    exact ⟨.ref _, _, J, rfl, q L' _ pl fr⟩
end
end VT

set_option Elab.async false
set_option linter.all false
set_option maxRecDepth 100000
set_option maxHeartbeats 4000000
namespace VO
open PySem PySem.Spec PyProof.Rows L2 LamX NdefX VB
/-- a statement that is never reached -/
def tNever : TS := fun _ _ _ => False
/-! set(xs), xs a list of texts -/
def MidS (P : Program) (w : World) (a : Addr) (ss : List Str) (i : Nat) (h : Heap) : Prop :=
  ∃ (S : Key → Bool) (n : Nat), VS.SetM w h a S n ∧ (∀ k, S k = true ↔ ∃ x ∈ ss.take i, k = Sum.inr x) ∧ n ≤ i
theorem strs_at : ∀ {ss : List Str} {us : List Value}, Vals (ss.map V.str) us → ∀ {i : Nat} {v : Value}, us[i]? = some v → ∃ x, ss[i]? = some x ∧ RelV (V.str x) v
  | [], us, r, i, v, e => by rw [List.map_nil] at r; cases r; simp at e
  | x :: ss, us, r, i, v, e => by
    rw [List.map_cons] at r
    cases r with
    | cons h t =>
      cases i with
      | zero => simp at e; subst e; exact ⟨x, rfl, h⟩
      | succ i => exact strs_at t (by simpa using e)
theorem midS_adds {P : Program} {w : World} {a : Addr} {h0 : Heap} {items : Array Value} (ss : List Str) (hit : Vals (ss.map V.str) items.toList) (few : ss.length + 1 < scanBound) :
    VT.Adds P w 0 a h0 items.size (fun i v => items[i]? = some v) (MidS P w a ss) where
  keep := fun i h h' ⟨S, n, M, r⟩ z => ⟨S, n, M.at fun o e => z a o (.inl rfl) e, r⟩
  step := by
    intro A E i v s F hu hi hv ⟨S, n, M, mem, len⟩ old fin
    obtain ⟨x, hx, hr⟩ := strs_at hit (i := i) (v := v) (by rw [Array.getElem?_toList]; exact hv)
    have tk : ss.take (i + 1) = ss.take i ++ [x] := by rw [List.take_succ, hx] <;> rfl
    have small : i < ss.length := (List.getElem?_eq_some_iff.mp hx).1
    have hkey : (mixKind P w).is (Sum.inr x) v = true := kV_is (k := Sum.inr x) hr
    have hsc : v.scannable = true := key_scan (k := Sum.inr x) hr
    unfold setAdd
    refine wpAny_holding (wpAny_bind ((mixKind P w).pyHash hkey ?_))
    refine VS.add_hashedM (s := { s with toks := s.toks + 1 }) hkey hsc M (by omega) fun h' sb M' => fin _ h' 1 sb ⟨_, _, M', fun k => ?_, ?_⟩
    · rw [Bool.or_eq_true, decide_eq_true_eq, mem, tk]
      constructor
      · rintro (⟨y, hy, e⟩ | e)
        · exact ⟨y, List.mem_append_left _ hy, e⟩
        · exact ⟨x, List.mem_append_right _ (List.mem_singleton.mpr rfl), e⟩
      · rintro ⟨y, hy, e⟩
        rcases List.mem_append.mp hy with z | z
        · exact .inl ⟨y, z, e⟩
        · rw [List.mem_singleton.mp z] at e; exact .inr e
    · split <;> omega
theorem noneS (ss : List Str) : ∀ k : Key, (fun _ : Key => false) k = true ↔ ∃ x ∈ ss.take 0, k = Sum.inr x := fun k => ⟨fun z => Bool.noConfusion z, fun ⟨x, z, _⟩ => absurd z (by rw [List.take_zero]; exact List.not_mem_nil)⟩
def rSetS (K : PySem.W.Frag) (w : World) : List V → Hp → VK → Prop := fun xs H Q => ∃ (l : Addr) (ss : List Str), xs = [V.ref l] ∧ SqL K H l (ss.map V.str) ∧ ss.length + 1 < scanBound ∧
  ∀ (a : Addr) (S : Key → Bool) (n : Nat), H a = none → (∀ k, S k = true ↔ ∃ x ∈ ss, k = Sum.inr x) → n ≤ ss.length → Q (.ref a) (upd H a (VS.SetMO w a S n))
theorem cr_setS {X : Cx} {K : PySem.W.Frag} {w : World} (hK : X.K = K) (hw : X.w = w) (hc : X.calm = true) (hu : X.A.units + 3 < cLine) : CallR X (.type "set") (rSetS K w) := by
  subst hK
  subst hw
  intro pins s σ H xs us Q I r h
  obtain ⟨l, ss, rfl, hS, few, q⟩ := h
  obtain ⟨its, rv, hl, hz⟩ := I.list hS
  rw [Vals.ref1 r]
  have szs : its.toArray.size = ss.length := by rw [List.size_toArray, ← rv.length, List.length_map]
  refine VT.set_of_list (I.ok.hd hc) hl.isList hu (MidS X.prog X.w s.heap.objs.size ss) (midS_adds ss (by simpa using rv) few) (fun h' e _ => ⟨fun _ => false, 0, ?_, noneS ss, Nat.zero_le _⟩) fun h' tk j old => ?_
  · refine ⟨_, #[], 0, _, e, ⟨rfl, rfl, rfl⟩, rfl, (fun e he => by simp at he), (by simp), (fun k => by simp), (by decide), (by rfl), rfl, List.Pairwise.nil, ?_⟩
    show _ ∨ (!X.w.params.followText "set-order") = true
    cases X.w.params.followText "set-order"
    · exact .inr rfl
    · exact .inl rfl
  rw [szs] at j
  obtain ⟨S, n, M, mem, len⟩ := j
  rw [List.take_length] at mem
  have fr : H s.heap.objs.size = none := I.hok.fresh (Nat.le_refl _)
  exact ⟨.ref _, upd H s.heap.objs.size (VS.SetMO X.w s.heap.objs.size S n), I.laid (t' := tk) old (Nat.le_refl _) (VS.setMO_new (P := X.prog) M), rfl, q _ S n fr mem len⟩
/-! d.setdefault(t, e), t a tuple of ints and texts -/
section
variable {X : Cx} {o e f : Expr} {td ty tx : TE} {apos cpos : Pos}
def tSetdT (td ty tx : TE) : TE := fun σ H Q => td σ H fun x H1 => ∃ a, x = .ref a ∧ IsD H1 a ∧ ty σ H1 fun y H2 => tx σ H2 fun z H3 => ∃ (kvs : List (List Key × V)) (k : List Key) (b : Addr), H3 a = some (.dT kvs) ∧ y = .ref b ∧ H3 b = some (.tup (k.map kV)) ∧
  kvs.length < sizeLine ∧ (∀ v, valV kvs k = some v → Q v H3) ∧ (valV kvs k = none → Q z (upd H3 a (.dT (putK kvs k z))))
theorem pe_setdT (hu : X.A.units + 1 < cLine) (ho : PE X o td) (he : PE X e ty) (hf : PE X f tx) (m : M2 X o "setdefault" apos e f cpos) : PE X (.Call (.Attribute o "setdefault" apos) [e, f] [] cpos) (tSetdT td ty tx) := by
  refine ⟨fun pins s σ H Q I h => ?_⟩
  refine wpAny_Call_method m.base m.few m.line PySem.F.plainAttrs_dict PySem.F.slot_dict_setdefault PySem.F.type_dict_setdefault (thn (ho.run pins s σ H _ I h) fun u s1 ⟨x, H1, I1, rx, a, ex, d, q1⟩ => ?_)
  subst ex
  obtain rfl : u = Value.ref a := rx
  obtain ⟨t1, t2, _⟩ := isD_at I1 d
  refine ⟨t1, t2, ?_⟩
  rw [m.trees]
  refine Calls.callWith_builtin rfl (Calls.evalArgs_plain (Calls.spliced_cons (thn (he.run pins s1 σ H1 _ I1 q1) fun iv s2 ⟨y, H2, I2, ry, q2⟩ =>
    Calls.spliced_cons (thn (hf.run pins s2 σ H2 _ I2 q2) fun fv s3 ⟨z, H3, I3, rz, kvs, k, b, ea, ey, eb, hl, q3, q4⟩ => Calls.spliced_nil ?_))))
  subst ey
  obtain rfl : iv = Value.ref b := ry
  obtain ⟨len, low, xs, kt, dh⟩ := dt_of I3.hok ea
  have room : X.A.in1.units < cLine := by
    show X.A.units + 1 < cLine
    exact hu
  refine PySem.call_setdefault_heap (knd := tupleKind (mixKind X.prog X.w)) room (key_of I3.hok eb) low dh (fun p hp => ?_) (fun hn h' dh' sb => ?_) (by rw [← kt.length]; exact len)
  · have g := kt.val k
    rw [hp] at g
    cases c : valV kvs k with
    | none => rw [c] at g; exact (show False from g).elim
    | some v => rw [c] at g; exact ⟨v, H3, I3.tok _, g, q3 v c⟩
  · have g := kt.val k
    rw [hn] at g
    cases c : valV kvs k with
    | some v => rw [c] at g; exact (show False from g).elim
    | none =>
      have l2 : (putK kvs k z).length ≤ sizeLine := by
        have := length_putK kvs k z
        omega
      obtain ⟨q, es, ep, hq, g1, g2, g3, _, g4⟩ := dh'
      refine ⟨z, _, d_write (ob := .dT (putK kvs k z)) I3 (by rw [ea]; exact True.intro) sb ⟨q, hq⟩ ⟨l2, low, _, (kt.put k eb rz).keeps fun c ys ec => ?_, q, es, ep, hq, g1, g2, g3, g4⟩, rz, q4 c⟩
      rw [upd_ne (ne_of ec ea (fun z => nomatch z))]
      exact ec
end
end VO

set_option Elab.async false
set_option linter.all false
set_option maxRecDepth 100000
set_option maxHeartbeats 4000000
namespace VM
open PySem PySem.Spec PyProof.Rows L2 LamX NdefX VB
/-! edges and their order -/
abbrev Ed := Int × Str × Int
abbrev Pr := Str × Int
def edV (e : Ed) : List V := [.int e.1, .str e.2.1, .int e.2.2]
def edK (e : Ed) : List Key := [.inl e.1, .inr e.2.1, .inl e.2.2]
def edD (e : Ed) : PyData := .tuple [.int e.1, .str e.2.1, .int e.2.2]
def pqV (e : Pr) : List V := [.str e.1, .int e.2]
def pqD (e : Pr) : PyData := .tuple [.str e.1, .int e.2]
def sLt (a b : Str) : Prop := a.cps.toList < b.cps.toList
instance (a b : Str) : Decidable (sLt a b) := inferInstanceAs (Decidable (a.cps.toList < b.cps.toList))
def ltP (a b : Pr) : Prop := sLt a.1 b.1 ∨ (a.1 = b.1 ∧ a.2 < b.2)
instance (a b : Pr) : Decidable (ltP a b) := inferInstanceAs (Decidable (_ ∨ _))
def ltE (a b : Ed) : Prop := a.1 < b.1 ∨ (a.1 = b.1 ∧ ltP a.2 b.2)
instance (a b : Ed) : Decidable (ltE a b) := inferInstanceAs (Decidable (_ ∨ _))
theorem sLt_irrefl (a : Str) : ¬ sLt a a := List.lt_irrefl _
theorem sLt_trans {a b c : Str} (h : sLt a b) (g : sLt b c) : sLt a c := List.lt_trans h g
theorem sLt_tri {a b : Str} (h : ¬ sLt a b) (g : ¬ sLt b a) : a = b :=
  PyProof.Rows.ext_toList (List.le_antisymm (List.not_lt.mp g) (List.not_lt.mp h))
theorem ltP_irrefl (a : Pr) : ¬ ltP a a := fun z => z.elim (sLt_irrefl _) fun z => Int.lt_irrefl _ z.2
theorem ltP_trans {a b c : Pr} (h : ltP a b) (g : ltP b c) : ltP a c := by
  rcases h with h | ⟨h1, h2⟩
  · rcases g with g | ⟨g1, g2⟩
    · exact .inl (sLt_trans h g)
    · exact .inl (g1 ▸ h)
  · rcases g with g | ⟨g1, g2⟩
    · exact .inl (h1 ▸ g)
    · exact .inr ⟨h1.trans g1, Int.lt_trans h2 g2⟩
theorem ltP_tri {a b : Pr} (h : ¬ ltP a b) (g : ¬ ltP b a) : a = b := by
  have e1 : a.1 = b.1 := sLt_tri (fun z => h (.inl z)) fun z => g (.inl z)
  have h2 : ¬ a.2 < b.2 := fun z => h (.inr ⟨e1, z⟩)
  have g2 : ¬ b.2 < a.2 := fun z => g (.inr ⟨e1.symm, z⟩)
  exact Prod.ext e1 (by omega)
theorem ltE_irrefl (a : Ed) : ¬ ltE a a := fun z => z.elim (Int.lt_irrefl _) fun z => ltP_irrefl _ z.2
theorem ltE_trans {a b c : Ed} (h : ltE a b) (g : ltE b c) : ltE a c := by
  rcases h with h | ⟨h1, h2⟩
  · rcases g with g | ⟨g1, g2⟩
    · exact .inl (Int.lt_trans h g)
    · exact .inl (g1 ▸ h)
  · rcases g with g | ⟨g1, g2⟩
    · exact .inl (h1 ▸ g)
    · exact .inr ⟨h1.trans g1, ltP_trans h2 g2⟩
theorem ltE_tri {a b : Ed} (h : ¬ ltE a b) (g : ¬ ltE b a) : a = b := by
  have h1 : ¬ a.1 < b.1 := fun z => h (.inl z)
  have g1 : ¬ b.1 < a.1 := fun z => g (.inl z)
  have e1 : a.1 = b.1 := by omega
  exact Prod.ext e1 (ltP_tri (fun z => h (.inr ⟨e1, z⟩)) fun z => g (.inr ⟨e1.symm, z⟩))
/-- a list without repetition, ascending, is told by its members -/
theorem asc_unique {α : Type} {lt : α → α → Prop} (ir : ∀ a, ¬ lt a a) (tr : ∀ a b c, lt a b → lt b c → lt a c) : ∀ {l m : List α}, l.Pairwise lt → m.Pairwise lt → (∀ x, x ∈ l ↔ x ∈ m) → l = m
  | [], [], _, _, _ => rfl
  | [], b :: m, _, _, h => absurd ((h b).2 List.mem_cons_self) List.not_mem_nil
  | a :: l, [], _, _, h => absurd ((h a).1 List.mem_cons_self) List.not_mem_nil
  | a :: l, b :: m, hl, hm, h => by
    obtain ⟨l1, l2⟩ := List.pairwise_cons.mp hl
    obtain ⟨m1, m2⟩ := List.pairwise_cons.mp hm
    have e : a = b := by
      rcases List.mem_cons.mp ((h a).1 List.mem_cons_self) with z | z
      · exact z
      · rcases List.mem_cons.mp ((h b).2 List.mem_cons_self) with y | y
        · exact y.symm
        · exact absurd (tr _ _ _ (l1 b y) (m1 a z)) (ir a)
    subst e
    rw [asc_unique ir tr l2 m2 fun x => ?_]
    constructor
    · intro z
      rcases List.mem_cons.mp ((h x).1 (List.mem_cons_of_mem _ z)) with y | y
      · exact absurd (l1 x z) (y ▸ ir a)
      · exact y
    · intro z
      rcases List.mem_cons.mp ((h x).2 (List.mem_cons_of_mem _ z)) with y | y
      · exact absurd (m1 x z) (y ▸ ir a)
      · exact y
theorem ascE {l m : List Ed} (hl : l.Pairwise ltE) (hm : m.Pairwise ltE) (h : ∀ x, x ∈ l ↔ x ∈ m) : l = m := asc_unique ltE_irrefl (fun _ _ _ => ltE_trans) hl hm h
/-! the order of the data -/
theorem dataLt_pr (a b : Pr) : PySem.W.dataLt (pqD a) (pqD b) = decide (ltP a b) := by
  unfold pqD
  rw [PySem.W.dataLt_pair rfl rfl, PySem.W.dataLt_str]
  by_cases e : a.1 = b.1
  · rw [if_pos (by rw [e]; simp [PyData.eqv])]
    by_cases e2 : a.2 = b.2
    · rw [if_pos (by rw [e2]; simp [PyData.eqv])]
      refine (decide_eq_false fun z => ?_).symm
      rcases z with z | z
      · rw [e] at z; exact sLt_irrefl _ z
      · omega
    · rw [if_neg (by simp [PyData.eqv, e2]), PySem.W.dataLt_int]
      refine decide_eq_decide.mpr ⟨fun z => .inr ⟨e, z⟩, fun z => ?_⟩
      rcases z with z | z
      · rw [e] at z; exact absurd z (sLt_irrefl _)
      · exact z.2
  · rw [if_neg (by simp [PyData.eqv, e])]
    refine decide_eq_decide.mpr ⟨fun z => .inl z, fun z => ?_⟩
    rcases z with z | z
    · exact z
    · exact absurd z.1 e
theorem dataLt_ed (a b : Ed) : PySem.W.dataLt (edD a) (edD b) = decide (ltE a b) := by
  have h2 : PySem.W.dataLt (pqD a.2) (pqD b.2) = decide (ltP a.2 b.2) := dataLt_pr a.2 b.2
  unfold pqD at h2
  rw [PySem.W.dataLt_tuple] at h2
  unfold edD
  rw [PySem.W.dataLt_tuple, PySem.W.dataLt_cons rfl, h2, PySem.W.dataLt_int]
  by_cases e : a.1 = b.1
  · rw [if_pos (by rw [e]; simp [PyData.eqv])]
    refine decide_eq_decide.mpr ⟨fun z => .inr ⟨e, z⟩, fun z => ?_⟩
    rcases z with z | z
    · omega
    · exact z.2
  · rw [if_neg (by simp [PyData.eqv, e])]
    refine decide_eq_decide.mpr ⟨fun z => .inl z, fun z => ?_⟩
    rcases z with z | z
    · exact z
    · exact absurd z.1 e
/-- what sorting leaves of distinct items: ascending -/
theorem asc_of_sorted {α : Type} {lt : α → α → Prop} [DecidableRel lt] (tri : ∀ a b, ¬ lt a b → ¬ lt b a → a = b) {le : α → α → Bool} (hle : ∀ a b, le a b = !decide (lt b a)) (tr : ∀ a b c, lt a b → lt b c → lt a c) (ir : ∀ a, ¬ lt a a)
    {l : List α} (nd : l.Nodup) : (l.mergeSort le).Pairwise lt := by
  have tot : ∀ a b, (le a b || le b a) = true := by
    intro a b
    rw [hle, hle, Bool.or_eq_true, Bool.not_eq_true', Bool.not_eq_true', decide_eq_false_iff_not, decide_eq_false_iff_not]
    by_cases h : lt b a
    · exact .inr fun z => ir a (tr _ _ _ z h)
    · exact .inl h
  have trn : ∀ a b c, le a b = true → le b c = true → le a c = true := by
    intro a b c h g
    rw [hle, Bool.not_eq_true', decide_eq_false_iff_not] at *
    intro z
    by_cases e : lt a b
    · exact g (tr _ _ _ z e)
    · rw [tri a b e h] at z
      exact g z
  have p1 := List.pairwise_mergeSort (le := le) trn tot l
  have nd2 : (l.mergeSort le).Nodup := (List.mergeSort_perm l le).nodup_iff.mpr nd
  refine (p1.and nd2).imp fun {a b} ⟨h, n⟩ => ?_
  rw [hle, Bool.not_eq_true', decide_eq_false_iff_not] at h
  by_cases e : lt a b
  · exact e
  · exact absurd (tri a b e h) n
/-! the edges that leave a state -/
def leav (E : List Ed) (s : Int) : List Pr := (E.filter fun e => decide (e.1 = s)).map (·.2)
theorem leav_mem {E : List Ed} {s : Int} {p : Pr} : p ∈ leav E s ↔ (s, p) ∈ E := by
  unfold leav
  rw [List.mem_map]
  constructor
  · rintro ⟨e, he, rfl⟩
    obtain ⟨h1, h2⟩ := List.mem_filter.mp he
    rw [← of_decide_eq_true h2]
    exact h1
  · intro h
    exact ⟨(s, p), List.mem_filter.mpr ⟨h, decide_eq_true rfl⟩, rfl⟩
theorem leav_asc {E : List Ed} (h : E.Pairwise ltE) (s : Int) : (leav E s).Pairwise ltP := by
  unfold leav
  rw [List.pairwise_map]
  refine (h.filter _).imp_of_mem fun {a b} ha hb z => ?_
  have e1 := of_decide_eq_true (List.mem_filter.mp ha).2
  have e2 := of_decide_eq_true (List.mem_filter.mp hb).2
  rcases z with z | z
  · omega
  · exact z.2
theorem leav_snoc (E : List Ed) (e : Ed) (s : Int) : leav (E ++ [e]) s = if e.1 = s then leav E s ++ [e.2] else leav E s := by
  unfold leav
  rw [List.filter_append, List.map_append]
  by_cases h : e.1 = s
  · rw [if_pos h, List.filter_cons_of_pos (by simpa using h)]; rfl
  · rw [if_neg h, List.filter_cons_of_neg (by simpa using h)]; simp
/-- the states' edges are no more than all -/
theorem leav_sum : ∀ (E : List Ed) (ss : List Int), ss.Nodup → (ss.map fun s => (leav E s).length).sum ≤ E.length
  | [], ss, _ => by
    have z : ss.map (fun s => (leav [] s).length) = ss.map fun _ => 0 := rfl
    rw [z]
    have g : ∀ l : List Int, (l.map fun _ => 0).sum = 0 := by
      intro l
      induction l with
      | nil => rfl
      | cons x l ih => rw [List.map_cons, List.sum_cons, ih]
    rw [g]
    exact Nat.le_refl _
  | e :: E, ss, nd => by
    have ih := leav_sum E ss nd
    have g : ∀ l : List Int, l.Nodup → (l.map fun s => (leav (e :: E) s).length).sum ≤ (l.map fun s => (leav E s).length).sum + (if e.1 ∈ l then 1 else 0) := by
      intro l
      induction l with
      | nil => intro _; exact Nat.zero_le _
      | cons x l ih =>
        intro hn
        obtain ⟨n1, n2⟩ := List.nodup_cons.mp hn
        have ih2 := ih n2
        rw [List.map_cons, List.sum_cons, List.map_cons, List.sum_cons]
        by_cases h : e.1 = x
        · have e1 : (leav (e :: E) x).length = (leav E x).length + 1 := by
            unfold leav
            rw [List.filter_cons_of_pos (by simpa using h), List.map_cons, List.length_cons]
          rw [e1, if_pos (h ▸ List.mem_cons_self)]
          rw [if_neg (h ▸ n1)] at ih2
          omega
        · have e1 : (leav (e :: E) x).length = (leav E x).length := by
            unfold leav
            rw [List.filter_cons_of_neg (by simpa using h)]
          rw [e1]
          have e2 : (e.1 ∈ x :: l) = (e.1 ∈ l) := by
            rw [List.mem_cons]
            exact propext ⟨fun z => z.elim (fun y => absurd y h) id, .inr⟩
          simp only [e2]
          omega
    have z := g ss nd
    rw [List.length_cons]
    split at z <;> omega
/-! numbering: the states in their new order, the edges so far -/
abbrev Bs := List Int × List Ed
def ix (o : List Int) (t : Int) : Int := (o.idxOf t : Nat)
def see (o : List Int) (t : Int) : List Int := if t ∈ o then o else o ++ [t]
def visit (k : Nat) : List Pr → Bs → Bs
  | [], st => st
  | p :: r, (o, f) => visit k r (see o p.2, f ++ [((k : Int), p.1, ix (see o p.2) p.2)])
def step (E : List Ed) (k : Nat) (st : Bs) : Bs := match st.1[k]? with
  | some s => visit k (leav E s) st
  | none => st
def runB (E : List Ed) (start : Int) : Nat → Bs
  | 0 => ([start], [])
  | k + 1 => step E k (runB E start k)
theorem see_mem (o : List Int) (t : Int) : t ∈ see o t := by
  unfold see
  by_cases h : t ∈ o
  · rw [if_pos h]; exact h
  · rw [if_neg h]; simp
theorem see_sub {o : List Int} {t x : Int} (h : x ∈ o) : x ∈ see o t := by
  unfold see
  split
  · exact h
  · exact List.mem_append_left _ h
theorem see_pre (o : List Int) (t : Int) : ∃ r, see o t = o ++ r := by
  unfold see
  split
  · exact ⟨[], by simp⟩
  · exact ⟨_, rfl⟩
theorem visit_pre (k : Nat) : ∀ (l : List Pr) (st : Bs), ∃ r g, visit k l st = (st.1 ++ r, st.2 ++ g)
  | [], st => ⟨[], [], by simp [visit]⟩
  | p :: l, (o, f) => by
    obtain ⟨r1, e1⟩ := see_pre o p.2
    obtain ⟨r, g, e⟩ := visit_pre k l (see o p.2, f ++ [((k : Int), p.1, ix (see o p.2) p.2)])
    refine ⟨r1 ++ r, [((k : Int), p.1, ix (see o p.2) p.2)] ++ g, ?_⟩
    show visit k l _ = _
    rw [e, e1]
    simp [List.append_assoc]
theorem visit_mem (k : Nat) : ∀ (l : List Pr) (st : Bs) (x : Int), x ∈ (visit k l st).1 ↔ x ∈ st.1 ∨ ∃ p ∈ l, p.2 = x
  | [], st, x => ⟨.inl, fun z => z.elim id fun ⟨_, y, _⟩ => absurd y List.not_mem_nil⟩
  | p :: l, (o, f), x => by
    show x ∈ (visit k l _).1 ↔ _
    rw [visit_mem k l]
    show x ∈ see o p.2 ∨ _ ↔ _
    have e : x ∈ see o p.2 ↔ x ∈ o ∨ p.2 = x := by
      constructor
      · intro h
        unfold see at h
        split at h
        · exact .inl h
        · rcases List.mem_append.mp h with z | z
          · exact .inl z
          · exact .inr (List.mem_singleton.mp z).symm
      · rintro (h | h)
        · exact see_sub h
        · exact h ▸ see_mem o p.2
    rw [e]
    constructor
    · rintro ((h | h) | ⟨q, hq, h⟩)
      · exact .inl h
      · exact .inr ⟨p, List.mem_cons_self, h⟩
      · exact .inr ⟨q, List.mem_cons_of_mem _ hq, h⟩
    · rintro (h | ⟨q, hq, h⟩)
      · exact .inl (.inl h)
      · rcases List.mem_cons.mp hq with rfl | z
        · exact .inl (.inr h)
        · exact .inr ⟨q, z, h⟩
end VM

set_option Elab.async false
set_option linter.all false
set_option maxRecDepth 100000
set_option maxHeartbeats 4000000
namespace VM
open PySem PySem.Spec PyProof.Rows L2 LamX NdefX VB
theorem ix_app {o : List Int} {t : Int} (h : t ∈ o) (r : List Int) : ix (o ++ r) t = ix o t := by
  unfold ix
  rw [List.idxOf_append, if_pos h]
theorem ix_lt {o : List Int} {t : Int} (h : t ∈ o) : 0 ≤ ix o t ∧ ix o t < (o.length : Nat) := by
  unfold ix
  have := List.idxOf_lt_length_iff.mpr h
  omega
theorem ix_at {o : List Int} (nd : o.Nodup) {i : Nat} {t : Int} (h : o[i]? = some t) : ix o t = (i : Nat) := by
  unfold ix
  obtain ⟨hi, e⟩ := List.getElem?_eq_some_iff.mp h
  have := nd.idxOf_getElem i hi
  rw [e] at this
  rw [this]
/-- what the numbering has after k states -/
structure Numb (E : List Ed) (n : Int) (k : Nat) (st : Bs) : Prop where
  nd : st.1.Nodup
  low : ∀ x ∈ st.1, 0 ≤ x ∧ x < n
  le : k ≤ st.1.length
  len : st.2.length = ((st.1.take k).map fun s => (leav E s).length).sum
  mem : ∀ e, e ∈ st.2 ↔ ∃ i s, i < k ∧ st.1[i]? = some s ∧ ∃ p ∈ leav E s, e = ((i : Int), p.1, ix st.1 p.2)
  has : ∀ i s, i < k → st.1[i]? = some s → ∀ p ∈ leav E s, p.2 ∈ st.1
theorem Numb.few {E : List Ed} {n : Int} {k : Nat} {st : Bs} (N : Numb E n k st) : st.2.length ≤ E.length := by
  rw [N.len]
  exact leav_sum E _ (N.nd.sublist (List.take_sublist _ _))
/-! the run -/
theorem runB_stop {E : List Ed} {k : Nat} (h : (runB E 0 k).1.length ≤ k) : ∀ j, runB E 0 (k + j) = runB E 0 k
  | 0 => rfl
  | j + 1 => by
    have e : runB E 0 (k + (j + 1)) = step E (k + j) (runB E 0 (k + j)) := rfl
    rw [e, runB_stop h j]
    unfold step
    rw [List.getElem?_eq_none (by omega)]
/-- a run that has come to its end -/
structure Done (E : List Ed) (n : Int) (st : Bs) : Prop where
  at_ : runB E 0 st.1.length = st
  nb : Numb E n st.1.length st
/-! renumbering what is numbered changes nothing -/
def rng (m : Nat) : List Int := (List.range m).map fun i => ((i : Nat) : Int)
theorem rng_mem {m : Nat} {x : Int} : x ∈ rng m ↔ 0 ≤ x ∧ x < (m : Nat) := by
  unfold rng
  rw [List.mem_map]
  constructor
  · rintro ⟨i, hi, rfl⟩
    rw [List.mem_range] at hi
    omega
  · rintro ⟨h1, h2⟩
    exact ⟨x.toNat, List.mem_range.mpr (by omega), by omega⟩
theorem rng_succ (m : Nat) : rng (m + 1) = rng m ++ [((m : Nat) : Int)] := by
  unfold rng
  rw [List.range_succ, List.map_append] <;> rfl
theorem rng_len (m : Nat) : (rng m).length = m := by
  unfold rng
  rw [List.length_map, List.length_range]
theorem rng_nodup (m : Nat) : (rng m).Nodup := by
  unfold rng
  refine List.nodup_iff_pairwise_ne.mpr ?_
  rw [List.pairwise_map]
  exact (List.nodup_iff_pairwise_ne.mp List.nodup_range).imp fun h e => h (by omega)
theorem rng_get {m i : Nat} (h : i < m) : (rng m)[i]? = some ((i : Nat) : Int) := by
  unfold rng
  rw [List.getElem?_map, List.getElem?_range h] <;> rfl
theorem rng_ix {m : Nat} {x : Int} (h : x ∈ rng m) : ix (rng m) x = x := by
  obtain ⟨h1, h2⟩ := rng_mem.1 h
  have := ix_at (rng_nodup m) (i := x.toNat) (t := x) (by rw [rng_get (by omega)]; congr 1; omega)
  rw [this]
  omega
theorem rng_eq {a b : Nat} (h : ∀ x, x ∈ rng a ↔ x ∈ rng b) : a = b := by
  rcases Nat.lt_trichotomy a b with z | z | z
  · have := (h (a : Nat)).2 (rng_mem.2 ⟨by omega, by omega⟩)
    have := (rng_mem.1 this).2
    omega
  · exact z
  · have := (h (b : Nat)).1 (rng_mem.2 ⟨by omega, by omega⟩)
    have := (rng_mem.1 this).2
    omega
/-- a new number comes behind all smaller new ones, whose actions are no greater -/
theorem visit_order (k m : Nat) (Q : List Pr) (fin : List Int) : ∀ (l : List Pr) (st : Bs), (∀ p ∈ l, p ∈ Q) → l.Pairwise ltP → (∃ r, fin = (visit k l st).1 ++ r) →
    (∀ c : Nat, m ≤ c → c < st.1.length → ∃ q' ∈ Q, ix fin q'.2 = (c : Nat) ∧ ∀ q ∈ l, ¬ sLt q.1 q'.1) →
    ∀ q ∈ l, ∀ c : Nat, m ≤ c → (c : Int) < ix fin q.2 → ∃ q' ∈ Q, ix fin q'.2 = (c : Nat) ∧ ¬ sLt q.1 q'.1
  | [], _, _, _, _, _, q, h => absurd h List.not_mem_nil
  | p :: l, (o, f), sub, asc, hfin, H, q, hq => by
    obtain ⟨r, er⟩ := hfin
    obtain ⟨p1, p2⟩ := List.pairwise_cons.mp asc
    have er' : fin = (visit k l (see o p.2, f ++ [((k : Int), p.1, ix (see o p.2) p.2)])).1 ++ r := er
    obtain ⟨r2, g2, e2⟩ := visit_pre k l (see o p.2, f ++ [((k : Int), p.1, ix (see o p.2) p.2)])
    have e3 : fin = see o p.2 ++ (r2 ++ r) := by rw [er', e2]; show see o p.2 ++ r2 ++ r = _; rw [List.append_assoc]
    have ip : ix fin p.2 = ix (see o p.2) p.2 := by rw [e3]; exact ix_app (see_mem o p.2) _
    have below : ix fin p.2 ≤ (o.length : Nat) := by
      rw [ip]
      have z := (ix_lt (see_mem o p.2)).2
      unfold see at z ⊢
      by_cases h : p.2 ∈ o
      · rw [if_pos h] at z ⊢; omega
      · rw [if_neg h, List.length_append, List.length_singleton] at z; rw [if_neg h]; omega
    rcases List.mem_cons.mp hq with rfl | hql
    · intro c h1 h2
      obtain ⟨q', z1, z2, z3⟩ := H c h1 (by show c < o.length; omega)
      exact ⟨q', z1, z2, z3 _ List.mem_cons_self⟩
    · refine visit_order k m Q fin l _ (fun x hx => sub x (List.mem_cons_of_mem _ hx)) p2 ⟨r, er'⟩ (fun c h1 h2 => ?_) q hql
      rcases Nat.lt_or_ge c o.length with z | z
      · obtain ⟨q', z1, z2, z3⟩ := H c h1 z
        exact ⟨q', z1, z2, fun x hx => z3 x (List.mem_cons_of_mem _ hx)⟩
      · have h2' : c < (see o p.2).length := h2
        have ho : p.2 ∉ o := fun y => by unfold see at h2'; rw [if_pos y] at h2'; omega
        have ec : c = o.length := by
          unfold see at h2'
          rw [if_neg ho, List.length_append, List.length_singleton] at h2'
          omega
        refine ⟨p, sub p List.mem_cons_self, ?_, fun x hx => ?_⟩
        · rw [ip]
          unfold see
          rw [if_neg ho]
          unfold ix
          rw [List.idxOf_append, if_neg ho]
          simp [ec]
        · intro y
          rcases p1 x hx with w | w
          · exact sLt_irrefl _ (sLt_trans w y)
          · rw [w.1] at y; exact sLt_irrefl _ y
/-- a visit in ascending order of numbered pairs numbers them as they are -/
theorem visit_rng (k m : Nat) (P : List Pr) (h0 : ∀ p ∈ P, 0 ≤ p.2) (h2 : ∀ p ∈ P, ∀ c : Nat, m ≤ c → (c : Int) < p.2 → ∃ p' ∈ P, p'.2 = (c : Nat) ∧ ¬ sLt p.1 p'.1) :
    ∀ (l pre : List Pr) (c : Nat) (f : List Ed), P = pre ++ l → P.Pairwise ltP → m ≤ c → (∀ p ∈ pre, p.2 < (c : Nat)) → ∃ c2, (visit k l (rng c, f)).1 = rng c2
  | [], pre, c, f, _, _, _, _ => ⟨c, rfl⟩
  | p :: l, pre, c, f, eP, asc, mc, old => by
    have hp : p ∈ P := by rw [eP]; simp
    have pos := h0 p hp
    by_cases h : p.2 < (c : Nat)
    · have e : see (rng c) p.2 = rng c := by
        unfold see
        rw [if_pos (rng_mem.2 ⟨pos, h⟩)]
      show ∃ c2, (visit k l (see (rng c) p.2, _)).1 = rng c2
      rw [e]
      refine visit_rng k m P h0 h2 l (pre ++ [p]) c _ (by rw [eP]; simp) asc mc fun x hx => ?_
      rcases List.mem_append.mp hx with z | z
      · exact old x z
      · rw [List.mem_singleton.mp z]; exact h
    · have ec : p.2 = (c : Nat) := by
        by_cases q : (c : Int) < p.2
        · obtain ⟨p', m1, m2, m3⟩ := h2 p hp c mc q
          exfalso
          rw [eP] at m1 asc
          rcases List.mem_append.mp m1 with w | w
          · have := old p' w; omega
          · rcases List.mem_cons.mp w with w | w
            · rw [w] at m2; omega
            · have lt := (List.pairwise_cons.mp (List.pairwise_append.mp asc).2.1).1 p' w
              rcases lt with y | y
              · exact m3 y
              · omega
        · omega
      have nin : p.2 ∉ rng c := fun z => h (rng_mem.1 z).2
      have e : see (rng c) p.2 = rng (c + 1) := by
        unfold see
        rw [if_neg nin, rng_succ, ec]
      show ∃ c2, (visit k l (see (rng c) p.2, _)).1 = rng c2
      rw [e]
      refine visit_rng k m P h0 h2 l (pre ++ [p]) (c + 1) _ (by rw [eP]; simp) asc (by omega) fun x hx => ?_
      rcases List.mem_append.mp hx with z | z
      · have := old x z; omega
      · rw [List.mem_singleton.mp z, ec]; omega
theorem runB_pre (E : List Ed) (k : Nat) : ∀ j, ∃ r, (runB E 0 (k + j)).1 = (runB E 0 k).1 ++ r
  | 0 => ⟨[], by simp⟩
  | j + 1 => by
    obtain ⟨r, e⟩ := runB_pre E k j
    have e1 : runB E 0 (k + (j + 1)) = step E (k + j) (runB E 0 (k + j)) := rfl
    rw [e1]
    unfold step
    cases c : (runB E 0 (k + j)).1[k + j]? with
    | none => exact ⟨r, e⟩
    | some s =>
      obtain ⟨r2, g, e2⟩ := visit_pre (k + j) (leav E s) (runB E 0 (k + j))
      exact ⟨r ++ r2, by show (visit _ _ _).1 = _; rw [e2, e, List.append_assoc]⟩
section
variable {E : List Ed} {n : Int} {st : Bs}
theorem Done.lt (D : Done E n st) {k : Nat} (h : k < st.1.length) : k < (runB E 0 k).1.length := by
  rcases Nat.lt_or_ge k (runB E 0 k).1.length with z | z
  · exact z
  · have e := runB_stop z (st.1.length - k)
    rw [Nat.add_sub_cancel' (Nat.le_of_lt h), D.at_] at e
    rw [← e] at z
    omega
theorem Done.pre (D : Done E n st) {k : Nat} (h : k ≤ st.1.length) : ∃ r, st.1 = (runB E 0 k).1 ++ r := by
  obtain ⟨r, e⟩ := runB_pre E k (st.1.length - k)
  rw [Nat.add_sub_cancel' h, D.at_] at e
  exact ⟨r, e⟩
variable {E1 : List Ed}
/-- the pairs that leave a new state -/
theorem Done.leav (D : Done E n st) (mem : ∀ e, e ∈ E1 ↔ e ∈ st.2) {k : Nat} {s : Int} (hs : st.1[k]? = some s) (p : Pr) :
    p ∈ VM.leav E1 ((k : Nat) : Int) ↔ ∃ q ∈ VM.leav E s, p = (q.1, ix st.1 q.2) := by
  rw [leav_mem, mem, D.nb.mem]
  constructor
  · rintro ⟨i, s', hi, hs', q, hq, e⟩
    have e1 : ((k : Nat) : Int) = ((i : Nat) : Int) := congrArg (fun z : Ed => z.1) e
    obtain rfl : i = k := by omega
    rw [hs] at hs'
    obtain rfl := Option.some.inj hs'
    exact ⟨q, hq, congrArg (fun z : Ed => z.2) e⟩
  · rintro ⟨q, hq, rfl⟩
    exact ⟨k, s, (List.getElem?_eq_some_iff.mp hs).1, hs, q, hq, rfl⟩
theorem Done.again_k (D : Done E n st) (aE : E.Pairwise ltE) (a1 : E1.Pairwise ltE) (mem : ∀ e, e ∈ E1 ↔ e ∈ st.2) : ∀ k, k ≤ st.1.length → (runB E1 0 k).1 = rng (runB E 0 k).1.length
  | 0, _ => rfl
  | k + 1, h => by
    have ih := D.again_k aE a1 mem k (by omega)
    have lt := D.lt (k := k) (by omega)
    obtain ⟨r1, e1⟩ := D.pre (k := k) (by omega)
    have hs : (runB E 0 k).1[k]? = some (runB E 0 k).1[k] := List.getElem?_eq_getElem lt
    generalize (runB E 0 k).1[k] = s at hs
    have hsf : st.1[k]? = some s := by rw [e1, List.getElem?_append_left lt]; exact hs
    have eE : runB E 0 (k + 1) = visit k (VM.leav E s) (runB E 0 k) := by
      show step E k (runB E 0 k) = _
      unfold step
      rw [hs]
    have e1k : (runB E1 0 k).1[k]? = some ((k : Nat) : Int) := by rw [ih]; exact rng_get lt
    have eE1 : runB E1 0 (k + 1) = visit k (VM.leav E1 ((k : Nat) : Int)) (runB E1 0 k) := by
      show step E1 k (runB E1 0 k) = _
      unfold step
      rw [e1k]
    obtain ⟨r2, e2⟩ := D.pre (k := k + 1) h
    rw [eE] at e2
    have ix2 : ∀ {t : Int}, t ∈ (visit k (VM.leav E s) (runB E 0 k)).1 → ix st.1 t = ix (visit k (VM.leav E s) (runB E 0 k)).1 t := fun ht => by rw [e2]; exact ix_app ht r2
    have nd2 : (visit k (VM.leav E s) (runB E 0 k)).1.Nodup := by
      have z := D.nb.nd
      rw [e2] at z
      exact (List.nodup_append.mp z).1
    have ord := visit_order k (runB E 0 k).1.length (VM.leav E s) st.1 (VM.leav E s) (runB E 0 k) (fun _ z => z) (leav_asc aE s) ⟨r2, e2⟩ (fun c c1 c2 => absurd c2 (by omega))
    have P0 : ∀ p ∈ VM.leav E1 ((k : Nat) : Int), 0 ≤ p.2 := fun p hp => by
      obtain ⟨q, _, rfl⟩ := (D.leav mem hsf p).1 hp
      unfold ix
      omega
    have P2 : ∀ p ∈ VM.leav E1 ((k : Nat) : Int), ∀ c : Nat, (runB E 0 k).1.length ≤ c → (c : Int) < p.2 → ∃ p' ∈ VM.leav E1 ((k : Nat) : Int), p'.2 = (c : Nat) ∧ ¬ sLt p.1 p'.1 := fun p hp c c1 c2 => by
      obtain ⟨q, hq, rfl⟩ := (D.leav mem hsf p).1 hp
      obtain ⟨q', z1, z2, z3⟩ := ord q hq c c1 c2
      exact ⟨(q'.1, ix st.1 q'.2), (D.leav mem hsf _).2 ⟨q', z1, rfl⟩, z2, z3⟩
    obtain ⟨c2, ec⟩ := visit_rng k (runB E 0 k).1.length _ P0 P2 (VM.leav E1 ((k : Nat) : Int)) [] (runB E 0 k).1.length (runB E1 0 k).2 rfl (leav_asc a1 _) (Nat.le_refl _) (fun p z => absurd z List.not_mem_nil)
    have eP : (runB E1 0 k) = (rng (runB E 0 k).1.length, (runB E1 0 k).2) := by rw [← ih]
    rw [eE1, eE, eP, ec]
    congr 1
    refine rng_eq fun x => ?_
    rw [← ec, visit_mem]
    show x ∈ rng (runB E 0 k).1.length ∨ _ ↔ _
    obtain ⟨r3, g3, e3⟩ := visit_pre k (VM.leav E s) (runB E 0 k)
    have e31 : (visit k (VM.leav E s) (runB E 0 k)).1 = (runB E 0 k).1 ++ r3 := by rw [e3]
    constructor
    · rintro (z | ⟨p, hp, rfl⟩)
      · have y := rng_mem.1 z
        refine rng_mem.2 ⟨y.1, ?_⟩
        rw [e31, List.length_append]
        omega
      · obtain ⟨q, hq, rfl⟩ := (D.leav mem hsf p).1 hp
        have hin : q.2 ∈ (visit k (VM.leav E s) (runB E 0 k)).1 := (visit_mem k _ _ _).2 (.inr ⟨q, hq, rfl⟩)
        show ix st.1 q.2 ∈ _
        rw [ix2 hin]
        exact rng_mem.2 (ix_lt hin)
    · intro z
      have y := rng_mem.1 z
      by_cases c : x < ((runB E 0 k).1.length : Nat)
      · exact .inl (rng_mem.2 ⟨y.1, c⟩)
      · have lx : x.toNat < (visit k (VM.leav E s) (runB E 0 k)).1.length := by omega
        have gx := List.getElem?_eq_getElem lx
        generalize (visit k (VM.leav E s) (runB E 0 k)).1[x.toNat] = t at gx
        have tin := List.mem_of_getElem? gx
        have ixx : ix (visit k (VM.leav E s) (runB E 0 k)).1 t = x := by rw [ix_at nd2 gx]; omega
        rcases (visit_mem k _ _ t).1 tin with w | ⟨q, hq, rfl⟩
        · exfalso
          rw [e31, ix_app w] at ixx
          have := (ix_lt w).2
          omega
        · exact .inr ⟨(q.1, ix st.1 q.2), (D.leav mem hsf _).2 ⟨q, hq, rfl⟩, by show ix st.1 q.2 = x; rw [ix2 tin]; exact ixx⟩
/-- numbered again: the same numbers, the same edges -/
theorem Done.again (D : Done E n st) (aE : E.Pairwise ltE) (a1 : E1.Pairwise ltE) (mem : ∀ e, e ∈ E1 ↔ e ∈ st.2) (hn : 0 < st.1.length) {st2 : Bs} {n2 : Int} (D2 : Done E1 n2 st2) :
    st2.1.length = st.1.length ∧ ∀ e, e ∈ st2.2 ↔ e ∈ E1 := by
  have z := D.again_k aE a1 mem st.1.length (Nat.le_refl _)
  rw [D.at_] at z
  have len1 : (runB E1 0 st.1.length).1.length = st.1.length := by rw [z, rng_len]
  have e2 : st2 = runB E1 0 st.1.length := by
    rcases Nat.le_total st2.1.length st.1.length with h | h
    · have y := runB_stop (E := E1) (k := st2.1.length) (by rw [D2.at_]; exact Nat.le_refl _) (st.1.length - st2.1.length)
      rw [Nat.add_sub_cancel' h, D2.at_] at y
      exact y.symm
    · have y := runB_stop (E := E1) (k := st.1.length) (by rw [len1]; exact Nat.le_refl _) (st2.1.length - st.1.length)
      rw [Nat.add_sub_cancel' h, D2.at_] at y
      exact y
  have l2 : st2.1.length = st.1.length := by rw [e2, len1]
  refine ⟨l2, fun e => ?_⟩
  have o2 : st2.1 = rng st.1.length := by rw [e2, z]
  rw [D2.nb.mem, l2, o2]
  constructor
  · rintro ⟨i, s', hi, hs', p, hp, rfl⟩
    rw [rng_get hi] at hs'
    obtain rfl := Option.some.inj hs'
    have h1 := leav_mem.1 hp
    obtain ⟨j, s2, hj, hs2, q, hq, eq⟩ := (D.nb.mem _).1 ((mem _).1 h1)
    have e3 : p.2 = ix st.1 q.2 := congrArg (fun z : Ed => z.2.2) eq
    have inr : p.2 ∈ rng st.1.length := by rw [e3]; exact rng_mem.2 (ix_lt (D.nb.has j s2 hj hs2 q hq))
    rw [rng_ix inr]
    exact h1
  · intro he
    obtain ⟨j, s2, hj, hs2, q, hq, eq⟩ := (D.nb.mem _).1 ((mem _).1 he)
    have inr : ix st.1 q.2 ∈ rng st.1.length := rng_mem.2 (ix_lt (D.nb.has j s2 hj hs2 q hq))
    refine ⟨j, ((j : Nat) : Int), hj, rng_get hj, (q.1, ix st.1 q.2), leav_mem.2 (by rw [← eq]; exact he), ?_⟩
    show e = (((j : Nat) : Int), q.1, ix (rng st.1.length) (ix st.1 q.2))
    rw [rng_ix inr]
    exact eq
end
end VM

set_option Elab.async false
set_option linter.all false
set_option maxRecDepth 100000
set_option maxHeartbeats 4000000
namespace VC
open PySem PySem.Spec PyProof.Rows L2 LamX NdefX VB
/-! captured names: while a def runs that is handed a lambda, the cells that the lambda reads are locked in the abstract heap -/
def lockO (c : Addr) (o : Obj) : HO := .frz o (.ext fun h => h.get? c = some o)
theorem lockO_ok {P : Program} {w : World} {H : Hp} {h : Heap} {c : Addr} {o : Obj} (e : h.get? c = some o) : ObjOk P w H h c (lockO c o) :=
  ⟨e, e, ⟨o, e⟩, fun _ _ p q => q o p⟩
/-- the cells of the closure cl are locked in H; fr: the captured names, ws what they hold -/
structure Locked (H : Hp) (cl : List (Str × Addr)) (fr : List Str) (ws : List (Option V)) : Prop where
  len : ws.length = fr.length
  all : ∀ y c, cl.lookup y = some c → ∃ o v, H c = some (lockO c o) ∧ o.data = .cell v
  inj : ∀ x y c, cl.lookup x = some c → cl.lookup y = some c → x = y
  has : ∀ (i : Nat) (y : Str), fr[i]? = some y → ∃ c o v, cl.lookup y = some c ∧ H c = some (lockO c o) ∧ o.data = .cell v ∧ ∀ x, ws[i]? = some (some x) → ∃ u, RelV x u ∧ v = some u
/-- an address is a cell of the closure -/
def In (cl : List (Str × Addr)) (b : Addr) : Prop := ∃ y, cl.lookup y = some b
open Classical in
noncomputable def open_ (cl : List (Str × Addr)) (H : Hp) : Hp := fun b => if In cl b then none else H b
open Classical in
noncomputable def shut (cl : List (Str × Addr)) (H0 H : Hp) : Hp := fun b => if In cl b then H0 b else H b
theorem open_in {cl : List (Str × Addr)} {H : Hp} {b : Addr} (h : In cl b) : open_ cl H b = none := by unfold open_; rw [if_pos h]
theorem open_out {cl : List (Str × Addr)} {H : Hp} {b : Addr} (h : ¬ In cl b) : open_ cl H b = H b := by unfold open_; rw [if_neg h]
theorem shut_in {cl : List (Str × Addr)} {H0 H : Hp} {b : Addr} (h : In cl b) : shut cl H0 H b = H0 b := by unfold shut; rw [if_pos h]
theorem shut_out {cl : List (Str × Addr)} {H0 H : Hp} {b : Addr} (h : ¬ In cl b) : shut cl H0 H b = H b := by unfold shut; rw [if_neg h]
section
variable {P : Program} {w : World} {H H' : Hp} {h h' : Heap} {cl : List (Str × Addr)} {fr : List Str} {ws : List (Option V)} {fs : List Addr}
theorem Locked.frz (L : Locked H cl fr ws) {b : Addr} (i : In cl b) : ∃ o v, H b = some (lockO b o) ∧ o.data = .cell v := let ⟨y, e⟩ := i; L.all y b e
theorem open_ok (L : Locked H cl fr ws) (ok : HOk P w H h) : HOk P w (open_ cl H) h := by
  intro b u e
  by_cases i : In cl b
  · rw [open_in i] at e; cases e
  · rw [open_out i] at e
    refine (ok b u e).stay (fun _ _ _ z => z) (fun c z => ?_) fun c xs z => ?_
    · rw [open_out fun j => ?_]; exact z
      obtain ⟨o, v, q, _⟩ := L.frz j
      rw [q] at z; cases z
    · rw [open_out fun j => ?_]; exact z
      obtain ⟨o, v, q, _⟩ := L.frz j
      rw [q] at z; cases z
theorem open_cells (L : Locked H cl fr ws) (ok : HOk P w H h) : CellsAt cl fr ws h (open_ cl H) := by
  refine ⟨L.len, fun y c e => ⟨open_in ⟨y, e⟩, ?_⟩, L.inj, fun i y e => ?_⟩
  · obtain ⟨o, v, q, d⟩ := L.all y c e
    exact ⟨v, o, (ok c _ q).1, d⟩
  · obtain ⟨c, o, v, e1, q, d, hv⟩ := L.has i y e
    refine ⟨c, e1, fun x hx => ?_⟩
    obtain ⟨u, r, ev⟩ := hv x hx
    exact ⟨u, r, o, (ok c _ q).1, by rw [d, ev]⟩
/-- behind the lambda: the cells locked again -/
theorem shut_ok (L : Locked H cl fr ws) (ok0 : HOk P w H h) (un : Un fs [] (open_ cl H) H' h h') (nf : ∀ b ∈ fs, H b = none) (ok : HOk P w H' h') : HOk P w (shut cl H H') h' ∧ Un fs [] H (shut cl H H') h h' := by
  have keepC : ∀ b, In cl b → ∀ o, h.get? b = some o → h'.get? b = some o := fun b i o e => by
    refine un.keep b o e (open_in i) (fun z => ?_) (by simp)
    obtain ⟨o', v, q, _⟩ := L.frz i
    rw [nf b z] at q; cases q
  have freeC : ∀ b, In cl b → H' b = none := fun b i => by
    obtain ⟨o, v, q, _⟩ := L.frz i
    exact un.free b o (ok0 b _ q).1 (open_in i) (by simp)
  refine ⟨fun b u e => ?_, fun b o e n hb _ => ?_, fun b o e n hb _ => ?_, fun b o e n _ => ?_, fun b o e _ => un.there b o e (by simp), fun b xs e => ?_, fun b o u e => ?_, fun b ps e => ?_⟩
  · by_cases i : In cl b
    · rw [shut_in i] at e
      obtain ⟨o, v, q, _⟩ := L.frz i
      rw [q] at e
      cases e
      exact lockO_ok (keepC b i o (ok0 b _ q).1)
    · rw [shut_out i] at e
      refine (ok b u e).stay (fun _ _ _ z => z) (fun c z => ?_) fun c xs z => ?_
      · rw [shut_out fun j => ?_]; exact z
        rw [freeC c j] at z; cases z
      · rw [shut_out fun j => ?_]; exact z
        rw [freeC c j] at z; cases z
  · have i : ¬ In cl b := fun i => by obtain ⟨o', v, q, _⟩ := L.frz i; rw [n] at q; cases q
    exact un.keep b o e (by rw [open_out i]; exact n) hb (by simp)
  · have i : ¬ In cl b := fun i => by obtain ⟨o', v, q, _⟩ := L.frz i; rw [n] at q; cases q
    exact un.slot b o e (by rw [open_out i]; exact n) hb (by simp)
  · have i : ¬ In cl b := fun i => by obtain ⟨o', v, q, _⟩ := L.frz i; rw [n] at q; cases q
    rw [shut_out i]
    exact un.free b o e (by rw [open_out i]; exact n) (by simp)
  · have i : ¬ In cl b := fun i => by obtain ⟨o', v, q, _⟩ := L.frz i; rw [e] at q; cases q
    rw [shut_out i]
    exact un.tups b xs (by rw [open_out i]; exact e)
  · by_cases i : In cl b
    · rw [shut_in i]; exact e
    · rw [shut_out i]; exact un.frzs b o u (by rw [open_out i]; exact e)
  · have i : ¬ In cl b := fun i => by obtain ⟨o', v, q, _⟩ := L.frz i; rw [e] at q; cases q
    rw [shut_out i]
    exact un.tbls b ps (by rw [open_out i]; exact e)
end
/-- a lambda whose captured names are locked -/
def lamLk (f : Addr) (F : NF) (b : Expr) (fr : List Str) (ws : List (Option V)) : Hp → Prop := fun H => H f = some (VA.LamO f F b) ∧ H F.c = some (CodeO F.c F.qual) ∧ Locked H F.cl fr ws
section
variable {P : Program} {w : World} {K : PySem.W.Frag} {mg : Str → Option Value} {base : Heap} {N ps fr : List Str} {F : NF} {b : Expr} {f : Addr} {k : Nat} {sp : Sp} {ws : List (Option V)}
theorem lam_locked (S : NScope N ps fr F.scope)
    (hb : ∀ (pm ctv : Value) (us : List Value), us.length = ps.length → bindArgs (PySem.W.kla_fn F.name F.qual F.params b F.scope F.cl pm (.ref F.c) ctv) ⟨us, []⟩ = pure (ps.zip us))
    (len : ∀ vs H Q E, sp vs H Q E → vs.length = ps.length)
    (hbody : ∀ (A : Around) (outer : List Env) (s : Shared) (H : Hp) (vs : List V) (Q : VK) (E : XK), Room k (A.deeper (envF F f s.heap.objs.size)) → lamLk f F b fr ws H → sp vs H Q E →
      ∃ t, PE (ncx CX0 P w K mg base N F f A outer s (open_ F.cl H) E).nox b t ∧ t (startF N vs ws) (open_ F.cl H) fun v H' => (∀ b, In F.cl b → H' b = none) → Q v (shut F.cl H H')) :
    VA.VCall P w K mg base (k + 1) f (lamLk f F b fr ws) sp := by
  refine ⟨fun h H hok _ hf => ?_, fun A outer s H us vs Q E hr e0 hf r hsp => ?_⟩
  · obtain ⟨od, sl, pm, ctv, z⟩ := VA.lamO_at hok hf.1
    exact ⟨_, od, _, sl, z⟩
  · have hl := len _ _ _ _ hsp
    obtain ⟨h1, h2, L⟩ := hf
    have lim : s.heap.NoLimit := e0.mod.nolimit.keeps fun b o e => (e0.bs b o e).1
    obtain ⟨od, sl, pm, ctv, ho⟩ := VA.lamO_at e0.hok h1
    have C := open_cells L e0.hok
    have e1 : Env0 P w K mg base A outer s (open_ F.cl H) := ⟨e0.frames, e0.mod, fun b o e => ⟨(e0.bs b o e).1, by
      by_cases i : In F.cl b
      · exact open_in i
      · rw [open_out i]; exact (e0.bs b o e).2⟩, e0.bsz, e0.funs, fun b hb => by
      by_cases i : In F.cl b
      · exact open_in i
      · rw [open_out i]; exact e0.frf b hb, open_ok L e0.hok, e0.bare⟩
    refine PySem.W.kla_callFunE hr.depth ho rfl S.co S.gen rfl (codeO_at e0.hok h2) ?_
    rw [hb pm ctv us (by rw [← r.length]; exact hl)]
    refine wpAny_pure (wpAny_newFunctionEnv S.nocell (fun ⟨n, _⟩ hy => S.par n (List.of_mem_zip hy).1) (fun h₁ hns hsb => ⟨lim.fresh _ hsb, ?_⟩) S.kind)
    show codeAny _ _ (.expr b (envF F f s.heap.objs.size)) _ _
    have kp : ∀ b o, s.heap.get? b = some o → h₁.get? b = some o := fun b o e =>
      hsb.extBut b o (Nat.ne_of_lt (Heap.lt_size e)) (Heap.get?_push_of_some _ e)
    obtain ⟨t, ht, hq⟩ := hbody A outer s H vs Q E (hr.deeper _) ⟨h1, h2, L⟩ hsp
    have J : Inv (ncx CX0 P w K mg base N F f A outer s (open_ F.cl H) E) [] (startF N vs ws) (open_ F.cl H) { s with heap := h₁, toks := s.toks + (ps.zip us).length } := inv_startN S hr.hd e1 hl r C hns kp
    refine PySem.W.kla_codeExpr (wpAny_mono (ht.nox.run [] _ (startF N vs ws) (open_ F.cl H) _ J hq) (fun v s' z => ?_) fun e s' z => z)
    obtain ⟨w', H', J', rv, q⟩ := z
    obtain ⟨ok2, un2⟩ := shut_ok L e0.hok J'.base e0.frf J'.hok
    have un : Un _ [] (open_ F.cl H) H' s.heap s'.heap := J'.base
    have freeC : ∀ b, In F.cl b → H' b = none := fun b i => by
      obtain ⟨o, v, q, _⟩ := L.frz i
      exact un.free b o (e0.hok b _ q).1 (open_in i) (by simp)
    exact ⟨w', shut F.cl H H', J'.os, J'.bare, un2, ok2, rv, q freeC⟩
end
/-! the call of a def, cells locked -/
/-- H2 is H1, the cells of cl locked -/
structure Lock (cl : List (Str × Addr)) (fr : List Str) (ws : List (Option V)) (H1 H2 : Hp) : Prop where
  out : ∀ b, ¬ In cl b → H2 b = H1 b
  free : ∀ b, In cl b → H1 b = none
  lk : Locked H2 cl fr ws
section
variable {X : Cx} {k j : Nat} {x : Str} {sp : Sp} {p pos : Pos} {e : Expr} {es : List Expr} {t : TA} {cl : List (Str × Addr)} {fr : List Str} {js : List Nat}
theorem lock_of {pins : List (Addr × Obj)} {σ : L2.St} {H : Hp} {s : Shared} (I : Inv X pins σ H s) (cp : Caps X cl fr js) : ∃ H2, Lock cl fr (js.map (slotAt σ)) H H2 ∧ HOk X.prog X.w H2 s.heap := by
  classical
  have C := cells_of I cp
  have get : ∀ b, In cl b → ∃ o v, s.heap.get? b = some o ∧ o.data = .cell v := fun b ⟨y, ey⟩ => by
    obtain ⟨_, v, o, ho, hd⟩ := C.all y b ey
    exact ⟨o, v, ho, hd⟩
  let H2 : Hp := fun b => if h : In cl b then some (lockO b (get b h).choose) else H b
  have e1 : ∀ b (i : In cl b), H2 b = some (lockO b (get b i).choose) := fun b i => dif_pos i
  have e2 : ∀ b, ¬ In cl b → H2 b = H b := fun b i => dif_neg i
  refine ⟨H2, ⟨e2, fun b ⟨y, ey⟩ => (C.all y b ey).1, ⟨C.len, fun y c e => ?_, C.inj, fun i y e => ?_⟩⟩, fun b u e => ?_⟩
  · obtain ⟨v, ho, hd⟩ := (get c ⟨y, e⟩).choose_spec
    exact ⟨_, v, e1 c ⟨y, e⟩, hd⟩
  · obtain ⟨c, ec, hv⟩ := C.has i y e
    obtain ⟨v, ho, hd⟩ := (get c ⟨y, ec⟩).choose_spec
    refine ⟨c, _, v, ec, e1 c ⟨y, ec⟩, hd, fun x hx => ?_⟩
    obtain ⟨u, r, o', ho', hd'⟩ := hv x hx
    rw [ho] at ho'
    rw [Option.some.inj ho', hd'] at hd
    exact ⟨u, r, by injection hd with hd; exact hd.symm⟩
  · by_cases i : In cl b
    · rw [e1 b i] at e
      cases e
      obtain ⟨v, ho, _⟩ := (get b i).choose_spec
      exact lockO_ok ho
    · rw [e2 b i] at e
      refine (I.hok b u e).stay (fun _ _ _ z => z) (fun c z => ?_) fun c xs z => ?_
      · rw [e2 c fun j => ?_]; exact z
        obtain ⟨y, ey⟩ := j
        rw [(C.all y c ey).1] at z; cases z
      · rw [e2 c fun j => ?_]; exact z
        obtain ⟨y, ey⟩ := j
        rw [(C.all y c ey).1] at z; cases z
/-- g(..), cells locked while it runs -/
def tCallLk (cl : List (Str × Addr)) (fr : List Str) (js : List Nat) (sp : Sp) (t : TA) : TE := fun σ H Q => t σ H fun vs H1 => ∀ H2, Lock cl fr (js.map (slotAt σ)) H1 H2 → sp vs H2 (fun v H' => Q v (open_ cl H')) C8.E0
theorem pe_cLk (c : C8.Cal X.prog X.w X.K X.mg X.base k x sp []) (hr : Room j X.A) (hk : k ≤ j) (hg : Gl X x) (cpo : X.Ok → Caps X cl fr js) (hfn : ∀ y, X.fn y = true) (ha : PA X (e :: es) t)
    (hdb : (x == ("__debug__" : Str)) = false := by decide) (he : starEach (e :: es) X.env = (false, eval e X.env) :: starEach es X.env := by rfl) (hpl : (backTo pos (starEach es X.env)).any (·.1) = false := by rfl) :
    PE X (.Call (.Name x p) (e :: es) [] pos) (tCallLk cl fr js sp t) := by
  obtain ⟨f, fd, ps, ds, F, hm, kp, bnd, hd⟩ := c.ex
  refine ⟨fun pins s σ H Q I h => ?_⟩
  have cp := cpo I.ok
  refine wpAny_Call_Name_kw (ld_glob I hg hm ?_ hdb)
  refine PySem.W.callWith_K (h₀ := X.base) I.ok.mod.kin kp (thn (ha.run pos pins s σ H _ I h) fun us s1 ⟨vs, H1, I1, r, q⟩ => ⟨I1.kIn, ?_⟩) he hpl
  obtain ⟨H2, lk, ok2⟩ := lock_of I1 cp
  have q2 := q H2 lk
  have C := cells_of I1 cp
  -- the cells are the frame's own
  have young : ∀ b, In cl b → X.s_0.heap.objs.size ≤ b := fun b ⟨y, ey⟩ => I1.ok.cab y b (hfn y) (cp.sub y b ey)
  have noBase : ∀ b, In cl b → X.base.get? b = none := fun b i => Heap.get?_none_of_le (Nat.le_trans I1.ok.bsz (young b i))
  have noFrame : ∀ b ∈ frs X.stack, ¬ In cl b := fun b hb i => by
    rcases List.mem_cons.mp (I1.stkSub b hb) with z | z
    · obtain ⟨y, ey⟩ := i
      obtain ⟨_, v, o, ho, hdd⟩ := C.all y b ey
      obtain ⟨m, ⟨o', es', ep', ho', hdd', _⟩, _⟩ := I1.loc
      rw [← z, ho] at ho'
      rw [← Option.some.inj ho', hdd] at hdd'
      cases hdd'
    · obtain ⟨_, o, ho, _⟩ := I1.ok.funs.mem z
      exact absurd (Heap.lt_size ho) (Nat.not_lt.mpr (young b i))
  have e0 := I1.env0
  have e2 : Env0 X.prog X.w X.K X.mg X.base X.A X.stack s1 H2 := ⟨e0.frames, e0.mod, fun b o eb => ⟨(e0.bs b o eb).1, by
    rw [lk.out b fun i => by rw [noBase b i] at eb; cases eb]
    exact (e0.bs b o eb).2⟩, e0.bsz, e0.funs, fun b hb => by rw [lk.out b (noFrame b hb)]; exact e0.frf b hb, ok2, e0.bare⟩
  have hl := F.len _ _ _ _ q2
  cases hd
  have hb2 := bnd s1 us I1.kIn (by rw [List.append_nil, ← r.length]; exact hl)
  rw [List.append_nil] at hb2
  show wpAny _ _ (call (.ref f) us) _ _ _
  refine wpAny_call (codeAny_mono (F.run X.A X.stack s1 H2 ⟨us, []⟩ us vs _ C8.E0 (hr.mono hk) e2 hb2 r q2) fun res s' hq => ?_)
  cases res with
  | error e => exact hq.elim
  | ok fl =>
    cases fl with
    | next => exact hq.elim
    | brk => exact hq.elim
    | cont => exact hq.elim
    | ret u =>
      obtain ⟨v, H', os, bare, un, hok, rv, qv⟩ := hq
      have hold : ∀ b, In cl b → ∀ o, s1.heap.get? b = some o → s'.heap.get? b = some o := fun b i o eo => by
        obtain ⟨o', v', z, _⟩ := lk.lk.frz i
        have g1 := (ok2 b _ z).1
        rw [eo] at g1
        rw [Option.some.inj g1]
        exact (hok b _ (un.frzs b o' _ z)).1
      have lockH : ∀ b, In cl b → ∃ o, H' b = some (lockO b o) := fun b i => by
        obtain ⟨o', v', z, _⟩ := lk.lk.frz i
        exact ⟨o', un.frzs b o' _ z⟩
      refine I1.after ⟨v, open_ cl H', os, bare, ⟨fun b o eo n hb hx => ?_, fun b o eo n hb hx => ?_, fun b o eo n hx => ?_, fun b o eo hx => un.there b o eo hx, fun b xs z => ?_, fun b o u z => ?_, fun b ps z => ?_⟩, fun b u eo => ?_, rv, qv⟩
      · by_cases i : In cl b
        · exact hold b i o eo
        · exact un.keep b o eo (by rw [lk.out b i]; exact n) hb hx
      · exact un.slot b o eo (by rw [lk.out b (noFrame b hb)]; exact n) hb hx
      · by_cases i : In cl b
        · exact open_in i
        · rw [open_out i]; exact un.free b o eo (by rw [lk.out b i]; exact n) hx
      · have i : ¬ In cl b := fun i => by rw [lk.free b i] at z; cases z
        rw [open_out i]; exact un.tups b xs (by rw [lk.out b i]; exact z)
      · have i : ¬ In cl b := fun i => by rw [lk.free b i] at z; cases z
        rw [open_out i]; exact un.frzs b o u (by rw [lk.out b i]; exact z)
      · have i : ¬ In cl b := fun i => by rw [lk.free b i] at z; cases z
        rw [open_out i]; exact un.tbls b ps (by rw [lk.out b i]; exact z)
      · by_cases i : In cl b
        · rw [open_in i] at eo; cases eo
        · rw [open_out i] at eo
          refine (hok b u eo).stay (fun _ _ _ z => z) (fun c z => ?_) fun c xs z => ?_
          · rw [open_out fun j => ?_]; exact z
            obtain ⟨o', w⟩ := lockH c j
            rw [w] at z; cases z
          · rw [open_out fun j => ?_]; exact z
            obtain ⟨o', w⟩ := lockH c j
            rw [w] at z; cases z
end
end VC

set_option Elab.async false
set_option linter.all false
set_option maxRecDepth 100000
set_option maxHeartbeats 4000000
namespace VP
open PySem PySem.Spec PyProof.Rows L2 LamX NdefX VB VM
theorem iteFe {b : Bool} {A B : Prop} (e : b = false) (h : B) : if b = true then A else B := by rw [e]; exact iteF h
theorem iteTe {b : Bool} {A B : Prop} (e : b = true) (h : A) : if b = true then A else B := by rw [e]; exact iteT h
theorem iteNT {p : Prop} [Decidable p] {A B : Prop} (e : p) (h : B) : if (!decide p) = true then A else B := iteFe (by rw [decide_eq_true e]; rfl) h
theorem un3 {k : Nat} {A : Around} (r : Room k A) : A.units + 3 < cLine := by have := r.un; omega
theorem un65 {k : Nat} {A : Around} (r : Room k A) : A.units + 65 < cLine := by have := r.un; omega
section
variable {X : Cx} {K : PySem.W.Frag} (h : X.K = K)
include h
theorem notInD (hu : X.A.units + 65 < cLine) : OpR X (compareOp .NotIn) (rNotInD K) := by subst h; exact op_notInD hu
def embP (p : Addr × Pr) : V := V.ref p.1
def encP (p : Addr × Pr) : PyData := pqD p.2
def embE (p : Addr × Ed) : V := V.ref p.1
def encE (p : Addr × Ed) : PyData := edD p.2
theorem sortedE {k : Nat} (hr : Room k X.A) : CallR X (.builtin "sorted") (VA.rSortedB K embE encE) := by subst h; exact VA.cr_sortedB embE encE hr
end
def acts0 : List Str := ["a", "b", "c", "tau", "tick"]
/-- what else may stand at an edge in a law -/
abbrev acts : List Str := ["a", "b", "c", "tau", "tick", "pass", "zz", "d", "e1", "go2"]
theorem acts0_sub : ∀ x ∈ acts0, x ∈ acts := by decide +kernel
/-! rows of tuples in a heap -/
def Eds (K : PySem.W.Frag) (H : Hp) (L : List (Addr × Ed)) : Prop := ∀ p ∈ L, SqT K H p.1 (edV p.2)
def Pqs (K : PySem.W.Frag) (H : Hp) (L : List (Addr × Pr)) : Prop := ∀ p ∈ L, SqT K H p.1 (pqV p.2)
abbrev refs {α : Type} (L : List (Addr × α)) : List V := L.map fun p => V.ref p.1
section
variable {K : PySem.W.Frag} {H H' : Hp}
theorem Eds.kp {L : List (Addr × Ed)} (h : Eds K H L) (x : Kp H H') : Eds K H' L := fun p hp => x.sqT (h p hp)
theorem Pqs.kp {L : List (Addr × Pr)} (h : Pqs K H L) (x : Kp H H') : Pqs K H' L := fun p hp => x.sqT (h p hp)
theorem edDp {a : Addr} {e : Ed} (h : SqT K H a (edV e)) : Dp K H (.ref a) (edD e) := .tup h (.cons (.int _) (.cons (.str _) (.cons (.int _) .nil)))
theorem pqDp {a : Addr} {e : Pr} (h : SqT K H a (pqV e)) : Dp K H (.ref a) (pqD e) := .tup h (.cons (.str _) (.cons (.int _) .nil))
theorem Eds.all {L : List (Addr × Ed)} (h : Eds K H L) : DpAll K H (refs L) (L.map fun p => edD p.2) := by
  induction L with
  | nil => exact .nil
  | cons p L ih => exact .cons (edDp (h p List.mem_cons_self)) (ih fun q hq => h q (List.mem_cons_of_mem _ hq))
theorem Pqs.all {L : List (Addr × Pr)} (h : Pqs K H L) : DpAll K H (refs L) (L.map fun p => pqD p.2) := by
  induction L with
  | nil => exact .nil
  | cons p L ih => exact .cons (pqDp (h p List.mem_cons_self)) (ih fun q hq => h q (List.mem_cons_of_mem _ hq))
theorem refs_at {α : Type} {L : List (Addr × α)} {i : Nat} {v : V} (h : (refs L)[i]? = some v) : ∃ p, L[i]? = some p ∧ v = .ref p.1 := by
  rw [List.getElem?_map] at h
  obtain ⟨p, hp, rfl⟩ := Option.map_eq_some_iff.mp h
  exact ⟨p, hp, rfl⟩
end
theorem refs_snoc {α : Type} (L : List (Addr × α)) (p : Addr × α) : refs (L ++ [p]) = refs L ++ [V.ref p.1] := by simp [refs]
theorem refs_len {α : Type} (L : List (Addr × α)) : (refs L).length = L.length := List.length_map _
/-- an edge within n states, of an action that the law draws -/
def okE (n : Int) (e : Ed) : Prop := 0 ≤ e.1 ∧ e.1 < n ∧ 0 ≤ e.2.2 ∧ e.2.2 < n ∧ e.2.1 ∈ acts
/-! what a lock leaves -/
section
variable {cl : List (Str × Addr)} {fr : List Str} {ws : List (Option V)} {H1 H2 H' : Hp}
theorem lock_same (L : VC.Lock cl fr ws H1 H2) : Same H1 H2 := fun b o e => by
  rw [L.out b fun i => by rw [L.free b i] at e; cases e]; exact e
theorem open_same (L : VC.Lock cl fr ws H1 H2) (s : Same H2 H') : Same H1 (VC.open_ cl H') := fun b o e => by
  have i : ¬ VC.In cl b := fun i => by rw [L.free b i] at e; cases e
  rw [VC.open_out i]
  exact s b o (by rw [L.out b i]; exact e)
theorem shut_same {H : Hp} (hl : VC.Locked H cl fr ws) (s : Same (VC.open_ cl H) H') : Same H (VC.shut cl H H') := fun b o e => by
  by_cases i : VC.In cl b
  · rw [VC.shut_in i]; exact e
  · rw [VC.shut_out i]; exact s b o (by rw [VC.open_out i]; exact e)
theorem open_get {H : Hp} (hl : VC.Locked H cl fr ws) {b : Addr} {o : HO} (e : H b = some o) (n : ∀ ob, o ≠ VC.lockO b ob) : VC.open_ cl H b = some o := by
  rw [VC.open_out fun i => ?_]
  · exact e
  · obtain ⟨ob, v, z, _⟩ := hl.frz i
    rw [e] at z
    exact n ob (Option.some.inj z)
end
/-! each item once -/
section
variable {α : Type} [DecidableEq α]
def onceG : List α → List α → List α
  | acc, [] => acc
  | acc, x :: r => onceG (if x ∈ acc then acc else acc ++ [x]) r
theorem onceG_snoc : ∀ (xs acc : List α) (x : α), onceG acc (xs ++ [x]) = if x ∈ onceG acc xs then onceG acc xs else onceG acc xs ++ [x]
  | [], acc, x => rfl
  | y :: xs, acc, x => onceG_snoc xs _ x
theorem onceG_nodup : ∀ (xs acc : List α), acc.Nodup → (onceG acc xs).Nodup
  | [], acc, h => h
  | x :: xs, acc, h => by
    refine onceG_nodup xs _ ?_
    split
    · exact h
    · rename_i q
      exact List.nodup_append.mpr ⟨h, by simp, fun a ha b hb => by rw [List.mem_singleton.mp hb]; intro e; exact q (e ▸ ha)⟩
theorem onceG_mem : ∀ (xs acc : List α) (y : α), y ∈ onceG acc xs ↔ y ∈ acc ∨ y ∈ xs
  | [], acc, y => by simp [onceG]
  | x :: xs, acc, y => by
    unfold onceG
    rw [onceG_mem xs _ y, List.mem_cons]
    by_cases q : x ∈ acc
    · rw [if_pos q]
      constructor
      · rintro (z | z)
        · exact .inl z
        · exact .inr (.inr z)
      · rintro (z | z | z)
        · exact .inl z
        · exact .inl (z ▸ q)
        · exact .inr z
    · rw [if_neg q, List.mem_append, List.mem_singleton, or_assoc]
theorem onceG_len : ∀ (xs acc : List α), (onceG acc xs).length ≤ acc.length + xs.length
  | [], acc => Nat.le_refl _
  | x :: xs, acc => by
    unfold onceG
    refine Nat.le_trans (onceG_len xs _) ?_
    split
    · rw [List.length_cons]; omega
    · rw [List.length_append, List.length_singleton, List.length_cons]; omega
end
/-! data of edges -/
theorem ed_eqv (a b : Ed) : PyData.eqv (edD a) (edD b) = decide (a = b) := by
  have e : (a = b) ↔ a.1 = b.1 ∧ a.2.1 = b.2.1 ∧ a.2.2 = b.2.2 := by
    constructor
    · rintro rfl; exact ⟨rfl, rfl, rfl⟩
    · rintro ⟨h1, h2, h3⟩; exact Prod.ext h1 (Prod.ext h2 h3)
  have k : PyData.eqv (edD a) (edD b) = true ↔ a = b := by
    rw [e]
    simp [edD, PyData.eqv, PyData.eqvAll, and_assoc]
  by_cases h : a = b
  · rw [k.2 h, decide_eq_true h]
  · rw [decide_eq_false h]
    exact Bool.eq_false_iff.mpr fun z => h (k.1 z)
theorem ed_shaped {a : Ed} (h : PyData.strOk a.2.1 = true) : SeqAt.shaped (edD a) = true := by
  simp [SeqAt.shaped, edD, PyData.canLay0, PyData.canLayAll0, PyData.depth, PyData.depthAll, h]
theorem eds_shaped {L : List Ed} (h : ∀ e ∈ L, PyData.strOk e.2.1 = true) : SeqAt.shaped (.list (L.map edD)) = true := by
  have k : PyData.canLayAll0 (L.map edD) = true ∧ PyData.depthAll (L.map edD) ≤ 1 := by
    induction L with
    | nil => exact ⟨rfl, Nat.zero_le _⟩
    | cons e L ih =>
      obtain ⟨k1, k2⟩ := ih fun x hx => h x (List.mem_cons_of_mem _ hx)
      rw [List.map_cons]
      refine ⟨by simp [edD, PyData.canLay0, PyData.canLayAll0, h e List.mem_cons_self, k1], ?_⟩
      unfold PyData.depthAll
      have : (edD e).depth = 1 := by simp [edD, PyData.depth, PyData.depthAll]
      omega
  unfold SeqAt.shaped
  rw [show (PyData.list (L.map edD)).canLay0 = PyData.canLayAll0 (L.map edD) by rw [PyData.canLay0], k.1, Bool.true_and, decide_eq_true_eq]
  unfold PyData.depth
  omega
theorem any_ed (e : Ed) : ∀ L : List Ed, ((L.map edD).any fun z => PyData.eqv z (edD e)) = decide (e ∈ L)
  | [] => by simp
  | x :: L => by
    rw [List.map_cons, List.any_cons, any_ed e L, ed_eqv]
    by_cases h : x = e
    · subst h; simp
    · have h2 : ¬ e = x := fun z => h z.symm
      simp [h, h2]
/-! the actions -/
theorem acts_ok : ∀ x ∈ acts, PyData.strOk x = true ∧ x.length ≤ 10 := by decide +kernel
end VP

set_option Elab.async false
set_option linter.all false
set_option maxRecDepth 100000
set_option maxHeartbeats 4000000
namespace VE
open PySem PySem.Spec PyProof.Rows L2 LamX NdefX VB
/-! defs that may raise -/
/-- an own class of exceptions under its name -/
structure Own (K : PySem.W.Frag) (mg : Str → Option Value) (x : Str) (C : Addr) : Prop where
  at_ : mg x = some (.ref C)
  xP : PySem.W.excIn K C He.veBase "ValueError.__new__" = true
  kP : PySem.W.keepIn K (.ref C) = true
  bP : PySem.W.subIn K (.ref C) (.type "BaseException") = some true
  tP : PySem.W.typeIn K (.ref C) = some (.type "type")
  te : PySem.W.exmOne K (.ref C) (.ref C) = some true
structure CalX (P : Program) (w : World) (K : PySem.W.Frag) (mg : Str → Option Value) (base : Heap) (k : Nat) (x : Str) (sp : Sp) : Prop where
  ex : ∃ (f : Addr) (fd : FuncData) (ps : List Str), FnOk P w K mg base (L2.CX P w) k f fd ps sp ∧ mg x = some (.ref f) ∧ PySem.W.keepIn K (.ref f) = true ∧ Binds K fd ps []
structure MetX (P : Program) (w : World) (K : PySem.W.Frag) (mg : Str → Option Value) (base : Heap) (k : Nat) (C : Addr) (m : Str) (sp : Sp) : Prop where
  ex : ∃ (f : Addr) (fd : FuncData) (ps : List Str), Cls K C ∧ Meth K C m f ∧ FnOk P w K mg base (L2.CX P w) k f fd ps sp ∧ Binds K fd ps []
structure MakX (P : Program) (w : World) (K : PySem.W.Frag) (mg : Str → Option Value) (base : Heap) (k : Nat) (x : Str) (C : Addr) (sp : Sp) : Prop where
  ex : ∃ (f : Addr) (fd : FuncData) (ps : List Str), Mk K C f ∧ FnOk P w K mg base (L2.CX P w) k f fd ps sp ∧ mg x = some (.ref C) ∧ Binds K fd ps []
section
variable {P : Program} {w : World} {K : PySem.W.Frag} {mg : Str → Option Value} {base : Heap}
theorem calX {x : Str} {st : Stmt} {N ps : List Str} {k : Nat} {sp : Sp} (D : Df K mg x st) (S : FnScope N ps (defScope st)) (hb : BindOk x st ps)
    (len : ∀ vs H Q E, sp vs H Q E → vs.length = ps.length)
    (hbody : ∀ (f : Addr) (cdv : Value) (A : Around) (outer : List Env) (s : Shared) (H : Hp) (vs : List V) (Q : VK) (E : XK),
      Room k (A.deeper (envOfC x (defScope st) s.heap.objs.size f cdv)) → sp vs H Q E →
      ∃ t, PSs (cxOf (L2.CX P w) P w K mg base N x (defScope st) f cdv A outer s H E) (defBody st) t ∧ t { nx := fun _ H' => Q .non H', rt := Q } (start N vs) H) :
    CalX P w K mg base (k + 1) x sp := by
  obtain ⟨f, fd, F, hm⟩ := D
  exact ⟨f, fd, ps, F.ok S len (fun cdv A outer s H vs Q E hr h => hbody f cdv A outer s H vs Q E hr h), hm, F.kp, F.bindsN hb⟩
end
section
variable {X : Cx} {k j : Nat} {C : Addr} {x m : Str} {sp : Sp} {W : WX} {p pos apos : Pos} {e o : Expr} {es : List Expr} {ta : TE} {t : TA}
theorem pe_cX (c : CalX X.prog X.w X.K X.mg X.base k x sp) (hr : Room j X.A) (hk : k ≤ j) (hg : Gl X x) (tk : L2.Takes X W) (ha : PA X (e :: es) t)
    (hdb : (x == ("__debug__" : Str)) = false := by decide) (he : starEach (e :: es) X.env = (false, eval e X.env) :: starEach es X.env := by rfl) (hpl : (backTo pos (starEach es X.env)).any (·.1) = false := by rfl) :
    PE X (.Call (.Name x p) (e :: es) [] pos) (tCallS sp (WE W) t) := by
  obtain ⟨f, fd, ps, F, hm, kp, b⟩ := c.ex
  exact pe_callS F (hr.mono hk) hg hm kp b (fun σ => passAt tk σ) ha hdb he hpl
/-- o.m(e, ..), m may raise -/
def tMethS (C : Addr) (m : Str) (sp : Sp) (E : L2.St → XK) (ta : TE) (t : TA) : TE := fun σ H Q => ta σ H fun x H1 => ∃ a dx fs, x = .ref a ∧ H1 a = some (.ins C dx fs) ∧ fs.lookup m = none ∧
  t σ H1 fun vs H2 => sp (x :: vs) H2 Q (E σ)
theorem pe_mX {pl : Sem Bool} (c : MetX X.prog X.w X.K X.mg X.base k C m sp) (hr : Room j X.A) (hk : k ≤ j) (tk : L2.Takes X W) (he : PE X o ta) (ha : PA X (e :: es) t)
    (hst : starEach (e :: es) X.env = (false, eval e X.env) :: starEach es X.env := by rfl) (hpl : (backTo pos (starEach es X.env)).any (·.1) = false := by rfl)
    (ht : eval (.Call (.Attribute o m apos) (e :: es) [] pos) X.env = (do let ov ← eval o X.env; standAt apos.atName; let (f, first) ← holding [ov] (getMethod ov m pl); callWith pos f first (backTo pos (starEach (e :: es) X.env)) (backToKw pos (keywordEach [] X.env))) := by rfl) :
    PE X (.Call (.Attribute o m apos) (e :: es) [] pos) (tMethS C m sp (WE W) ta t) := by
  obtain ⟨f, fd, ps, hc, hm, F, b⟩ := c.ex
  refine ⟨fun pins s σ H Q I h => ?_⟩
  refine PySem.W.methodCall_KW (pl := pl) (thn (he.run pins s σ H _ I h) fun u s1 ⟨y, H1, I1, ry, a, dx, fs, ey, ea, l, q⟩ => ?_) ht
  subst ey
  obtain rfl : u = Value.ref a := ry
  refine getmeth_ok I1 ea hc hm l (PySem.W.callWith_K (first := [.ref a]) (h₀ := X.base) I.ok.mod.kin hm.kp (thn (ha.run pos pins s1 σ H1 _ I1 q) fun us s2 ⟨vs, H2, I2, r, q2⟩ => ⟨I2.kIn, ?_⟩) hst hpl)
  exact run_fnS (us := .ref a :: us) (vs := .ref a :: vs) F (hr.mono hk) b (passAt tk σ) I2 (.cons rfl r) q2
/-- C(e, ..), its __init__ may raise -/
def tMakeS (C : Addr) (sp : Sp) (E : L2.St → XK) (t : TA) : TE := fun σ H Q => t σ H fun vs H1 => ∀ x dx, H1 x = none → H1 dx = none → dx ≠ x →
  sp (.ref x :: vs) (upd (upd H1 dx (.own x)) x (.ins C dx [])) (fun v H2 => v = .non ∧ Q (.ref x) H2) (E σ)
end
end VE

set_option Elab.async false
set_option linter.all false
set_option maxRecDepth 100000
set_option maxHeartbeats 4000000
namespace VX
open PySem PySem.Spec PyProof.Rows L2 LamX NdefX VB
/-! a def that may raise, where it does not -/
abbrev calm (sp : Sp) : Sp := fun vs H Q _ => sp vs H Q fun _ _ _ => False
section
variable {P : Program} {w : World} {K : PySem.W.Frag} {mg : Str → Option Value} {base : Heap}
theorem fnCalm {k : Nat} {f : Addr} {fd : FuncData} {ps : List Str} {sp : Sp} (F : FnOk P w K mg base (L2.CX P w) k f fd ps sp) : FnOk P w K mg base CX0 k f fd ps (calm sp) := by
  refine ⟨fun vs H Q E h => F.len _ _ _ _ h, fun A outer s H args us vs Q E hr he hb hv h => codeAny_mono (F.run A outer s H args us vs Q (fun _ _ _ => False) hr he hb hv h) fun r s' q => ?_⟩
  cases r with
  | error e =>
    obtain ⟨_, _, _, _, _, _, _, _, _, _, _, _, z⟩ := q
    exact z.elim
  | ok fl => cases fl <;> exact q
theorem metCalm {k : Nat} {C : Addr} {m : Str} {sp : Sp} (c : VE.MetX P w K mg base k C m sp) : C8.Met P w K mg base k C m (calm sp) [] := by
  obtain ⟨f, fd, ps, hc, me, F, b⟩ := c.ex
  exact ⟨f, fd, ps, [], hc, me, fnCalm F, b, .nil⟩
theorem makCalm {k : Nat} {C : Addr} {x : Str} {sp : Sp} (c : VE.MakX P w K mg base k x C sp) : C8.Mak P w K mg base k x C (calm sp) [] := by
  obtain ⟨f, fd, ps, M, F, hm, b⟩ := c.ex
  exact ⟨f, fd, ps, [], M, fnCalm F, hm, b, .nil⟩
theorem metXOf {m qual : Str} {C : Addr} {st : Stmt} {f : Addr} {fd : FuncData} {N ps : List Str} {k : Nat} {sp : Sp} (c : Cls K C) (me : Meth K C m f) (F : FunD K m qual (defArgs st) (defBody st) (defScope st) [] [] f fd) (S : FnScope N ps (defScope st))
    (hb : ∀ (kV doc pm : Value) (an : Option Addr) (cdv ct : Value) (us : List Value), us.length = ps.length → bindArgs (PySem.W.fnOf m qual (defArgs st) (defBody st) (defScope st) .none kV doc pm an cdv ct) ⟨us, []⟩ = pure (ps.zip us))
    (len : ∀ vs H Q E, sp vs H Q E → vs.length = ps.length)
    (hbody : ∀ (cdv : Value) (A : Around) (outer : List Env) (s : Shared) (H : Hp) (vs : List V) (Q : VK) (E : XK),
      Room k (A.deeper (envOfC qual (defScope st) s.heap.objs.size f cdv)) → sp vs H Q E →
      ∃ t, PSs (cxOf (L2.CX P w) P w K mg base N qual (defScope st) f cdv A outer s H E) (defBody st) t ∧ t { nx := fun _ H' => Q .non H', rt := Q } (start N vs) H) :
    VE.MetX P w K mg base (k + 1) C m sp :=
  ⟨f, fd, ps, c, me, F.ok S len (fun cdv A outer s H vs Q E hr h => hbody cdv A outer s H vs Q E hr h), F.bindsN hb⟩
end
section
variable {P : Program} {w : World} {K : PySem.W.Frag} {mg : Str → Option Value} {base : Heap}
end
theorem iteMem {p : Prop} [Decidable p] {A B : Prop} (h1 : p → A) (h2 : ¬ p → B) : if (if true = true then !decide p else decide p) = true then B else A := by
  rw [if_pos rfl]
  by_cases h : p
  · rw [decide_eq_true h]; exact iteF (h1 h)
  · rw [decide_eq_false h]; exact iteT (h2 h)
theorem inV_ints (t : Int) (o : List Int) : inV (.int t) (o.map V.int) = decide (t ∈ o) := by
  induction o with
  | nil => rfl
  | cons x o ih =>
    show (eqV (.int x) (.int t) || inV (.int t) (o.map V.int)) = _
    rw [ih]
    show ((x == t) || _) = _
    by_cases h : t = x
    · subst h; simp
    · have h2 : ¬ x = t := fun z => h z.symm
      simp [h, h2]
/-! == of instances by their own __eq__, True or False -/
def spEqB (R : Addr → Addr → Bool → Hp → Prop) : Sp := fun vs H Q _ => ∃ a b r, vs = [.ref a, .ref b] ∧ R a b r H ∧ ∀ H', Ext H H' → Q (.bl r) H'
def rEqI (C : Addr) (R : Addr → Addr → Bool → Hp → Prop) : R2 := fun x y H Q => ∃ (a b dx dy : Addr) (fs gs : List (Str × V)) (r : Bool), x = .ref a ∧ y = .ref b ∧ H a = some (.ins C dx fs) ∧ H b = some (.ins C dy gs) ∧ R a b r H ∧ ∀ H', Ext H H' → Q (.bl r) H'
/-- try .. except x, by a name -/
def tTry (K : PySem.W.Frag) (c : Value) (tb : WX → TS) (ts : Addr → Value → Option Addr → TS) (Wout : WX) : TS := fun D σ H => tb (wOnly K c ts Wout D) D σ H
/-! xs[::-1] -/
end VX

set_option Elab.async false
set_option linter.all false
set_option maxRecDepth 100000
set_option maxHeartbeats 4000000
namespace VQ
open PySem PySem.Spec PyProof.Rows L2 LamX NdefX VB VM
/-! sets of whole numbers (fewer than 64), told with the world by its name; sorted of whole numbers -/
section
variable {X : Cx} {w : World} (h : X.w = w)
include h
theorem set0I : CallR X (.type "set") (rSet0 w) := by subst h; exact cr_set0
theorem notInI : OpR X (compareOp .NotIn) (rSNotIn w) := by subst h; exact or_snotin
theorem sortedSI (hc : X.calm = true) : CallR X (.builtin "sorted") (rSortedSet w) := by subst h; exact cr_sortedSet hc
theorem saddI {o e : Expr} {es : List Expr} {to : TE} {t : TA} {apos cpos : Pos} (ho : PE X o to) (ha : PA X (e :: es) t)
    (hbase : attributeBase o "add" X.env (eval o X.env) = eval o X.env := by rfl)
    (hfew : ((backTo cpos (starEach (e :: es) X.env)).all (fun x => !x.1) && (backToKw cpos (keywordEach [] X.env)).all (fun x => x.1.isSome)
      && decide ((e :: es).length + ([] : List Keyword).length + (if ([] : List Keyword).isEmpty then 0 else 1) < 30)) = true := by rfl)
    (hline : (apos.endLine == cpos.line) = true := by rfl) (hs : starEach (e :: es) X.env = (false, eval e X.env) :: starEach es X.env := by rfl) (hplain : (backTo cpos (starEach es X.env)).any (·.1) = false := by rfl) :
    PE X (.Call (.Attribute o "add" apos) (e :: es) [] cpos) (tSAdd w to t) := by subst h; exact pe_sadd ho ha hbase hfew hline hs hplain
end
/-- sorted of whole numbers -/
def srtI (l : List Int) : List Int := l.mergeSort fun a b => decide (a ≤ b)
def rSortI (K : PySem.W.Frag) : List V → Hp → VK → Prop := fun vs H Q => ∃ (a : Addr) (ns : List Int), vs = [V.ref a] ∧ SqL K H a (ns.map V.int) ∧
  ∀ p : Addr, H p = none → Q (.ref p) (upd H p (.lst ((srtI ns).map V.int)))
theorem sortedI {X : Cx} {K : PySem.W.Frag} (h : X.K = K) {k : Nat} (hr : Room k X.A) : CallR X (.builtin "sorted") (rSortI K) := by
  subst h
  intro pins s σ H vs us Q I r hh
  obtain ⟨a, ss, rfl, hs, q⟩ := hh
  have eS : (PySem.W.dataLe false PyData.int : Int → Int → Bool) = fun a b => decide (a ≤ b) := PySem.W.dataLe_int (fun x => x)
  refine VA.cr_sortedB V.int PyData.int hr pins s σ H [V.ref a] us Q I r ⟨a, ss, rfl, hs, fun b _ => .int b, ?_, ?_, ?_, fun p np => ?_⟩
  · intro d hd d' hd'
    obtain ⟨x, _, rfl⟩ := List.mem_map.mp hd
    obtain ⟨y, _, rfl⟩ := List.mem_map.mp hd'
    rfl
  · refine .inr fun d hd => ?_
    obtain ⟨x, _, rfl⟩ := List.mem_map.mp hd
    exact ⟨fun z => PyData.noConfusion z, fun xs z => PyData.noConfusion z⟩
  · intro b _
    show (0 : Nat) ≤ 8
    decide
  · rw [eS]
    exact q p np
theorem srtI_mem {l : List Int} {x : Int} : x ∈ srtI l ↔ x ∈ l := List.mem_mergeSort
theorem srtI_asc {l : List Int} (nd : l.Nodup) : (srtI l).Pairwise (· < ·) :=
  asc_of_sorted (lt := fun a b : Int => a < b) (fun a b h g => by omega) (fun a b => by
    show decide (a ≤ b) = !decide (b < a)
    by_cases h : a ≤ b
    · rw [decide_eq_true h, decide_eq_false (by omega)] <;> rfl
    · rw [decide_eq_false h, decide_eq_true (by omega)] <;> rfl) (fun a b c x y => Int.lt_trans x y) (fun a => Int.lt_irrefl a) nd
theorem ascI {l m : List Int} (hl : l.Pairwise (· < ·)) (hm : m.Pairwise (· < ·)) (h : ∀ x, x ∈ l ↔ x ∈ m) : l = m :=
  asc_unique (fun a => Int.lt_irrefl a) (fun a b c x y => Int.lt_trans x y) hl hm h
theorem ascI_nodup {l : List Int} (h : l.Pairwise (· < ·)) : l.Nodup := List.nodup_iff_pairwise_ne.mpr (h.imp fun z e => by omega)
/-- the states to which silent edges lead -/
inductive Rch (E : List Ed) (S : List Int) : Int → Prop
  | base {x : Int} : x ∈ S → Rch E S x
  | step {x y : Int} : Rch E S x → (x, ("tau" : Str), y) ∈ E → Rch E S y
/-- the closure of states, ascending -/
structure IsClo (E : List Ed) (S cs : List Int) : Prop where
  asc : cs.Pairwise (· < ·)
  mem : ∀ x, x ∈ cs ↔ Rch E S x
theorem Rch.imp {E E' : List Ed} {S S' : List Int} (hE : ∀ e, e ∈ E → e ∈ E') (hS : ∀ x, x ∈ S → x ∈ S') {x : Int} (h : Rch E S x) : Rch E' S' x := by
  induction h with
  | base h => exact .base (hS _ h)
  | step _ h ih => exact .step ih (hE _ h)
theorem IsClo.congr {E E' : List Ed} {S S' cs : List Int} (h : IsClo E S cs) (hE : ∀ e, e ∈ E ↔ e ∈ E') (hS : ∀ x, x ∈ S ↔ x ∈ S') : IsClo E' S' cs :=
  ⟨h.asc, fun x => (h.mem x).trans ⟨fun z => z.imp (fun e => (hE e).1) (fun x => (hS x).1), fun z => z.imp (fun e => (hE e).2) (fun x => (hS x).2)⟩⟩
theorem IsClo.uniq {E : List Ed} {S cs ds : List Int} (h : IsClo E S cs) (g : IsClo E S ds) : cs = ds := ascI h.asc g.asc fun x => (h.mem x).trans (g.mem x).symm
theorem Rch.range {E : List Ed} {S : List Int} {P : Int → Prop} (hE : ∀ e ∈ E, P e.2.2) (hS : ∀ x ∈ S, P x) {x : Int} (h : Rch E S x) : P x := by
  cases h with
  | base h => exact hS _ h
  | step _ h => exact hE _ h
end VQ

set_option Elab.async false
set_option linter.all false
set_option maxRecDepth 100000
set_option maxHeartbeats 4000000
namespace VR
open PySem PySem.Spec PyProof.Rows L2 LamX NdefX VB VM
/-- < of data -/
def rLtD (K : PySem.W.Frag) : R2 := fun x y H Q => ∃ d e, Dp K H x d ∧ Dp K H y e ∧ PySem.W.alike d e = true ∧ d ≠ .none ∧ d.depth ≤ 60 ∧ Q (.bl (PySem.W.dataLt d e)) H
theorem ltD {X : Cx} {K : PySem.W.Frag} (h : X.K = K) (hu : X.A.units + 65 < cLine) : OpR X (compareOp .Lt) (rLtD K) := by
  subst h
  intro pins s σ H x y v u Q I rx ry hh
  obtain ⟨d, e, hd, he, ha, hn, hdp, q⟩ := hh
  obtain ⟨as, r1⟩ := Dp.reads I d x v hd rx
  obtain ⟨bs, r2⟩ := Dp.reads I e y u he ry
  exact PySem.W.lt_data r1 r2 ha hn (by omega) ⟨.bl _, H, I, rfl, q⟩
/-- xs.index(x) of a tuple of texts -/
def rIxOf (K : PySem.W.Frag) : V → List V → Hp → VK → Prop := fun x xs H Q => ∃ (p : Addr) (ys : List Str) (z : Str) (j : Nat), x = .ref p ∧ xs = [.str z] ∧ SqT K H p (ys.map V.str) ∧ ys[j]? = some z ∧ (∀ m, m < j → ys[m]? ≠ some z) ∧ Q (.int (j : Nat)) H
/-- a written tuple without a dict -/
def tupN (K : PySem.W.Frag) (a : Addr) : Bool := match K.lookup a with
  | some ⟨.type c, none, .seq _ _, _⟩ => decide (c = "tuple")
  | _ => false
abbrev TupN (K : PySem.W.Frag) (a : Addr) : Prop := ∃ o, K.lookup a = some o ∧ o.cls = .type "tuple" ∧ o.dict = none
end VR

set_option Elab.async false
set_option linter.all false
set_option maxRecDepth 100000
set_option maxHeartbeats 4000000
namespace VZ
open PySem PySem.Spec PyProof.Rows L2 LamX NdefX VB VM
/-! what is walked may be a list or a tuple -/
def iSeq (K : PySem.W.Frag) (tl : TE) : TI := fun σ H R => tl σ H fun x H1 => ∃ a, x = .ref a ∧ (((∃ xs, SqL K H1 a xs) ∧ R (Itl K a) H1) ∨ ((∃ xs, SqT K H1 a xs) ∧ R (Itt K a) H1))
theorem pi_seq {X : Cx} {K : PySem.W.Frag} {tg : Expr} (h : X.K = K) {l : Expr} {tl : TE} (hl : PE X l tl) : PI X tg l (iSeq K tl) := by
  subst h
  refine ⟨fun pins s σ H R I h => ?_⟩
  refine thn (hl.run pins s σ H _ I h) fun v s1 ⟨x, H1, I1, r1, q1⟩ => ?_
  obtain ⟨a, e, q⟩ := q1
  subst e
  cases r1
  rcases q with ⟨⟨xs, hq⟩, q⟩ | ⟨⟨xs, hq⟩, q⟩
  · obtain ⟨its, rv, p, hz⟩ := I1.list hq
    refine wpAny_pyIter_list p.isList ?_
    refine ⟨s1.heap.objs.size, [s1.heap.objs.size], _, _, H1, rfl, I1.kept (t' := s1.toks) fun b o e => Heap.get?_push_of_some _ e, turn_list a _, ⟨_, Heap.get?_push_size _ rfl, rfl, rfl⟩, fun b hb => ?_, q⟩
    have e : b = s1.heap.objs.size := by simpa using hb
    subst e
    exact I1.fpOk (Nat.le_refl _) (I1.hok.fresh (Nat.le_refl _))
  · obtain ⟨its, rv, p, hz⟩ := I1.tuple hq
    refine wpAny_pyIter_tuple (show s1.heap.IsTuple a its.toArray from p) ?_
    refine ⟨s1.heap.objs.size, [s1.heap.objs.size], _, _, H1, rfl, I1.kept (t' := s1.toks) fun b o e => Heap.get?_push_of_some _ e, turn_tuple a _, ⟨_, Heap.get?_push_size _ rfl, rfl, rfl⟩, fun b hb => ?_, q⟩
    have e : b = s1.heap.objs.size := by simpa using hb
    subst e
    exact I1.fpOk (Nat.le_refl _) (I1.hok.fresh (Nat.le_refl _))
theorem dc_list {K : PySem.W.Frag} {a : Addr} {xs : List V} {g : TG} {tt : TT} {tk tv : TE} {vs : List Nat} {σ : L2.St} {H1 : Hp} {D : Addr} {Qd : Hp → Prop} (Pv : Nat → Hp → Prop) (h0 : Pv 0 (upd H1 D (.dK []))) (hl : ∀ i H, i ≤ xs.length → Pv i H → SqL K H a xs)
    (hs : ∀ i x H, xs[i]? = some x → Pv i H → g x (wipe σ vs) H fun σ2 H2 => wipe σ2 vs = wipe σ vs ∧ tt σ2 H2 fun b H3 =>
      if b = true then tk σ2 H3 fun y H4 => tv σ2 H4 fun z H5 => ∃ kvs k, y = kV k ∧ H5 D = some (.dK kvs) ∧ kvs.length < sizeLine ∧ Pv (i + 1) (upd H5 D (.dK (putK kvs k z))) else Pv (i + 1) H3) (hd : ∀ H, Pv xs.length H → Qd H) :
    ∃ W : Nat → Nat → Hp → Prop, (∃ m, W 0 m (upd H1 D (.dK []))) ∧ ∀ i m H, W i m H →
      ((Itl K a).stop i H ∧ Qd H) ∨ ((Itl K a).go i H ∧ ∃ Nx : Hp → Prop, (∀ H', Nx H' → ∃ m', m' < m ∧ W (i + 1) m' H') ∧ ∀ x H', (Itl K a).yld i H x H' → g x (wipe σ vs) H' fun σ2 H2 => wipe σ2 vs = wipe σ vs ∧ tt σ2 H2 fun b H3 =>
        if b = true then tk σ2 H3 fun y H4 => tv σ2 H4 fun z H5 => ∃ kvs k, y = kV k ∧ H5 D = some (.dK kvs) ∧ kvs.length < sizeLine ∧ Nx (upd H5 D (.dK (putK kvs k z))) else Nx H3) := by
  refine ⟨fun i m H => m = xs.length - i ∧ i ≤ xs.length ∧ Pv i H, ⟨xs.length, by simp, Nat.zero_le _, h0⟩, ?_⟩
  rintro i m H ⟨rfl, hi, p⟩
  have q := hl i H hi p
  by_cases hlt : i < xs.length
  · refine .inr ⟨⟨xs, xs[i], q, by simp [hlt]⟩, Pv (i + 1), fun H' p' => ⟨xs.length - (i + 1), by omega, rfl, hlt, p'⟩, fun x H' y => ?_⟩
    obtain ⟨e, y⟩ := y
    subst e
    exact hs i x _ (y xs q) p
  · have e : i = xs.length := by omega
    subst e
    exact .inl ⟨⟨xs, q, Nat.le_refl _⟩, hd H p⟩
abbrev SqA (K : PySem.W.Frag) (H : Hp) (a : Addr) (xs : List V) : Prop := SqL K H a xs ∨ SqT K H a xs
theorem sqA_same {K : PySem.W.Frag} {H H' : Hp} {a : Addr} {xs : List V} (s : Same H H') (h : SqA K H a xs) : SqA K H' a xs := h.elim (fun z => .inl (s.seq z)) fun z => .inr (VB.Same.sqT s z)
/-- for over a list or a tuple that stands in H0 -/
theorem for_seq {K : PySem.W.Frag} {a : Addr} {xs : List V} {g : TG} {tb : TS} {D : Ends} {σ : L2.St} {H H0 : Hp} (hq : SqA K H0 a xs) (Pv : Nat → L2.St → Hp → Prop) (h0 : Pv 0 σ H) (s0 : Same H0 H) (hl : ∀ i σ H, Pv i σ H → Same H0 H)
    (hs : ∀ i x σ H, xs[i]? = some x → Pv i σ H → g x σ H fun σ2 H2 => tb { D with nx := Pv (i + 1), ct := Pv (i + 1), bk := D.nx } σ2 H2) (hd : ∀ σ H, Pv xs.length σ H → D.nx σ H) :
    (((∃ xs, SqL K H a xs) ∧ ∃ W : Nat → Nat → L2.St → Hp → Prop, (∃ m, W 0 m σ H) ∧ ∀ i m σ H, W i m σ H →
      ((Itl K a).stop i H ∧ D.nx σ H) ∨ ((Itl K a).go i H ∧ ∃ N : L2.St → Hp → Prop, (∀ σ' H', N σ' H' → ∃ m', m' < m ∧ W (i + 1) m' σ' H') ∧ ∀ x H', (Itl K a).yld i H x H' → g x σ H' fun σ2 H2 => tb { D with nx := N, ct := N, bk := D.nx } σ2 H2)) ∨
    ((∃ xs, SqT K H a xs) ∧ ∃ W : Nat → Nat → L2.St → Hp → Prop, (∃ m, W 0 m σ H) ∧ ∀ i m σ H, W i m σ H →
      ((Itt K a).stop i H ∧ D.nx σ H) ∨ ((Itt K a).go i H ∧ ∃ N : L2.St → Hp → Prop, (∀ σ' H', N σ' H' → ∃ m', m' < m ∧ W (i + 1) m' σ' H') ∧ ∀ x H', (Itt K a).yld i H x H' → g x σ H' fun σ2 H2 => tb { D with nx := N, ct := N, bk := D.nx } σ2 H2))) := by
  rcases hq with hq | hq
  · exact .inl ⟨⟨_, s0.seq hq⟩, for_list Pv h0 (fun i σ H _ p => (hl i σ H p).seq hq) hs hd⟩
  · exact .inr ⟨⟨_, VB.Same.sqT s0 hq⟩, for_tup Pv h0 (fun i σ H _ p => VB.Same.sqT (hl i σ H p) hq) hs hd⟩
/-- a list comprehension over it -/
theorem lc_seq {K : PySem.W.Frag} {a : Addr} {xs : List V} {g : TG} {tt : TT} {te : TE} {vs : List Nat} {σ : L2.St} {H1 H0 : Hp} {Qd : Addr → Hp → Prop} (hq : SqA K H0 a xs) (s0 : Same H0 H1) (Pv : Addr → Nat → Hp → Prop) (h0 : ∀ D, H1 D = none → Pv D 0 (upd H1 D (.lst []))) (hl : ∀ D i H, Pv D i H → Same H0 H)
    (hs : ∀ D, H1 D = none → ∀ i x H, xs[i]? = some x → Pv D i H → g x (wipe σ vs) H fun σ2 H2 => wipe σ2 vs = wipe σ vs ∧ tt σ2 H2 fun b H3 =>
      if b = true then te σ2 H3 fun y H4 => ∃ acc, H4 D = some (.lst acc) ∧ acc.length < sizeLine ∧ Pv D (i + 1) (upd H4 D (.lst (acc ++ [y]))) else Pv D (i + 1) H3) (hd : ∀ D, H1 D = none → ∀ H, Pv D xs.length H → Qd D H) :
    (((∃ xs, SqL K H1 a xs) ∧ ∀ D, H1 D = none → ∃ W : Nat → Nat → Hp → Prop, (∃ m, W 0 m (upd H1 D (.lst []))) ∧ ∀ i m H, W i m H →
      ((Itl K a).stop i H ∧ Qd D H) ∨ ((Itl K a).go i H ∧ ∃ Nx : Hp → Prop, (∀ H', Nx H' → ∃ m', m' < m ∧ W (i + 1) m' H') ∧ ∀ x H', (Itl K a).yld i H x H' → g x (wipe σ vs) H' fun σ2 H2 => wipe σ2 vs = wipe σ vs ∧ tt σ2 H2 fun b H3 =>
        if b = true then te σ2 H3 fun y H4 => ∃ acc, H4 D = some (.lst acc) ∧ acc.length < sizeLine ∧ Nx (upd H4 D (.lst (acc ++ [y]))) else Nx H3)) ∨
    ((∃ xs, SqT K H1 a xs) ∧ ∀ D, H1 D = none → ∃ W : Nat → Nat → Hp → Prop, (∃ m, W 0 m (upd H1 D (.lst []))) ∧ ∀ i m H, W i m H →
      ((Itt K a).stop i H ∧ Qd D H) ∨ ((Itt K a).go i H ∧ ∃ Nx : Hp → Prop, (∀ H', Nx H' → ∃ m', m' < m ∧ W (i + 1) m' H') ∧ ∀ x H', (Itt K a).yld i H x H' → g x (wipe σ vs) H' fun σ2 H2 => wipe σ2 vs = wipe σ vs ∧ tt σ2 H2 fun b H3 =>
        if b = true then te σ2 H3 fun y H4 => ∃ acc, H4 D = some (.lst acc) ∧ acc.length < sizeLine ∧ Nx (upd H4 D (.lst (acc ++ [y]))) else Nx H3))) := by
  rcases hq with hq | hq
  · exact .inl ⟨⟨_, s0.seq hq⟩, fun D nD => lc_list (Pv D) (h0 D nD) (fun i H _ p => (hl D i H p).seq hq) (hs D nD) (hd D nD)⟩
  · exact .inr ⟨⟨_, VB.Same.sqT s0 hq⟩, fun D nD => lc_tup (Pv D) (h0 D nD) (fun i H _ p => VB.Same.sqT (hl D i H p) hq) (hs D nD) (hd D nD)⟩
/-- a dict comprehension over it -/
theorem dc_seq {K : PySem.W.Frag} {a : Addr} {xs : List V} {g : TG} {tt : TT} {tk tv : TE} {vs : List Nat} {σ : L2.St} {H1 H0 : Hp} {Qd : Addr → Hp → Prop} (hq : SqA K H0 a xs) (s0 : Same H0 H1) (Pv : Addr → Nat → Hp → Prop) (h0 : ∀ D, H1 D = none → Pv D 0 (upd H1 D (.dK []))) (hl : ∀ D i H, Pv D i H → Same H0 H)
    (hs : ∀ D, H1 D = none → ∀ i x H, xs[i]? = some x → Pv D i H → g x (wipe σ vs) H fun σ2 H2 => wipe σ2 vs = wipe σ vs ∧ tt σ2 H2 fun b H3 =>
      if b = true then tk σ2 H3 fun y H4 => tv σ2 H4 fun z H5 => ∃ kvs k, y = kV k ∧ H5 D = some (.dK kvs) ∧ kvs.length < sizeLine ∧ Pv D (i + 1) (upd H5 D (.dK (putK kvs k z))) else Pv D (i + 1) H3) (hd : ∀ D, H1 D = none → ∀ H, Pv D xs.length H → Qd D H) :
    (((∃ xs, SqL K H1 a xs) ∧ ∀ D, H1 D = none → ∃ W : Nat → Nat → Hp → Prop, (∃ m, W 0 m (upd H1 D (.dK []))) ∧ ∀ i m H, W i m H →
      ((Itl K a).stop i H ∧ Qd D H) ∨ ((Itl K a).go i H ∧ ∃ Nx : Hp → Prop, (∀ H', Nx H' → ∃ m', m' < m ∧ W (i + 1) m' H') ∧ ∀ x H', (Itl K a).yld i H x H' → g x (wipe σ vs) H' fun σ2 H2 => wipe σ2 vs = wipe σ vs ∧ tt σ2 H2 fun b H3 =>
        if b = true then tk σ2 H3 fun y H4 => tv σ2 H4 fun z H5 => ∃ kvs k, y = kV k ∧ H5 D = some (.dK kvs) ∧ kvs.length < sizeLine ∧ Nx (upd H5 D (.dK (putK kvs k z))) else Nx H3)) ∨
    ((∃ xs, SqT K H1 a xs) ∧ ∀ D, H1 D = none → ∃ W : Nat → Nat → Hp → Prop, (∃ m, W 0 m (upd H1 D (.dK []))) ∧ ∀ i m H, W i m H →
      ((Itt K a).stop i H ∧ Qd D H) ∨ ((Itt K a).go i H ∧ ∃ Nx : Hp → Prop, (∀ H', Nx H' → ∃ m', m' < m ∧ W (i + 1) m' H') ∧ ∀ x H', (Itt K a).yld i H x H' → g x (wipe σ vs) H' fun σ2 H2 => wipe σ2 vs = wipe σ vs ∧ tt σ2 H2 fun b H3 =>
        if b = true then tk σ2 H3 fun y H4 => tv σ2 H4 fun z H5 => ∃ kvs k, y = kV k ∧ H5 D = some (.dK kvs) ∧ kvs.length < sizeLine ∧ Nx (upd H5 D (.dK (putK kvs k z))) else Nx H3))) := by
  rcases hq with hq | hq
  · exact .inl ⟨⟨_, s0.seq hq⟩, fun D nD => dc_list (Pv D) (h0 D nD) (fun i H _ p => (hl D i H p).seq hq) (hs D nD) (hd D nD)⟩
  · exact .inr ⟨⟨_, VB.Same.sqT s0 hq⟩, fun D nD => dc_tup (Pv D) (h0 D nD) (fun i H _ p => VB.Same.sqT (hl D i H p) hq) (hs D nD) (hd D nD)⟩
/-- y = {k: v for ..}, y a local of its own -/
theorem ps_setDc {X : Cx} {i : Nat} {y : Str} {py : Pos} {kx vx tg iter : Expr} {ifs : List Expr} {scope : Scope} {own : List (Str × Nat)} {pos spos : Pos} {wi : TI} {g : TG} {tt : TT} {tk tv : TE} (hc : X.calm = true) (hN : X.N.Nodup) (hy : X.N[i]? = some y) (hyl : X.env.scope.names.lookup y = some .local)
    (hsw : swapsWith (.DictComp kx vx [⟨tg, iter, ifs, 0⟩] scope pos) (some (.Name y py)) spos.line X.env = pure true) (hi : PI X tg iter wi) (ok : BlkOk X.N X.env.scope scope own)
    (hg : ∀ (s : Shared) (H : Hp) (C : Addr) (cl : List (Str × Addr)) (fp : List Addr), PG (X.blk s H scope (compEnvC scope cl C X.env) fp) tg g) (ht : ∀ (s : Shared) (H : Hp) (C : Addr) (cl : List (Str × Addr)) (fp : List Addr), PTs (X.blk s H scope (compEnvC scope cl C X.env) fp) ifs tt)
    (hk : ∀ (s : Shared) (H : Hp) (C : Addr) (cl : List (Str × Addr)) (fp : List Addr), PE (X.blk s H scope (compEnvC scope cl C X.env) fp) kx tk)
    (he : ∀ (s : Shared) (H : Hp) (C : Addr) (cl : List (Str × Addr)) (fp : List Addr), PE (X.blk s H scope (compEnvC scope cl C X.env) fp) vx tv) (hs : ∀ x, foldedSetIterable iter X.env x = pure x := by intro _; rfl) :
    PS X (.Assign [.Name y py] (.DictComp kx vx [⟨tg, iter, ifs, 0⟩] scope pos) spos) (tAsg (tDc wi g tt tk tv (own.map (·.2))) (gName i)) := by
  refine ⟨fun pins s σ H D I h => ?_⟩
  rw [exec_Assign_Name_used _ _ _ _ hsw]
  refine wpAny_bind (wpAny_standAt (wpAny_bind ?_))
  show wpAny _ X.A (do let _ ← comprehension (.DictComp kx vx [⟨tg, iter, ifs, 0⟩] scope pos) scope X.env (firstIterPos [⟨tg, iter, ifs, 0⟩] pos) newDict false (eval iter X.env) (some (assign (.Name y py) X.env))) _ _ s
  have h : tDc wi g tt tk tv (own.map (·.2)) σ H (fun x H1 => gName i x σ H1 D.nx) := h
  refine wpAny_bind (thn (dc_core (Qf := fun _ s' => SP X pins D .next s') hc hN I hi ok hg ht hk he hs h fun L C s' m H' I' q hn f => ?_) fun _ s' hq => wpAny_pure (wpAny_pure hq))
  show wpAny _ _ (assign (.Name y py) X.env (.ref L)) _ _ _
  refine wpAny_assign_Name (store_ok2 (v := V.ref L) I' hN hy (.inl hyl) rfl (fun s2 I2 ⟨a, sb, ha⟩ => ?_) (.inr hyl))
  obtain ⟨f0, f1, f2, f3, f4, f5⟩ := f
  have haC : C ≠ a := by
    rcases ha with z | z
    · rw [z]; exact f1
    · exact fun e => f4 y a z e.symm
  refine ⟨m, hn.sameBut sb haC, fun h3 sb3 => ?_⟩
  exact ⟨_, H', I2.turned (t' := s2.toks) (fun b o hb e => (sb3.2 b hb).trans e) f0 f1 f3 f4 f5, q⟩
theorem sw_trueD {kx vx : Expr} {gs : List Comprehension} {scope : Scope} {pos py : Pos} {y : Str} {l : Nat} {env : Env} (hk : env.scope.kind = .function) (hy : env.scope.names.lookup y = some .local) (hl : (py.line == pos.line) = true)
    (ha : (scope.names.any fun (n, k) => n == y && (k == .local || k == .cell)) = false) : swapsWith (.DictComp kx vx gs scope pos) (some (.Name y py)) l env = pure true := by
  have ky : env.kindOf y = some .local := hy
  have hb : env.blockKind = .function := by unfold Env.blockKind; rw [hk]; rfl
  unfold swapsWith
  simp only [hb, ky, ha, Expr.pos, hl]
  rfl
theorem putK_len {κ : Type} [DecidableEq κ] (c : List (κ × V)) (k : κ) (x : V) : (putK c k x).length ≤ c.length + 1 := by
  unfold putK
  by_cases e : (c.any fun kv => decide (kv.1 = k)) = true
  · rw [if_pos e, List.length_map]
    omega
  · rw [if_neg e, List.length_append, List.length_singleton]
    exact Nat.le_refl _
theorem catA {X : Cx} {K : PySem.W.Frag} (h : X.K = K) : OpR X (binaryOp .Add) (rCatA K) := by subst h; exact op_catA
end VZ

set_option Elab.async false
set_option linter.all false
set_option maxRecDepth 100000
set_option maxHeartbeats 4000000
namespace VD
open PySem PySem.W PySem.Calls PyProof.Rows PySem.SeqAt
/-! sorted of tuples some of which may be empty -/
section
variable {prog : Program} {w : World} {A : Around} {E : Value → Shared → Prop} {s : Shared}
variable {β : Type} {enc : β → PyData} {R : Value → β → Prop} {vs : List Value} {bs : List β}
end
end VD
namespace VT
open PySem PySem.Spec PyProof.Rows L2 VD
section
variable {X : Cx} {P : Program} {w : World}
/-- sorted of a set of tuples, the empty one too -/
def rSortTE (P : Program) (w : World) (K : PySem.W.Frag) : List V → Hp → VK → Prop := fun vs H Q => ∃ (a : Addr) (L : List (Addr × List Key)), vs = [V.ref a] ∧ H a = some (SetKO P w a L) ∧ (∀ p ∈ L, SqT K H p.1 (p.2.map kV)) ∧
  PySem.W.AllAlike (L.map fun p => keysD p.2) ∧ ∀ (L' : List (Addr × List Key)) (p : Addr), L'.Perm L → H p = none → Q (.ref p) (upd H p (.lst ((L'.mergeSort leK).map fun q => V.ref q.1)))
end
end VT
namespace VD
open PySem PySem.Spec PyProof.Rows L2 LamX NdefX
/-- sorted of a list of tuples, the empty one too -/
def rSortedU {β : Type} (K : PySem.W.Frag) (emb : β → V) (enc : β → PyData) : List V → Hp → VK → Prop := fun vs H Q =>
  ∃ (a : Addr) (bs : List β), vs = [V.ref a] ∧ SqL K H a (bs.map emb) ∧ (∀ b ∈ bs, Dp K H (emb b) (enc b)) ∧
    PySem.W.AllAlike (bs.map enc) ∧ (∀ d ∈ bs.map enc, ∃ xs, d = .tuple xs) ∧ (∀ b ∈ bs, (enc b).depth ≤ 8) ∧
    ∀ p : Addr, H p = none → Q (.ref p) (upd H p (.lst ((bs.mergeSort (PySem.W.dataLe false enc)).map emb)))
section
variable {X : Cx}
end
/-! walks told with the written part by its name (within a comprehension of a comprehension) -/
theorem piL {X : Cx} {K : PySem.W.Frag} {tg : Expr} (h : X.K = K) {l : Expr} {tl : TE} (hl : PE X l tl) : PI X tg l (iList K tl) := by subst h; exact pi_list hl
theorem piT {X : Cx} {K : PySem.W.Frag} {tg : Expr} (h : X.K = K) {l : Expr} {tl : TE} (hl : PE X l tl) : PI X tg l (iTup K tl) := by subst h; exact pi_tup hl
end VD

set_option Elab.async false
set_option linter.all false
set_option maxRecDepth 100000
set_option maxHeartbeats 400000
namespace VKY
open PySem PySem.Spec PyProof.Rows L2 LamX NdefX VB PySem.W
/-! sorted(a range, key=a lambda that reads captured names) -/
section
variable {P : Program} {w : World} {fs : List Addr} {H : Hp} {h0 h h' : Heap} {x y : Addr}
/-- nothing that H tracks has changed, and what it doesn't track is there -/
structure Far (P : Program) (w : World) (fs : List Addr) (H : Hp) (h0 h : Heap) : Prop where
  un : Un fs [] H H h0 h
  ok : HOk P w H h
/-- all but what stands at x and y is there -/
def Off (x y : Addr) (h h' : Heap) : Prop := ∀ b o, b ≠ x → b ≠ y → h.get? b = some o → h'.get? b = some o
theorem Far.off (F : Far P w fs H h0 h) (nx : h0.get? x = none) (ny : h0.get? y = none) (hx : H x = none) (hy : H y = none) (k : Off x y h h') : Far P w fs H h0 h' := by
  have n1 : ∀ b o, h0.get? b = some o → b ≠ x ∧ b ≠ y := fun b o e => ⟨fun z => (by rw [z, nx] at e; cases e), fun z => (by rw [z, ny] at e; cases e)⟩
  refine ⟨⟨fun b o e n f _ => k b o (n1 b o e).1 (n1 b o e).2 (F.un.keep b o e n f List.not_mem_nil), fun b o e n f _ => ?_, fun b o e n _ => n, fun b o e _ => ?_, fun _ _ z => z, fun _ _ _ z => z, fun b ps z => ⟨#[], by rw [Array.append_empty]; exact z⟩⟩, fun b o e => ?_⟩
  · obtain ⟨sl, z⟩ := F.un.slot b o e n f List.not_mem_nil
    exact ⟨sl, k b _ (n1 b o e).1 (n1 b o e).2 z⟩
  · obtain ⟨o', z⟩ := F.un.there b o e List.not_mem_nil
    exact ⟨o', k b _ (n1 b o e).1 (n1 b o e).2 z⟩
  · refine (F.ok b o e).stay (fun c u hc z => k c u ?_ ?_ z) (fun _ z => z) fun _ _ z => z
    · rintro rfl
      rcases hc with rfl | hc
      · rw [hx] at e; cases e
      · rw [hx] at hc; cases hc
    · rintro rfl
      rcases hc with rfl | hc
      · rw [hy] at e; cases e
      · rw [hy] at hc; cases hc
theorem Far.trans {h1 : Heap} (F : Far P w fs H h0 h) (G : Far P w fs H h h1) : Far P w fs H h0 h1 := ⟨F.un.trans G.un, G.ok⟩
theorem off_update (g : Heap) (f : Obj → Obj) : Off x y g (g.update x f) := fun b o n _ e => (Heap.get?_update_ne _ _ _ _ n).trans e
theorem Off.trans {h1 : Heap} (a : Off x y h h') (b : Off x y h' h1) : Off x y h h1 := fun c o n1 n2 e => b c o n1 n2 (a c o n1 n2 e)
end
section
variable {P : Program} {w : World} {A : Around} {E : Value → Shared → Prop} {fs : List Addr} {H : Hp} {s : Shared} {kS a : Addr} {f : Value} {vs : List Value} {e1 : Nat} {R : PySem.Fin → Shared → Prop}
/-- what a key's call leaves -/
def Keyed (P : Program) (w : World) (fs : List Addr) (H : Hp) (s1 : Shared) (u : Value) (s2 : Shared) : Prop := ∃ k t, u = .int k t ∧ s2.os = s1.os ∧ AllBare s2.gens ∧ Far P w fs H s1.heap s2.heap
theorem intsAre_snoc {n : Int} {t : Tok} : ∀ {us : List Value} {ns : List Int}, IntsAre us ns → IntsAre (us ++ [.int n t]) (ns ++ [n])
  | _, _, .nil => .cons n t .nil
  | _, _, .cons m t' r => .cons m t' (intsAre_snoc r)
theorem each_ints {h : Heap} : ∀ {us : List Value} {ns : List Int}, IntsAre us ns → EachIs (fun v d => ∃ as, Reads h v d as) us (ns.map PyData.int)
  | _, _, .nil => .nil
  | _, _, .cons m t r => .cons ⟨[], .int m t⟩ (each_ints r)
theorem intsAre_len : ∀ {us : List Value} {ns : List Int}, IntsAre us ns → us.length = ns.length
  | _, _, .nil => rfl
  | _, _, .cons m t r => congrArg Nat.succ (intsAre_len r)
theorem loop (h0 : Heap) (nk : kS ∉ fs) (na : a ∉ fs) (Hk : H kS = none) (Ha : H a = none) (k0 : h0.get? kS = none) (a0 : h0.get? a = none) (ne : kS ≠ a) (F : Far P w fs H h0 s.heap) (bare : AllBare s.gens)
    (hk : s.heap.get? kS = some (seqObj "list" #[] 0)) (ha : s.heap.get? a = some (seqObj "list" #[] e1)) (small : vs.length < 64) (room : A.units + 1 < cLine)
    (turn : ∀ v ∈ vs, ∀ s1 : Shared, s1.os = s.os → AllBare s1.gens → Far P w fs H h0 s1.heap → wpAny (model P w) A (call f [v]) (Keyed P w fs H s1) (fun _ _ => False) s1)
    (fin : ∀ (s2 : Shared) (out : List Value) (c : Nat), s2.os = s.os → AllBare s2.gens → Far P w fs H h0 s2.heap → s2.heap.get? a = some (seqObj "list" out.toArray c) → out.length = vs.length → (∀ v ∈ out, v ∈ vs) → R (.done (.ret .none)) s2) :
    wpAny (model P w) A (ksk_rest a f false vs.toArray e1 (.ref kS)) R E s := by
  have zl := sizeLine_eq
  unfold ksk_rest
  refine wpAny_bind (wpAny_rule ?_)
  first
    | rw [List.forIn_toArray]
    | (rw [← Array.forIn_toList]; simp only [List.toList_toArray])
  refine wpAny_bind (ksk_fold (fun i s1 => ∃ (ks : Array Value) (e : Nat) (ns : List Int), s1.os = s.os ∧ AllBare s1.gens ∧ Far P w fs H h0 s1.heap ∧ s1.heap.get? kS = some (seqObj "list" ks e) ∧ s1.heap.get? a = some (seqObj "list" #[] e1) ∧ IntsAre ks.toList ns ∧ ks.size = i) vs 0 s
    ⟨#[], 0, [], rfl, bare, F, hk, ha, .nil, rfl⟩ (fun j v s1 hv z => ?_) fun s1 z => ?_)
  · obtain ⟨ks, e, ns, os1, b1, F1, hk1, ha1, hn, sz⟩ := z
    have lj : j < vs.length := (List.getElem?_eq_some_iff.mp hv).1
    refine wpAny_bind (wpAny_attempt (wpAny_mono (turn v (List.mem_of_getElem? hv) s1 os1 b1 F1) (fun u s2 z => ?_) fun _ _ z => z.elim))
    obtain ⟨k, t, rfl, os2, b2, F2⟩ := z
    have hk2 := F2.un.keep _ _ hk1 Hk nk List.not_mem_nil
    have ha2 := F2.un.keep _ _ ha1 Ha na List.not_mem_nil
    obtain ⟨c, hk3⟩ : ∃ c, (s2.heap.update kS (Obj.mapSeq (·.push (.int k t)))).get? kS = some (seqObj "list" (ks.push (.int k t)) c) := ⟨_, get?_update_seq hk2 (·.push (.int k t))⟩
    refine wpAny_bind (listUpdate_at hk2 rfl ?_ (by omega) (by rw [Array.size_push]; omega))
    refine wpAny_pure ⟨rfl, ks.push (.int k t), c, ns ++ [k], os2.trans os1, b2, (F1.trans F2).off k0 a0 Hk Ha (off_update _ _), hk3, (Heap.get?_update_ne _ _ _ _ ne.symm).trans ha2, ?_, by rw [Array.size_push, sz]⟩
    rw [Array.toList_push]
    exact intsAre_snoc hn
  · obtain ⟨ks, e, ns, os1, b1, F1, hk1, ha1, hn, sz⟩ := z
    rw [Nat.zero_add] at sz
    refine wpAny_bind (listItems_at hk1 rfl ?_)
    obtain ⟨g, g1, g2⟩ := restrict s1.heap fun b => decide (b ≠ kS)
    have kp : KeepsBut a g s1.heap := fun b o _ z => by
      by_cases c : b = kS
      · rw [g2 b (by simp [c])] at z; cases z
      · rw [g1 b (by simp [c])] at z; exact z
    have al : AllAlike (ns.map PyData.int) := fun d hd d' hd' => by
      obtain ⟨_, _, rfl⟩ := List.mem_map.mp hd
      obtain ⟨_, _, rfl⟩ := List.mem_map.mp hd'
      rfl
    have so : Sortable (ns.map PyData.int) := .inr fun d hd => by
      obtain ⟨_, _, rfl⟩ := List.mem_map.mp hd
      exact ⟨fun z => PyData.noConfusion z, fun xs z => PyData.noConfusion z⟩
    have un : ∀ d, d ∈ ns.map PyData.int → A.units + d.depth < cLine := fun d hd => by
      obtain ⟨n, _, rfl⟩ := List.mem_map.mp hd
      show A.units + 0 < cLine
      omega
    refine keyH_end (κ := dataKind s1.heap (ns.map PyData.int)) kp (g2 kS (by simp)) hk1 ha1 ne (SortsAt.data (s := s1) (each_ints hn) al so un) sz (by omega) fun h' tk c kb hc => ?_
    have off : Off a kS s1.heap h' := fun b o n1 n2 z => kb b o n1 (by rw [g1 b (by simp [n2])]; exact z)
    have ko : KeyedOut false (ns.map PyData.int) vs (sortVals (dataKind s1.heap (ns.map PyData.int)) false ks.toList vs) := ⟨s1.heap, ks.toList, al, rfl, each_ints hn⟩
    have ll : (ns.map PyData.int).length = vs.length := by
      have z := intsAre_len hn
      rw [Array.length_toList] at z
      rw [List.length_map]
      omega
    exact fin { s1 with heap := h', toks := tk } _ c os1 b1 (F1.off a0 k0 Ha Hk off) hc (ko.length ll) fun v hv => ko.mem hv
theorem Far.refl {h : Heap} (ok : HOk P w H h) : Far P w fs H h h :=
  ⟨⟨fun b o e _ _ _ => e, fun b o e _ _ _ => ⟨o.slots, e⟩, fun b o e n _ => n, fun b o e _ => ⟨o, e⟩, fun _ _ z => z, fun _ _ _ z => z, fun b ps z => ⟨#[], by rw [Array.append_empty]; exact z⟩⟩, ok⟩
theorem Far.kept {h0 h h' : Heap} (F : Far P w fs H h0 h) (k : ∀ b u, h.get? b = some u → h'.get? b = some u) : Far P w fs H h0 h' :=
  F.trans ⟨⟨fun b o e _ _ _ => k b o e, fun b o e _ _ _ => ⟨o.slots, k b o e⟩, fun b o e n _ => n, fun b o e _ => ⟨o, k b o e⟩, fun _ _ z => z, fun _ _ _ z => z, fun b ps z => ⟨#[], by rw [Array.append_empty]; exact z⟩⟩, F.ok.kept k⟩
end
/-! .. as an expression -/
section
variable {X : Cx} {j : Nat} {x : Str} {p pos : Pos} {e : Expr} {es : List Expr} {kws : List Keyword} {t tk : TA} {cl : List (Str × Addr)} {fr : List Str} {js : List Nat}
/-- what the call asks, by the state -/
def rSortLk (P : Program) (w : World) (K : PySem.W.Frag) (mg : Str → Option Value) (base : Heap) (kk : Nat) (cl : List (Str × Addr)) (fr : List Str) (js : List Nat) : L2.St → List V → List V → Hp → VK → Prop := fun σ vs zs H Q =>
  ∃ (r f : Addr) (lo hi : Int), vs = [.ref r] ∧ zs = [.ref f] ∧ H r = some (.rng lo hi) ∧ RgOk lo hi ∧ (hi - lo).toNat < 64 ∧
    (∀ H3, VC.Lock cl fr (js.map (slotAt σ)) H H3 → ∃ φ sp, VA.VCall P w K mg base kk f φ sp ∧ φ H3 ∧ ∀ i, lo ≤ i → i < hi → ∃ key : Int, ∀ Q' : VK, Q' (.int key) H3 → sp [.int i] H3 Q' C8.E0) ∧
    ∀ (l : Addr) (ns : List Int), H l = none → ns.length = (hi - lo).toNat → (∀ n ∈ ns, lo ≤ n ∧ n < hi) → Q (.ref l) (upd H l (.lst (ns.map V.int)))
def tSortLk (P : Program) (w : World) (K : PySem.W.Frag) (mg : Str → Option Value) (base : Heap) (kk : Nat) (cl : List (Str × Addr)) (fr : List Str) (js : List Nat) (t tk : TA) : TE := fun σ H Q => t σ H fun vs H1 => tk σ H1 fun zs H2 => rSortLk P w K mg base kk cl fr js σ vs zs H2 Q
end
end VKY

set_option Elab.async false
set_option linter.all false
set_option maxRecDepth 100000
set_option maxHeartbeats 400000
namespace VTS
open PySem PySem.Spec PyProof.Rows L2 LamX NdefX VB PySem.W
/-- sorted of a tuple of texts -/
def rSortTS (K : PySem.W.Frag) : List V → Hp → VK → Prop := fun vs H Q => ∃ (a : Addr) (ss : List Str), vs = [V.ref a] ∧ SqT K H a (ss.map V.str) ∧ ss.length ≤ 1000 ∧
  ∀ p : Addr, H p = none → Q (.ref p) (upd H p (.lst ((ss.mergeSort VS.leS).map V.str)))
end VTS

set_option Elab.async false
set_option linter.all false
namespace VKA
open PySem PySem.Spec PyProof.Rows L2 LamX NdefX VB
theorem anyL {X : Cx} {K : PySem.W.Frag} (h : X.K = K) (hc : X.calm = true) : CallR X (.builtin "any") (rAny K) := by subst h; exact cr_any hc
end VKA

set_option Elab.async false
set_option linter.all false
set_option maxRecDepth 100000
set_option maxHeartbeats 4000000
namespace VI
open PySem PySem.Spec PyProof.Rows L2 LamX NdefX VB VM
/-! enumerate of a tuple -/
/-- pairs of a number and an item of the tuple at a, the numbers from c on -/
def Itn (K : PySem.W.Frag) (c : Int) (a : Addr) : It where
  go := fun i H => ∃ (xs : List V) (x : V), SqT K H a xs ∧ xs[i]? = some x
  yld := fun i H v H' => ∃ T x, v = .ref T ∧ H T = none ∧ H' = upd H T (.tup [.int (c + (i : Nat)), x]) ∧ ∀ xs, SqT K H a xs → xs[i]? = some x
  stop := fun i H => ∃ xs : List V, SqT K H a xs ∧ xs.length ≤ i
def iEnT (K : PySem.W.Frag) (ta : TA) : TI := fun σ H R => ta σ H fun vs H1 => ∃ a xs, vs = [.ref a] ∧ SqT K H1 a xs ∧ R (Itn K 0 a) H1
end VI

set_option Elab.async false
set_option linter.all false
set_option maxRecDepth 100000
set_option maxHeartbeats 4000000
namespace VJ
open PySem PySem.Spec PyProof.Rows L2 LamX NdefX VB VM
/-! what stands behind a piece of a text, said once for all its ways -/
theorem seqJ {t u : TS} {D : Ends} {σ : L2.St} {H : Hp} (F : L2.St → Hp → Prop) (h : ∀ N : L2.St → Hp → Prop, (∀ s' H', F s' H' → N s' H') → t { D with nx := N } σ H) (r : ∀ s' H', F s' H' → u D s' H') : tSeq t u D σ H := h _ r
theorem nm {i : Nat} {x : V} {σ : L2.St} {H : Hp} {N : L2.St → Hp → Prop} (h : N (σ.set i (some x)) H) : gName i x σ H N := h
theorem nmS {i : Nat} {x : V} {σ : L2.St} {H : Hp} {a b c : L2.St → Hp → Prop} {r : VK} (h : a (σ.set i (some x)) H) : gName i x σ H (Ends.nx ⟨a, r, b, c⟩) := h
theorem nx {σ : L2.St} {H : Hp} {a b c : L2.St → Hp → Prop} {r : VK} (h : a σ H) : Ends.nx ⟨a, r, b, c⟩ σ H := h
theorem nxT {σ : L2.St} {H : Hp} {a b c : L2.St → Hp → Prop} {r : VK} (h : a σ H) : tNext ⟨a, r, b, c⟩ σ H := h
theorem catA_of {K : PySem.W.Frag} {H : Hp} {a b : Addr} {xs ys : List V} {Q : VK} (ha : SqT K H a xs) (hb : SqT K H b ys) (hz : xs.length + ys.length ≤ sizeLine) (q : ∀ p H', Same H H' → SqT K H' p (xs ++ ys) → Q (.ref p) H') : rCatA K (.ref a) (.ref b) H Q :=
  ⟨a, b, xs, ys, rfl, rfl, ha, hb, hz, fun e => q b H (Same.refl H) (by rw [e]; exact hb), fun _ e => q a H (Same.refl H) (by rw [e, List.append_nil]; exact ha), fun _ _ p np => q p _ (same_upd np _) (.inl (.inl upd_same))⟩
end VJ

set_option linter.all false
/-! small things -/
namespace VUt
open PySem PySem.Spec PyProof.Rows L2 LamX NdefX VB VM VP
theorem ite2b {b : Bool} {A B : Prop} (h1 : b = true → A) (h2 : b = false → B) : if b = true then A else B := by
  cases b
  · rw [if_neg (by decide)]; exact h2 rfl
  · rw [if_pos rfl]; exact h1 rfl
end VUt

set_option Elab.async false
set_option linter.all false
set_option maxRecDepth 100000
set_option maxHeartbeats 400000
namespace VDN
open PySem PySem.Spec PyProof.Rows L2 LamX NdefX VB
/-! dicts whose keys are nested tuples -/
abbrev NRow := NestedKey × Addr × V
/-- a row and what stands for it -/
def RowR (p : NRow) (q : NestedKey × Addr × Value) : Prop := p.1 = q.1 ∧ p.2.1 = q.2.1 ∧ RelV p.2.2 q.2.2
/-- the dict's own object -/
def Bare (P : Program) (w : World) (h : Heap) (a : Addr) (rows : List NRow) : Prop := rows.length ≤ sizeLine ∧ (a == sysModules) = false ∧ ∃ xs : List (NestedKey × Addr × Value), Paired RowR rows xs ∧
  ∃ o es ep, h.get? a = some o ∧ o.ExactDict ∧ o.data = .dict es ep ∧ es.toList = xs.map (entryOfKey (nestedKind P w)) ∧ (xs.map (·.1)).Nodup
def NdO (P : Program) (w : World) (a : Addr) (rows : List NRow) : HO := .ext fun h => Bare P w h a rows
theorem nd_ok {P : Program} {w : World} {H : Hp} {h : Heap} {a : Addr} {rows : List NRow} (M : Bare P w h a rows) : ObjOk P w H h a (NdO P w a rows) := by
  have ⟨_, _, _, _, o, _, _, ho, _⟩ := M
  refine ⟨M, ⟨o, ho⟩, fun h1 h2 p q => ?_⟩
  obtain ⟨p1, p2, xs, p3, o, es, ep, p4, p5⟩ := p
  exact ⟨p1, p2, xs, p3, o, es, ep, q _ p4, p5⟩
/-- the first value at a key -/
def valN (rows : List NRow) (k : NestedKey) : Option V := (rows.find? fun p => decide (p.1 = k)).map (·.2.2)
def putN (rows : List NRow) (k : NestedKey) (b : Addr) (v : V) : List NRow := if (valN rows k).isSome then rows.map (fun p => if p.1 = k then (p.1, p.2.1, v) else p) else rows ++ [(k, b, v)]
theorem valN_nil (k : NestedKey) : valN [] k = none := rfl
theorem valN_cons (p : NRow) (rows : List NRow) (k : NestedKey) : valN (p :: rows) k = if p.1 = k then some p.2.2 else valN rows k := by
  unfold valN
  by_cases h : p.1 = k
  · rw [List.find?_cons_of_pos (by simpa using h), if_pos h] <;> rfl
  · rw [List.find?_cons_of_neg (by simpa using h), if_neg h]
theorem valN_map (rows : List NRow) (k j : NestedKey) (v : V) : valN (rows.map fun p => if p.1 = k then (p.1, p.2.1, v) else p) j = if j = k then (valN rows j).map fun _ => v else valN rows j := by
  induction rows with
  | nil => rw [List.map_nil, valN_nil]; split <;> rfl
  | cons p rows ih =>
    rw [List.map_cons, valN_cons, valN_cons, ih]
    by_cases h1 : p.1 = k
    · rw [if_pos h1]
      by_cases h2 : p.1 = j
      · rw [if_pos h2, if_pos (h2.symm.trans h1), if_pos h2] <;> rfl
      · rw [if_neg h2, if_neg h2]
    · rw [if_neg h1]
      by_cases h2 : p.1 = j
      · rw [if_pos h2, if_pos h2, if_neg (fun e => h1 (h2.trans e))]
      · rw [if_neg h2, if_neg h2]
theorem valN_app (rows : List NRow) (p : NRow) (j : NestedKey) : valN (rows ++ [p]) j = (valN rows j).or (if p.1 = j then some p.2.2 else none) := by
  induction rows with
  | nil => rw [List.nil_append, valN_cons, valN_nil] <;> rfl
  | cons q rows ih =>
    rw [List.cons_append, valN_cons, valN_cons, ih]
    by_cases h : q.1 = j
    · rw [if_pos h, if_pos h] <;> rfl
    · rw [if_neg h, if_neg h]
theorem valN_put (rows : List NRow) (k j : NestedKey) (b : Addr) (v : V) : valN (putN rows k b v) j = if j = k then some v else valN rows j := by
  unfold putN
  by_cases h : (valN rows k).isSome = true
  · rw [if_pos h, valN_map]
    by_cases e : j = k
    · subst e
      obtain ⟨u, hu⟩ := Option.isSome_iff_exists.mp h
      rw [if_pos rfl, if_pos rfl, hu] <;> rfl
    · rw [if_neg e, if_neg e]
  · rw [if_neg h, valN_app]
    have hn : valN rows k = none := by
      cases e : valN rows k with
      | none => rfl
      | some u => rw [e] at h; exact absurd rfl h
    by_cases e : j = k
    · subst e
      rw [hn, if_pos rfl]
      rfl
    · rw [if_neg e, if_neg fun z => e z.symm]
      cases valN rows j <;> rfl
theorem putN_len (rows : List NRow) (k : NestedKey) (b : Addr) (v : V) : (putN rows k b v).length ≤ rows.length + 1 := by
  unfold putN
  split
  · rw [List.length_map]; omega
  · rw [List.length_append] <;> exact Nat.le_refl _
theorem rel_at {rows : List NRow} {xs : List (NestedKey × Addr × Value)} (r : Paired RowR rows xs) (k : NestedKey) : (valN rows k = none ∧ atKey xs k = none) ∨ ∃ v p, valN rows k = some v ∧ atKey xs k = some p ∧ RelV v p.2 := by
  induction r with
  | nil => exact .inl ⟨rfl, rfl⟩
  | @cons p q rows xs h t ih =>
    obtain ⟨h1, h2, h3⟩ := h
    have e : atKey (q :: xs) k = if q.1 = k then some q.2 else atKey xs k := by
      unfold atKey
      by_cases c : q.1 = k
      · rw [List.find?_cons_of_pos (by simpa using c), if_pos c] <;> rfl
      · rw [List.find?_cons_of_neg (by simpa using c), if_neg c]
    rw [valN_cons, e, h1]
    by_cases c : q.1 = k
    · rw [if_pos c, if_pos c]
      exact .inr ⟨_, _, rfl, rfl, h3⟩
    · rw [if_neg c, if_neg c]
      exact ih
theorem paired_app {α β : Type} {R : α → β → Prop} {a : List α} {b : List β} (r : Paired R a b) {x : α} {y : β} (h : R x y) : Paired R (a ++ [x]) (b ++ [y]) := by
  induction r with
  | nil => exact .cons h .nil
  | cons g _ ih => exact .cons g ih
theorem rel_put {rows : List NRow} {xs : List (NestedKey × Addr × Value)} (r : Paired RowR rows xs) (k : NestedKey) (b : Addr) {v : V} {u : Value} (rv : RelV v u) : Paired RowR (putN rows k b v) (storedH xs k b u) := by
  unfold putN storedH
  rcases rel_at r k with ⟨e1, e2⟩ | ⟨v', p, e1, e2, _⟩
  · rw [e1, e2, if_neg (by decide), if_neg (by decide)]
    exact paired_app r ⟨rfl, rfl, rv⟩
  · rw [e1, e2, if_pos (show (some v').isSome = true from rfl), if_pos (show (some p).isSome = true from rfl)]
    clear e1 e2
    induction r with
    | nil => exact .nil
    | @cons p q rows xs h t ih =>
      rw [List.map_cons, List.map_cons]
      refine .cons ?_ ih
      obtain ⟨h1, h2, h3⟩ := h
      unfold putAt
      rw [h1]
      by_cases c : q.1 = k
      · rw [if_pos c, if_pos c]; exact ⟨rfl, h2, rv⟩
      · rw [if_neg c, if_neg c]; exact ⟨h1, h2, h3⟩
/-! keys in the abstract heap -/
mutual
inductive NK (K : PySem.W.Frag) (H : Hp) : NestedKey → V → Prop
  | non : NK K H .none .non
  | int (i : Int) : NK K H (.num i) (.int i)
  | bl (b : Bool) : NK K H (.num (if b = true then 1 else 0)) (.bl b)
  | str (x : Str) : NK K H (.text x) (.str x)
  | tup {a : Addr} {vs : List V} {ks : List NestedKey} : SqT K H a vs → NKs K H ks vs → NK K H (.tup ks) (.ref a)
inductive NKs (K : PySem.W.Frag) (H : Hp) : List NestedKey → List V → Prop
  | nil : NKs K H [] []
  | cons {k : NestedKey} {v : V} {ks : List NestedKey} {vs : List V} : NK K H k v → NKs K H ks vs → NKs K H (k :: ks) (v :: vs)
end
mutual
theorem NK.kp {K : PySem.W.Frag} {H H' : Hp} (x : Kp H H') : ∀ {k : NestedKey} {v : V}, NK K H k v → NK K H' k v
  | _, _, .non => .non
  | _, _, .int i => .int i
  | _, _, .bl b => .bl b
  | _, _, .str s => .str s
  | _, _, .tup h t => .tup (x.sqT h) (NKs.kp x t)
theorem NKs.kp {K : PySem.W.Frag} {H H' : Hp} (x : Kp H H') : ∀ {ks : List NestedKey} {vs : List V}, NKs K H ks vs → NKs K H' ks vs
  | _, _, .nil => .nil
  | _, _, .cons h t => .cons (NK.kp x h) (NKs.kp x t)
end
section
variable {X : Cx} {pins : List (Addr × Obj)} {σ : L2.St} {H : Hp} {s : Shared}
mutual
theorem nk_is (I : Inv X pins σ H s) : ∀ {k : NestedKey} {v : V} {u : Value}, NK X.K H k v → RelV v u → NestedIs s.heap k u
  | _, _, _, .non, r => by cases r; exact .none
  | _, _, _, .int i, r => by obtain ⟨t, rfl⟩ := r; exact .int i t
  | _, _, _, .bl b, r => by cases r; exact .bool rfl
  | _, _, _, .str x, r => by obtain ⟨t, rfl⟩ := r; exact .text x t
  | _, _, _, .tup h t, r => by
    cases r
    obtain ⟨its, rv, ⟨o, ho, hc, n, hd⟩, _⟩ := I.tuple h
    exact .tup ho hc hd (by simpa using nks_are I t rv)
theorem nks_are (I : Inv X pins σ H s) : ∀ {ks : List NestedKey} {vs : List V} {us : List Value}, NKs X.K H ks vs → Vals vs us → NestedAll s.heap ks us
  | _, _, _, .nil, r => by cases r; exact .nil
  | _, _, _, .cons h t, r => by
    cases r with
    | cons r1 r2 => exact .cons (nk_is I h r1) (nks_are I t r2)
end
end
/-- the keys stand as tuples -/
def KeysN (K : PySem.W.Frag) (H : Hp) (rows : List NRow) : Prop := ∀ p ∈ rows, NK K H p.1 (.ref p.2.1) ∧ p.1.depth ≤ 8
theorem KeysN.kp {K : PySem.W.Frag} {H H' : Hp} {rows : List NRow} (h : KeysN K H rows) (x : Kp H H') : KeysN K H' rows := fun p hp => ⟨(h p hp).1.kp x, (h p hp).2⟩
theorem KeysN.put {K : PySem.W.Frag} {H : Hp} {rows : List NRow} (h : KeysN K H rows) {k : NestedKey} {b : Addr} (v : V) (hk : NK K H k (.ref b)) (hd : k.depth ≤ 8) : KeysN K H (putN rows k b v) := by
  intro p hp
  unfold putN at hp
  split at hp
  · obtain ⟨q, hq, rfl⟩ := List.mem_map.mp hp
    by_cases c : q.1 = k
    · rw [if_pos c]; exact h q hq
    · rw [if_neg c]; exact h q hq
  · rcases List.mem_append.mp hp with z | z
    · exact h p z
    · rw [List.mem_singleton.mp z]; exact ⟨hk, hd⟩
/-- what the dict at a holds at the key y -/
def NGet (P : Program) (w : World) (K : PySem.W.Frag) (H : Hp) (a : Addr) (y : V) (r : Option V) : Prop := ∃ rows k b, H a = some (NdO P w a rows) ∧ KeysN K H rows ∧ y = .ref b ∧ NK K H k (.ref b) ∧ k.depth ≤ 8 ∧ r = valN rows k
def NPut (P : Program) (w : World) (K : PySem.W.Frag) (H : Hp) (a : Addr) (y v : V) (H' : Hp) : Prop := ∃ rows k b, H a = some (NdO P w a rows) ∧ KeysN K H rows ∧ y = .ref b ∧ NK K H k (.ref b) ∧ k.depth ≤ 8 ∧ rows.length < sizeLine ∧ H' = upd H a (NdO P w a (putN rows k b v))
section
variable {X : Cx} {pins : List (Addr × Obj)} {σ : L2.St} {H : Hp} {s : Shared} {a : Addr} {y v : V} {u r : Value} {o : Option V} {A : Around} {E : Value → Shared → Prop} {rows : List NRow}
theorem nd_at (I : Inv X pins σ H s) (e : H a = some (NdO X.prog X.w a rows)) (kk : KeysN X.K H rows) : rows.length ≤ sizeLine ∧ (a == sysModules) = false ∧ ∃ xs, Paired RowR rows xs ∧ s.heap.DictOfH (nestedKind X.prog X.w) a xs := by
  obtain ⟨z, hd, xs, r, ob, es, ep, h1, h2, h3, h4, h5⟩ := (I.hok a _ e).1
  refine ⟨z, hd, xs, r, ob, es, ep, h1, h2, h3, h4, ?_, h5⟩
  clear h4 h5 e z
  induction r with
  | nil => exact fun x hx => absurd hx List.not_mem_nil
  | @cons p q rows xs h t ih =>
    intro x hx
    rcases List.mem_cons.mp hx with rfl | hx
    · obtain ⟨g1, g2, _⟩ := h
      have z := kk p List.mem_cons_self
      rw [g1, g2] at z
      exact ⟨nk_is I z.1 rfl, z.2⟩
    · exact ih (fun p' hp' => kk p' (List.mem_cons_of_mem _ hp')) x hx
theorem n_setItem {H' : Hp} {Q : Unit → Shared → Prop} (hu : A.units + 60 < cLine) (I : Inv X pins σ H s) (g : NPut X.prog X.w X.K H a y v H') (ry : RelV y u) (rv : RelV v r) (h : ∀ s', Inv X pins σ H' s' → Q () s') :
    wpAny (model X.prog X.w) A (setItem (.ref a) u r) Q E s := by
  obtain ⟨rows, k, b, e, kk, rfl, hk, dk, lr, rfl⟩ := g
  cases (show u = Value.ref b from ry)
  obtain ⟨z, hd, xs, rel, dd⟩ := nd_at I e kk
  have hz : xs.length ≤ sizeLine := by rw [← rel.length]; exact z
  have hl : (putN rows k b v).length ≤ sizeLine := by have := putN_len rows k b v; omega
  refine wpAny_setItem_heap (knd := nestedKind X.prog X.w) (hsz := hz) (by show A.units + _ + 8 < cLine; omega) ⟨nk_is I hk rfl, dk⟩ dd fun h' dd' hs => h _ ?_
  obtain ⟨q, es, ep, hq, h2, h3, h4, _, h5⟩ := dd'
  exact d_write I (by rw [e]; exact True.intro) hs ⟨q, hq⟩ (nd_ok ⟨hl, hd, _, rel_put rel k b rv, q, es, ep, hq, h2, h3, h4, h5⟩)
end
theorem un60 {k : Nat} {A : Around} (r : Room k A) : A.units + 60 < cLine := by have := r.un; omega
/-! as expressions and statements -/
section
variable {X : Cx} {P : Program} {w : World} {K : PySem.W.Frag} {o i e f value : Expr} {td ty tv tx : TE} {pos pos' apos cpos : Pos}
/-- d[y] -/
def tNGet (P : Program) (w : World) (K : PySem.W.Frag) (td ty : TE) : TE := fun σ H Q => td σ H fun x H1 => ty σ H1 fun y H2 => ∃ a v, x = .ref a ∧ NGet P w K H2 a y (some v) ∧ Q v H2
/-- y in d, y not in d -/
def tNIn (P : Program) (w : World) (K : PySem.W.Frag) (ty td : TE) : TE := fun σ H Q => ty σ H fun y H1 => td σ H1 fun x H2 => ∃ a o, x = .ref a ∧ NGet P w K H2 a y o ∧ Q (.bl o.isSome) H2
def tNNotIn (P : Program) (w : World) (K : PySem.W.Frag) (ty td : TE) : TE := fun σ H Q => ty σ H fun y H1 => td σ H1 fun x H2 => ∃ a o, x = .ref a ∧ NGet P w K H2 a y o ∧ Q (.bl (!o.isSome)) H2
/-- d[y] = v -/
def sNPut (P : Program) (w : World) (K : PySem.W.Frag) (td ty tv : TE) : TS := fun D σ H => tv σ H fun v H1 => td σ H1 fun x H2 => ty σ H2 fun y H3 => ∃ a H4, x = .ref a ∧ NPut P w K H3 a y v H4 ∧ D.nx σ H4
/-- {} -/
def tNNew (P : Program) (w : World) : TE := fun _ H Q => ∀ p, H p = none → Q (.ref p) (upd H p (NdO P w p []))
/-- d.get(y, z) -/
def tNGet2 (P : Program) (w : World) (K : PySem.W.Frag) (td ty tx : TE) : TE := fun σ H Q => td σ H fun x H1 => ∃ a rows, x = .ref a ∧ H1 a = some (NdO P w a rows) ∧ KeysN K H1 rows ∧ ty σ H1 fun y H2 => tx σ H2 fun z H3 => ∃ o, NGet P w K H3 a y o ∧ Q (o.getD z) H3
theorem n_notIn {pins : List (Addr × Obj)} {σ : L2.St} {H : Hp} {s : Shared} {a : Addr} {y : V} {r : Option V} {u : Value} {A : Around} {E : Value → Shared → Prop} {Q : Value → Shared → Prop} (hu : A.units + 60 < cLine) (I : Inv X pins σ H s) (g : NGet X.prog X.w X.K H a y r) (ry : RelV y u) (h : ∀ s', Inv X pins σ H s' → Q (.bool (!r.isSome)) s') :
    wpAny (model X.prog X.w) A (compareOp .NotIn u (.ref a)) Q E s := by
  obtain ⟨rows, k, b, e, kk, rfl, hk, dk, rfl⟩ := g
  cases (show u = Value.ref b from ry)
  obtain ⟨z, hd, xs, rel, dd⟩ := nd_at I e kk
  show wpAny _ _ (do return .bool (!(← contains (.ref a) (.ref b)))) Q E s
  refine wpAny_bind (wpAny_contains_heap (knd := nestedKind X.prog X.w) (by show A.units + _ + 8 < cLine; omega) ⟨nk_is I hk rfl, dk⟩ hd dd (wpAny_pure ?_))
  have q : (atKey xs k).isSome = (valN rows k).isSome := by
    rcases rel_at rel k with ⟨e1, e2⟩ | ⟨v', p, e1, e2, _⟩
    · rw [e1, e2] <;> rfl
    · rw [e1, e2] <;> rfl
  rw [q]
  exact h _ (I.tok _)
theorem pc_nnotin (hP : X.prog = P) (hw : X.w = w) (hK : X.K = K) (hu : X.A.units + 60 < cLine) (hi : PE X i ty) (ho : PE X o td) : PC X .NotIn i o (tNNotIn P w K ty td) := by
  subst hP hw hK
  refine ⟨fun pins s σ H Q I h => ?_⟩
  refine thn (hi.run pins s σ H _ I h) fun iv s1 ⟨y, H1, I1, ry, q1⟩ => thn (ho.run pins s1 σ H1 _ I1 q1) fun u s2 ⟨x, H2, I2, rx, a, ov, ex, g, q2⟩ => ?_
  subst ex
  obtain rfl : u = Value.ref a := rx
  exact n_notIn hu I2 g ry fun s3 I3 => ⟨.bl (!ov.isSome), H2, I3, rfl, q2⟩
theorem ps_nput (hP : X.prog = P) (hw : X.w = w) (hK : X.K = K) (hu : X.A.units + 60 < cLine) (ho : PE X o td) (hi : PE X i ty) (hv : PE X value tv) (hs : swapsWith value (some (.Subscript o i pos')) pos.line X.env = pure false) :
    PS X (.Assign [.Subscript o i pos'] value pos) (sNPut P w K td ty tv) := by
  subst hP hw hK
  refine ⟨fun pins s σ H D I h => ?_⟩
  refine wpAny_Assign_Subscript (thn (hv.run pins s σ H _ I h) fun r s1 ⟨v, H1, I1, rv, q1⟩ => thn (ho.run pins s1 σ H1 _ I1 q1) fun u s2 ⟨x, H2, I2, rx, q2⟩ => thn (hi.run pins s2 σ H2 _ I2 q2) fun iv s3 ⟨y, H3, I3, ry, a, H4, ex, g, q3⟩ => ?_) hs
  subst ex
  obtain rfl : u = Value.ref a := rx
  exact n_setItem hu I3 g ry rv fun s4 I4 => ⟨σ, H4, I4, q3⟩
theorem nd_empty (P : Program) (w : World) {H : Hp} (h : Heap) (hb : sysModules < h.objs.size) : ObjOk P w H (h.push { cls := .type "dict", data := .dict #[] }) h.objs.size (NdO P w h.objs.size []) :=
  nd_ok ⟨Nat.zero_le _, beq_eq_false_iff_ne.mpr (Ne.symm (Nat.ne_of_lt hb)), [], .nil, _, #[], 0, Heap.get?_push_size _ rfl, ⟨rfl, rfl, rfl⟩, rfl, rfl, List.nodup_nil⟩
theorem pe_nnew (hP : X.prog = P) (hw : X.w = w) : PE X (.Dict [] [] pos) (tNNew P w) := by
  subst hP hw
  exact ⟨fun pins s σ H Q I h => wpAny_Dict_empty ⟨.ref s.heap.objs.size, _, I.laid (a := s.heap.objs.size) (o := NdO X.prog X.w s.heap.objs.size []) (t' := s.toks) (fun _ _ q => Heap.get?_push_of_some _ q) (Nat.le_refl _) (nd_empty _ _ s.heap I.big), rfl, h _ (I.hok.fresh (Nat.le_refl _))⟩⟩
end
/-- len(d) -/
def rLenN (P : Program) (w : World) (K : PySem.W.Frag) : List V → Hp → VK → Prop := fun xs H Q => ∃ (p : Addr) (rows : List NRow), xs = [.ref p] ∧ H p = some (NdO P w p rows) ∧ KeysN K H rows ∧ Q (.int ((rows.length : Nat) : Int)) H
theorem lenN {X : Cx} {P : Program} {w : World} {K : PySem.W.Frag} (hP : X.prog = P) (hw : X.w = w) (hK : X.K = K) : CallR X (.builtin "len") (rLenN P w K) := by
  subst hP hw hK
  intro pins s σ H xs us Q I r h
  obtain ⟨p, rows, rfl, e, kk, q⟩ := h
  rw [Vals.ref1 r]
  obtain ⟨z, hd, ys, rel, dd⟩ := nd_at I e kk
  have hl := rel.length
  refine call_len_dictH hd dd (by rw [← hl]; rw [sizeLine_eq] at z; omega) ⟨_, H, I.tok _, ?_, q⟩
  exact ⟨_, by rw [hl]⟩
/-- a dict of this kind is neither list nor tuple -/
theorem nd_lst {P : Program} {w : World} {a : Addr} {rows : List NRow} {xs : List V} : HO.lst xs ≠ NdO P w a rows := fun z => by unfold NdO at z; cases z
theorem nd_tup {P : Program} {w : World} {a : Addr} {rows : List NRow} {xs : List V} : HO.tup xs ≠ NdO P w a rows := fun z => by unfold NdO at z; cases z
theorem nd_frz {P : Program} {w : World} {a : Addr} {rows : List NRow} {o : Obj} {u : HO} : HO.frz o u ≠ NdO P w a rows := fun z => by unfold NdO at z; cases z
theorem kp_nd {P : Program} {w : World} {H : Hp} {a : Addr} {rows : List NRow} (e : H a = some (NdO P w a rows)) (o : HO) : Kp H (upd H a o) :=
  ⟨fun c xs h => by rw [upd_ne (ne_of h e nd_tup)]; exact h, fun c q u h => by rw [upd_ne (ne_of h e nd_frz)]; exact h⟩
end VDN

set_option Elab.async false
set_option linter.all false
set_option maxRecDepth 100000
set_option maxHeartbeats 4000000
namespace VDT
open PySem PySem.Spec PyProof.Rows L2 LamX NdefX VB VM
/-! dict comprehensions, whatever the keys are: what a new dict is, and what a store does, are told apart -/
/-- a kind of dicts: the new one, what a store leaves -/
structure DK (P : Program) (w : World) (K : PySem.W.Frag) (u : Nat) where
  new : Addr → HO
  put : Hp → Addr → V → V → Hp → Prop
  fresh : ∀ (H : Hp) (h : Heap), sysModules < h.objs.size → ObjOk P w H (h.push { cls := .type "dict", data := .dict #[] }) h.objs.size (new h.objs.size)
  store : ∀ {X : Cx} {pn : List (Addr × Obj)} {σ : L2.St} {H H' : Hp} {s : Shared} {E : Value → Shared → Prop} {D : Addr} {y z : V} {uy uz : Value} {Q : Unit → Shared → Prop}, X.prog = P → X.w = w → X.K = K → X.A.units + u < cLine → Inv X pn σ H s → put H D y z H' → RelV y uy → RelV z uz →
    (∀ s', Inv X pn σ H' s' → Q () s') → wpAny (model X.prog X.w) X.A (dictSet D uy uz) Q E s
/-- keys that are tuples of ints and texts -/
def tups (P : Program) (w : World) (K : PySem.W.Frag) : DK P w K 1 where
  new := fun _ => .dT []
  put := fun H D y z H' => ∃ kvs k b, y = .ref b ∧ H b = some (.tup (k.map kV)) ∧ H D = some (.dT kvs) ∧ kvs.length < sizeLine ∧ H' = upd H D (.dT (putK kvs k z))
  fresh := fun H h hb => dt_empty h hb
  store := by
    intro X pn σ H H' s E D y z uy uz Q hP hw hK hu I hp ry rz fin
    subst hP hw hK
    obtain ⟨kvs, k, b, rfl, hb, hD, few, rfl⟩ := hp
    cases (show uy = Value.ref b from ry)
    obtain ⟨len, low, xs, kt, dh⟩ := dt_of I.hok hD
    have l1 : xs.length ≤ sizeLine := by rw [← Paired.length kt]; exact len
    have l2 : (putK kvs k z).length ≤ sizeLine := by have := length_putK kvs k z; omega
    refine wpAny_dictSet_heap (hsz := l1) (show X.A.units < cLine by omega) (key_of I.hok hb) dh fun h' dh' sb => fin _ ?_
    · obtain ⟨q, es, ep, hq, g1, g2, g3, _, g4⟩ := dh'
      refine d_write I (by rw [hD]; exact True.intro) sb ⟨q, hq⟩ ⟨l2, low, _, (kt.put k hb rz).keeps fun c ys ec => ?_, q, es, ep, hq, g1, g2, g3, g4⟩
      rw [upd_ne (ne_of ec hD (fun z => nomatch z))]
      exact ec
/-- keys that are nested tuples -/
def nests (P : Program) (w : World) (K : PySem.W.Frag) : DK P w K 60 where
  new := fun a => VDN.NdO P w a []
  put := VDN.NPut P w K
  fresh := fun H h hb => VDN.nd_empty P w h hb
  store := by
    intro X pn σ H H' s E D y z uy uz Q hP hw hK hu I hp ry rz fin
    subst hP hw hK
    obtain ⟨rows, k, b, e, kk, rfl, hk, dk, lr, rfl⟩ := hp
    cases (show uy = Value.ref b from ry)
    obtain ⟨len, low, xs, rel, dd⟩ := VDN.nd_at I e kk
    have l1 : xs.length ≤ sizeLine := by rw [← rel.length]; exact len
    have l2 : (VDN.putN rows k b z).length ≤ sizeLine := by have := VDN.putN_len rows k b z; omega
    refine wpAny_dictSet_heap (knd := nestedKind X.prog X.w) (hsz := l1) (by show X.A.units + _ < cLine; omega) ⟨VDN.nk_is I hk rfl, dk⟩ dd fun h' dd' sb => fin _ ?_
    obtain ⟨q, es, ep, hq, g1, g2, g3, _, g4⟩ := dd'
    exact d_write I (by rw [e]; exact True.intro) sb ⟨q, hq⟩ (VDN.nd_ok ⟨l2, low, _, VDN.rel_put rel k b rz, q, es, ep, hq, g1, g2, g3, g4⟩)
/-- the reading: {k: v for target in walked if ..} -/
def tDcG (o0 : Addr → HO) (Put : Hp → Addr → V → V → Hp → Prop) (ti : TI) (tg : TG) (tc : TT) (ty tz : TE) (own : List Nat) : TE := fun σ H Q => ti σ H fun J H1 => ∀ D, H1 D = none →
  ∃ W : Nat → Nat → Hp → Prop, (∃ m, W 0 m (upd H1 D (o0 D))) ∧ ∀ i m H', W i m H' → (J.stop i H' ∧ Q (.ref D) H') ∨ (J.go i H' ∧ ∃ Nx : Hp → Prop, (∀ G, Nx G → ∃ m', m' < m ∧ W (i + 1) m' G) ∧
    ∀ x G, J.yld i H' x G → tg x (wipe σ own) G fun τ G2 => wipe τ own = wipe σ own ∧ tc τ G2 fun b G3 => if b = true then ty τ G3 fun y G4 => tz τ G4 fun z G5 => ∃ G6, Put G5 D y z G6 ∧ Nx G6 else Nx G3)
section
variable {X : Cx} {P : Program} {w : World} {K : PySem.W.Frag} {u : Nat}
abbrev Blk (X : Cx) (sc : Scope) (r : Cx → Prop) : Prop := ∀ (s : Shared) (H : Hp) (C : Addr) (cl : List (Str × Addr)) (fp : List Addr), r (X.blk s H sc (compEnvC sc cl C X.env) fp)
end
section
variable {K : PySem.W.Frag} {a : Addr} {xs : List V} {tg : TG} {tc : TT} {ty tz : TE} {own : List Nat} {σ : L2.St} {H1 : Hp} {D : Addr} {Qd : Hp → Prop} {o0 : Addr → HO} {Put : Hp → Addr → V → V → Hp → Prop}
/-- over a tuple that stays -/
theorem tup (Pv : Nat → Hp → Prop) (h0 : Pv 0 (upd H1 D (o0 D))) (hl : ∀ i H, i ≤ xs.length → Pv i H → SqT K H a xs)
    (hs : ∀ i x H, xs[i]? = some x → Pv i H → tg x (wipe σ own) H fun τ G2 => wipe τ own = wipe σ own ∧ tc τ G2 fun b G3 => if b = true then ty τ G3 fun y G4 => tz τ G4 fun z G5 => ∃ G6, Put G5 D y z G6 ∧ Pv (i + 1) G6 else Pv (i + 1) G3) (hd : ∀ H, Pv xs.length H → Qd H) :
    ∃ W : Nat → Nat → Hp → Prop, (∃ m, W 0 m (upd H1 D (o0 D))) ∧ ∀ i m H', W i m H' → ((Itt K a).stop i H' ∧ Qd H') ∨ ((Itt K a).go i H' ∧ ∃ Nx : Hp → Prop, (∀ G, Nx G → ∃ m', m' < m ∧ W (i + 1) m' G) ∧
      ∀ x G, (Itt K a).yld i H' x G → tg x (wipe σ own) G fun τ G2 => wipe τ own = wipe σ own ∧ tc τ G2 fun b G3 => if b = true then ty τ G3 fun y G4 => tz τ G4 fun z G5 => ∃ G6, Put G5 D y z G6 ∧ Nx G6 else Nx G3) := by
  refine ⟨fun i m H => i + m = xs.length ∧ Pv i H, ⟨xs.length, Nat.zero_add _, h0⟩, ?_⟩
  rintro i m H ⟨e, p⟩
  have q := hl i H (by omega) p
  by_cases lt : i < xs.length
  · refine .inr ⟨⟨xs, xs[i], q, by simp [lt]⟩, Pv (i + 1), fun G p' => ⟨m - 1, by omega, by omega, p'⟩, fun x G y => ?_⟩
    obtain ⟨rfl, y⟩ := y
    exact hs i x _ (y xs q) p
  · obtain rfl : i = xs.length := by omega
    exact .inl ⟨⟨xs, q, Nat.le_refl _⟩, hd H p⟩
/-- over a list that stays -/
theorem lst (Pv : Nat → Hp → Prop) (h0 : Pv 0 (upd H1 D (o0 D))) (hl : ∀ i H, i ≤ xs.length → Pv i H → SqL K H a xs)
    (hs : ∀ i x H, xs[i]? = some x → Pv i H → tg x (wipe σ own) H fun τ G2 => wipe τ own = wipe σ own ∧ tc τ G2 fun b G3 => if b = true then ty τ G3 fun y G4 => tz τ G4 fun z G5 => ∃ G6, Put G5 D y z G6 ∧ Pv (i + 1) G6 else Pv (i + 1) G3) (hd : ∀ H, Pv xs.length H → Qd H) :
    ∃ W : Nat → Nat → Hp → Prop, (∃ m, W 0 m (upd H1 D (o0 D))) ∧ ∀ i m H', W i m H' → ((Itl K a).stop i H' ∧ Qd H') ∨ ((Itl K a).go i H' ∧ ∃ Nx : Hp → Prop, (∀ G, Nx G → ∃ m', m' < m ∧ W (i + 1) m' G) ∧
      ∀ x G, (Itl K a).yld i H' x G → tg x (wipe σ own) G fun τ G2 => wipe τ own = wipe σ own ∧ tc τ G2 fun b G3 => if b = true then ty τ G3 fun y G4 => tz τ G4 fun z G5 => ∃ G6, Put G5 D y z G6 ∧ Nx G6 else Nx G3) := by
  refine ⟨fun i m H => i + m = xs.length ∧ Pv i H, ⟨xs.length, Nat.zero_add _, h0⟩, ?_⟩
  rintro i m H ⟨e, p⟩
  have q := hl i H (by omega) p
  by_cases lt : i < xs.length
  · refine .inr ⟨⟨xs, xs[i], q, by simp [lt]⟩, Pv (i + 1), fun G p' => ⟨m - 1, by omega, by omega, p'⟩, fun x G y => ?_⟩
    obtain ⟨rfl, y⟩ := y
    exact hs i x _ (y xs q) p
  · obtain rfl : i = xs.length := by omega
    exact .inl ⟨⟨xs, q, Nat.le_refl _⟩, hd H p⟩
end
section
variable {X : Cx} {ek ev : Expr} {pos : Pos} {ty tz : TE}
/-- {k: v}, k a tuple of ints and texts -/
def tDisp1 (ty tz : TE) : TE := fun σ H Q => ∀ D, H D = none → ty σ (upd H D (.dT [])) fun y H1 => tz σ H1 fun z H2 => ∃ (k : List Key) (b : Addr), y = .ref b ∧ H2 b = some (.tup (k.map kV)) ∧ H2 D = some (.dT []) ∧ Q (.ref D) (upd H2 D (.dT [(k, z)]))
end
end VDT

set_option Elab.async false
set_option linter.all false
namespace VKV
open PySem PySem.Spec PyProof.Rows L2
/-! dicts as lists of pairs: keys, places, stores -/
section
variable {κ : Type} [DecidableEq κ]
theorem valV_cons (a : κ × V) (r : List (κ × V)) (k : κ) : valV (a :: r) k = if a.1 = k then some a.2 else valV r k := by
  by_cases e : a.1 = k
  · rw [if_pos e, valV_pos e]
  · rw [if_neg e, valV_neg e]
end
end VKV
namespace VKV
open PySem PySem.Spec PyProof.Rows L2 LamX NdefX VB
/-- a def of which nothing is raised, its body told without what leaves it -/
theorem ok0 {P : Program} {w : World} {K : PySem.W.Frag} {mg : Str → Option Value} {base : Heap} {m qual : Str} {st : Stmt} {f : Addr} {fd : FuncData} {N ps : List Str} {k : Nat} {sp : Sp} (F : FunD K m qual (defArgs st) (defBody st) (defScope st) [] [] f fd) (S : FnScope N ps (defScope st))
    (len : ∀ vs H Q E, sp vs H Q E → vs.length = ps.length)
    (hbody : ∀ (cdv : Value) (A : Around) (outer : List Env) (s : Shared) (H : Hp) (vs : List V) (Q : VK) (E : XK),
      Room k (A.deeper (envOfC qual (defScope st) s.heap.objs.size f cdv)) → sp vs H Q E →
      ∃ t, PSs (cxOf CX0 P w K mg base N qual (defScope st) f cdv A outer s H E).nox (defBody st) t ∧ t { nx := fun _ H' => Q .non H', rt := Q } (start N vs) H) :
    FnOk P w K mg base CX0 (k + 1) f fd ps sp :=
  F.ok S len fun cdv A outer s H vs Q E hr h => by
    obtain ⟨t, a, b⟩ := hbody cdv A outer s H vs Q E hr h
    exact ⟨t, a.nox, b⟩
end VKV
namespace VKV
open PySem PySem.Spec PyProof.Rows L2 LamX NdefX VB
end VKV

set_option Elab.async false
set_option linter.all false
set_option maxRecDepth 100000
set_option maxHeartbeats 400000
namespace VL
open PySem PySem.Spec PyProof.Rows L2 LamX NdefX VB VM VI
/-! enumerate of a list, from a start -/
/-- pairs of a number and an item of the list at a, the numbers from c on -/
def Itm (K : PySem.W.Frag) (c : Int) (a : Addr) : It where
  go := fun i H => ∃ (xs : List V) (x : V), SqL K H a xs ∧ xs[i]? = some x
  yld := fun i H v H' => ∃ T x, v = .ref T ∧ H T = none ∧ H' = upd H T (.tup [.int (c + (i : Nat)), x]) ∧ ∀ xs, SqL K H a xs → xs[i]? = some x
  stop := fun i H => ∃ xs : List V, SqL K H a xs ∧ xs.length ≤ i
def iEnS (K : PySem.W.Frag) (ta tk : TA) : TI := fun σ H R => ta σ H fun vs H1 => tk σ H1 fun zs H2 => ∃ a xs c, vs = [.ref a] ∧ zs = [.int c] ∧ -(2 ^ 62) ≤ c ∧ c < 2 ^ 62 ∧ SqL K H2 a xs ∧ R (Itm K c a) H2
/-! a dict of the written part: its keys in order -/
def KList (K : PySem.W.Frag) (w : World) (d : Addr) (ks : List Str) : Prop := ∃ es n, KDict K w d es n ∧ es.toList.map He.keyOf = He.keysIn w.params ks
theorem KList.get {P : Params} {es : List DictEntry} : ∀ {ks : List Str}, es.map He.keyOf = He.keysIn P ks → ∀ {i : Nat} {e : DictEntry}, es[i]? = some e → ∃ x t, ks[i]? = some x ∧ e.key = .str x t := by
  intro ks h i e he
  have h1 : (es.map He.keyOf)[i]? = some (He.keyOf e) := by rw [List.getElem?_map, he] <;> rfl
  rw [h] at h1
  unfold He.keysIn at h1
  rw [List.getElem?_map] at h1
  obtain ⟨x, hx, ex⟩ := Option.map_eq_some_iff.mp h1
  unfold He.keyOf at ex
  split at ex
  · rename_i y t q
    have z := (Prod.mk.inj (Option.some.inj ex)).1
    exact ⟨x, t, hx, by rw [q, z]⟩
  · cases ex
def Itkd (ks : List Str) : It where
  go := fun i _ => i < ks.length
  yld := fun i H v H' => H' = H ∧ ∃ x, ks[i]? = some x ∧ v = .str x
  stop := fun i _ => ks.length ≤ i
def iKd (K : PySem.W.Frag) (w : World) (te : TE) : TI := fun σ H R => te σ H fun x H1 => ∃ d ks, x = .ref d ∧ KList K w d ks ∧ R (Itkd ks) H1
/-- x in d, d[x] for such a dict -/
def rInK (K : PySem.W.Frag) (w : World) : R2 := fun x y H Q => ∃ (d : Addr) (z : Str) (r : Option Value) (es : Array DictEntry) (n : Nat), x = .str z ∧ y = .ref d ∧ KDict K w d es n ∧ PySem.W.nsIn K d z = some r ∧ Q (.bl r.isSome) H
theorem keys_find {P : Params} {name : Str} : ∀ {es : List DictEntry} {ks : List Str}, es.map He.keyOf = He.keysIn P ks →
    (es.find? fun x => x.key.isStr name).isSome = decide (name ∈ ks) ∧ (es.any fun x => x.refKey) = false
  | [], [], _ => ⟨rfl, rfl⟩
  | [], k :: ks, h => by cases h
  | e :: es, [], h => by cases h
  | e :: es, k :: ks, h => by
    have h2 : He.keyOf e :: es.map He.keyOf = some (k, PyData.keyHash P k) :: He.keysIn P ks := h
    obtain ⟨h0, h1⟩ := List.cons.inj h2
    obtain ⟨i1, i2⟩ := keys_find (name := name) h1
    obtain ⟨t, ek⟩ : ∃ t, e.key = .str k t := by
      unfold He.keyOf at h0
      split at h0
      · rename_i y t q
        have z := (Prod.mk.inj (Option.some.inj h0)).1
        exact ⟨t, by rw [q, z]⟩
      · cases h0
    have b : e.key.isStr name = (k == name) := by rw [ek] <;> rfl
    refine ⟨?_, ?_⟩
    · rw [List.find?_cons, b]
      by_cases q : k = name
      · subst q
        simp
      · have q2 : (k == name) = false := beq_eq_false_iff_ne.mpr q
        have q3 : ¬ name = k := fun z => q z.symm
        rw [q2]
        simp only [i1, List.mem_cons]
        simp [q3]
    · rw [List.any_cons, i2, Bool.or_false]
      unfold DictEntry.refKey
      rw [ek]
theorem KList.has {K : PySem.W.Frag} {w : World} {d : Addr} {ks : List Str} (h : KList K w d ks) (z : Str) : ∃ es n r, KDict K w d es n ∧ PySem.W.nsIn K d z = some r ∧ r.isSome = decide (z ∈ ks) := by
  obtain ⟨es, n, D, hk⟩ := h
  obtain ⟨h1, h2⟩ := keys_find (name := z) hk
  unfold PySem.W.nsIn
  rw [D.at_]
  cases e : es.toList.find? fun x => x.key.isStr z with
  | some q =>
    rw [e] at h1
    exact ⟨es, n, some q.val, D, by simp only [e], h1⟩
  | none =>
    rw [e] at h1
    exact ⟨es, n, none, D, by simp only [e, h2]; rfl, h1⟩
/-- join, where the written part is to be named -/
def rJoinK (K : PySem.W.Frag) : V → List V → Hp → VK → Prop := fun x xs H Q => ∃ a p, ∃ ys : List Str, x = .str a ∧ xs = [.ref p] ∧ (SqL K H p (ys.map V.str) ∨ SqT K H p (ys.map V.str)) ∧ (ys.map (·.length)).sum + ys.length * a.length ≤ 16777216 ∧ Q (.str (Txt.join a ys)) H
end VL

set_option Elab.async false
set_option linter.all false
set_option maxRecDepth 100000
set_option maxHeartbeats 4000000
namespace VY
open PySem PySem.Spec PyProof.Rows L2 LamX NdefX VB VC
/-! what leaves by an exception, cells locked and opened -/
section
variable {P : Program} {w : World} {H H1 H' : Hp} {h B h' : Heap} {cl : List (Str × Addr)} {fr : List Str} {ws : List (Option V)} {fs : List Addr}
end
/-! a value that may be called and may raise -/
structure VCallX (P : Program) (w : World) (K : PySem.W.Frag) (mg : Str → Option Value) (base : Heap) (k : Nat) (f : Addr) (φ : Hp → Prop) (sp : Sp) : Prop where
  fn : ∀ (h : Heap) (H : Hp), HOk P w H h → K.In h → φ H → PySem.W.FnAt f h
  run : ∀ (A : Around) (outer : List Env) (s : Shared) (H : Hp) (us : List Value) (vs : List V) (Q : VK) (E : XK), Room k A →
    Env0 P w K mg base A outer s H → φ H → Vals vs us → sp vs H Q E →
    codeAny (model P w) A (.call (.ref f) ⟨us, []⟩) (CR (L2.CX P w) outer P w H s Q E) s
section
variable {P : Program} {w : World} {K : PySem.W.Frag} {mg : Str → Option Value} {base : Heap} {N ps fr : List Str} {F : NF} {b : Expr} {f : Addr} {k : Nat} {sp : Sp} {ws : List (Option V)}
/-- what does not raise -/
theorem VCallX.of {φ : Hp → Prop} (c : VA.VCall P w K mg base k f φ sp) : VCallX P w K mg base k f φ sp :=
  ⟨c.fn, fun A outer s H us vs Q E hr e0 hf r q => codeAny_mono (c.run A outer s H us vs Q E hr e0 hf r q) fun r s' z => by
    cases r with
    | error e => exact z.elim
    | ok fl => cases fl <;> exact z⟩
end
section
variable {X : Cx} {k j i : Nat} {x : Str} {sp : Sp} {W : WX} {p pos : Pos} {e : Expr} {es : List Expr} {t : TA} {cl : List (Str × Addr)} {fr : List Str} {js : List Nat}
/-- x(..), x a name that holds a function value; it may raise -/
def tCallValX (P : Program) (w : World) (K : PySem.W.Frag) (mg : Str → Option Value) (base : Heap) (k i : Nat) (W : WX) (t : TA) : TE := fun σ H Q =>
  ∃ (f : Addr) (φ : Hp → Prop) (sp : Sp), σ[i]? = some (some (.ref f)) ∧ VCallX P w K mg base k f φ sp ∧ φ H ∧ t σ H fun vs H1 => φ H1 ∧ sp vs H1 Q (WE W σ)
/-- g(..), cells locked while it runs; it may raise -/
def tCallLkX (cl : List (Str × Addr)) (fr : List Str) (js : List Nat) (sp : Sp) (W : WX) (t : TA) : TE := fun σ H Q => t σ H fun vs H1 => ∀ H2, Lock cl fr (js.map (slotAt σ)) H1 H2 → sp vs H2 (fun v H' => Q v (open_ cl H')) fun cls d H' => W cls d σ (open_ cl H')
end
/-! own exceptions with one field: class X(Base): def __init__(self, f): Base.__init__(self, ..); self.f = f -/
/-- the base class as a name of the text -/
structure BaseX (K : PySem.W.Frag) (mg : Str → Option Value) (x : Str) (C : Addr) : Prop where
  at_ : mg x = some (.ref C)
  rd : PySem.W.readsIn K C (.type "type") = true
  ga : PySem.W.specialIn K (.ref C) "__getattribute__" = some (some (.builtin "type.__getattribute__"))
  ini : PySem.W.findCls K (.ref C) (.type "type") "__init__" = some (.val (.builtin "ValueError.__init__"))
section
variable {X : Cx} {x : Str} {C : Addr} {e : Expr} {es : List Expr} {ta : TA} {p1 p2 pos : Pos} {pl : Sem Bool}
end
/-- what such a field may be: a text or a number -/
def OkF (v : V) : Prop := (∃ y : Str, v = .str y ∧ y.length ≤ 100000) ∨ ∃ i : Int, v = .int i ∧ i.natAbs < 2 ^ 64
/-- the promise of such an __init__ -/
def spXini (K : PySem.W.Frag) (C : Addr) (f : Str) : Sp := fun vs H Q _ => ∃ (a : Addr) (v : V), vs = [.ref a, v] ∧ OkF v ∧ H a = some (exo a C none) ∧ ∀ d, H d = none → d ≠ a → Q .non (upd (upd H d (exd d [(f, v)])) a (exo a C (some d)))
/-- an own class with an __init__ of its own, under its name -/
structure OwnI (K : PySem.W.Frag) (mg : Str → Option Value) (x : Str) (C : Addr) : Prop where
  at_ : mg x = some (.ref C)
  te : PySem.W.exmOne K (.ref C) (.ref C) = some true
/-- the class under its name -/
structure OwnF (P : Program) (w : World) (K : PySem.W.Frag) (mg : Str → Option Value) (base : Heap) (x : Str) (C : Addr) (f : Str) : Prop where
  own : OwnI K mg x C
  o : OexC K C
  xf : XfC K C
  no : PySem.W.findIn K (.ref C) f = some none
  ini : ∃ (fI : Addr) (fd : FuncData) (ps : List Str), PySem.W.findIn K (.ref C) "__init__" = some (some (.ref fI)) ∧ PySem.W.typeIn K (.ref fI) = some (.type "function") ∧ FnOk P w K mg base CX0 1 fI fd ps (spXini K C f) ∧ Binds K fd ps []
def tRaiseF (C : Addr) (f : Str) (W : WX) (ta : TA) : TS := fun _ σ H => ta σ H fun vs H1 => ∃ v, vs = [v] ∧ OkF v ∧ ∀ d, H1 d = none → W (.ref C) (some d) σ (upd H1 d (.xd [(f, v)]))
end VY

set_option Elab.async false
set_option linter.all false
set_option maxRecDepth 100000
set_option maxHeartbeats 4000000
namespace VF
open PySem PySem.Spec PyProof.Rows L2 LamX NdefX VB VM
/-! try with several clauses, some of them with a name -/
def asD (o : Option Nat) (D : Ends) : Ends := match o with
  | none => D
  | some i => ⟨fun t G => D.nx (t.set i none) G, D.rt, fun t G => D.bk (t.set i none) G, fun t G => D.ct (t.set i none) G⟩
def asS (o : Option Nat) (σ : L2.St) (a : Addr) : L2.St := match o with
  | none => σ
  | some i => σ.set i (some (.ref a))
abbrev Cl := Value × Option Nat × (Addr → Value → Option Addr → TS)
/-- what the clauses ask of an exception, one after the other -/
def wMix (K : PySem.W.Frag) (Wout : WX) (D : Ends) : List Cl → WX
  | [] => Wout
  | (c, o, ts) :: r => fun cls d σ H => ∃ b, PySem.W.exmOne K cls c = some b ∧ (b = true → ∀ a, H a = none → ts a cls d (asD o D) (asS o σ a) H) ∧ (b = false → wMix K Wout D r cls d σ H)
inductive ClsOk (X : Cx) : List ExceptHandler → List Cl → Prop
  | nil : ClsOk X [] []
  | cons {x : Str} {nm : Option Str} {c : Value} {o : Option Nat} {ts : Addr → Value → Option Addr → TS} {b0 : Stmt} {bs : List Stmt} {np q : Pos} {hs : List ExceptHandler} {l : List Cl} (hc : Names X x c)
      (hn : (nm = none ∧ o = none) ∨ ∃ n i, nm = some n ∧ o = some i ∧ X.N.Nodup ∧ X.N[i]? = some n ∧ X.env.kindOf n = some .local)
      (hb : ∀ (a : Addr) (ob : Obj) (cls : Value) (d : Option Addr) (pn : List (Addr × Obj)), L2.Zc cls d ob → (∃ fs, ob.data = .fields fs) → PSs (X.suite a ((a, ob) :: pn)) (b0 :: bs) (ts a cls d)) (r : ClsOk X hs l) :
      ClsOk X (.ExceptHandler (some (.Name x np)) nm (b0 :: bs) q :: hs) ((c, o, ts) :: l)
/-! calls with keywords -/
structure CalK (P : Program) (w : World) (K : PySem.W.Frag) (mg : Str → Option Value) (base : Heap) (CX : CXT) (k : Nat) (x : Str) (n : Nat) (ks : List Str) (sp : Sp) : Prop where
  ex : ∃ (f : Addr) (fd : FuncData) (ps : List Str), FnOk P w K mg base CX k f fd ps sp ∧ mg x = some (.ref f) ∧ PySem.W.keepIn K (.ref f) = true ∧ KBn K fd ps n ks (fun us ws => us ++ ws) (fun vs zs => vs ++ zs)
def tCallK (n m : Nat) (sp : Sp) (E : L2.St → XK) (t tk : TA) : TE := fun σ H Q => t σ H fun vs H1 => tk σ H1 fun zs H2 => vs.length = n ∧ zs.length = m ∧ sp (vs ++ zs) H2 Q (E σ)
section
variable {X : Cx} {k j n : Nat} {x : Str} {sp : Sp} {W : WX} {p pos : Pos} {e : Expr} {es : List Expr} {ks : List Str} {kws : List Keyword} {t tk : TA}
end
/-! what the top must show of an own class of exceptions with an __init__ -/
def shB (K : PySem.W.Frag) (C : Addr) : Bool := match K.lookup C with
  | some ⟨.type "type", _, .cls cd, sl⟩ => (match cd.mro, sl.toList with
    | .ref C' :: bm, [_, _, _, _, some (.builtin n), _] => decide (C' = C) && (decide (n = "ValueError.__new__") && (!cd.hasDel && (cd.hasDict && PySem.HandSPX.refsVE bm)))
    | _, _ => false)
  | _ => false
def oexB (K : PySem.W.Frag) (C : Addr) (f : Str) (fI : Addr) : Bool := shB K C && (decide (PySem.W.findIn K (.ref C) "__setattr__" = some (some (.builtin "object.__setattr__"))) && (decide (PySem.W.subIn K (.ref C) (.type "BaseException") = some true) &&
  (decide (PySem.W.typeIn K (.ref C) = some (.type "type")) && (PySem.W.keepIn K (.ref C) && (xfB K C && (decide (PySem.W.findIn K (.ref C) f = some none) && (decide (PySem.W.findIn K (.ref C) "__init__" = some (some (.ref fI))) && decide (PySem.W.typeIn K (.ref fI) = some (.type "function")))))))))
def baseB (K : PySem.W.Frag) (C : Addr) : Bool := PySem.W.readsIn K C (.type "type") && (decide (PySem.W.specialIn K (.ref C) "__getattribute__" = some (some (.builtin "type.__getattribute__"))) && (match PySem.W.findCls K (.ref C) (.type "type") "__init__" with
    | some (.val (.builtin n)) => decide (n = "ValueError.__init__")
    | _ => false))
end VF

set_option Elab.async false
set_option linter.all false
set_option maxRecDepth 100000
set_option maxHeartbeats 400000
/-! sorted(xs, key=f), f any def or lambda that answers data (tuples too) and leaves what it found -/
namespace VKS
open PySem PySem.Spec PyProof.Rows L2 LamX NdefX VB PySem.W VKY
section
variable {P : Program} {w : World} {fs : List Addr} {H0 H1 H2 Hc : Hp} {h0 h1 h2 h h' : Heap} {x y : Addr}
/-- what was untracked has not changed; H0 has grown to Hc, and Hc is there -/
structure FarG (P : Program) (w : World) (fs : List Addr) (H0 Hc : Hp) (h0 h : Heap) : Prop where
  un : Un fs [] H0 Hc h0 h
  ok : HOk P w Hc h
  same : Same H0 Hc
theorem un_id {H : Hp} (k : ∀ b u, h.get? b = some u → h'.get? b = some u) : Un fs [] H H h h' :=
  ⟨fun b o e _ _ _ => k b o e, fun b o e _ _ _ => ⟨o.slots, k b o e⟩, fun b o e n _ => n, fun b o e _ => ⟨o, k b o e⟩, fun _ _ z => z, fun _ _ _ z => z, fun b ps z => ⟨#[], by rw [Array.append_empty]; exact z⟩⟩
theorem FarG.refl {H : Hp} (ok : HOk P w H h) : FarG P w fs H H h h := ⟨un_id fun _ _ e => e, ok, Same.refl H⟩
theorem FarG.trans (F : FarG P w fs H0 H1 h0 h1) (G : FarG P w fs H1 H2 h1 h2) : FarG P w fs H0 H2 h0 h2 := ⟨F.un.trans G.un, G.ok, F.same.trans G.same⟩
theorem FarG.kept (F : FarG P w fs H0 Hc h0 h) (k : ∀ b u, h.get? b = some u → h'.get? b = some u) : FarG P w fs H0 Hc h0 h' :=
  F.trans ⟨un_id k, F.ok.kept k, Same.refl Hc⟩
theorem FarG.off (F : FarG P w fs H0 Hc h0 h) (nx : h0.get? x = none) (ny : h0.get? y = none) (hx : Hc x = none) (hy : Hc y = none) (k : Off x y h h') : FarG P w fs H0 Hc h0 h' := by
  have n1 : ∀ b o, h0.get? b = some o → b ≠ x ∧ b ≠ y := fun b o e => ⟨fun z => (by rw [z, nx] at e; cases e), fun z => (by rw [z, ny] at e; cases e)⟩
  refine ⟨⟨fun b o e n f _ => k b o (n1 b o e).1 (n1 b o e).2 (F.un.keep b o e n f List.not_mem_nil), fun b o e n f _ => ?_, fun b o e n z => F.un.free b o e n z, fun b o e _ => ?_, F.un.tups, F.un.frzs, F.un.tbls⟩, fun b o e => ?_, F.same⟩
  · obtain ⟨sl, z⟩ := F.un.slot b o e n f List.not_mem_nil
    exact ⟨sl, k b _ (n1 b o e).1 (n1 b o e).2 z⟩
  · obtain ⟨o', z⟩ := F.un.there b o e List.not_mem_nil
    exact ⟨o', k b _ (n1 b o e).1 (n1 b o e).2 z⟩
  · refine (F.ok b o e).stay (fun c u hc z => k c u ?_ ?_ z) (fun _ z => z) fun _ _ z => z
    · rintro rfl
      rcases hc with rfl | hc
      · rw [hx] at e; cases e
      · rw [hx] at hc; cases hc
    · rintro rfl
      rcases hc with rfl | hc
      · rw [hy] at e; cases e
      · rw [hy] at hc; cases hc
end
section
variable {P : Program} {w : World} {A : Around} {E : Value → Shared → Prop} {fs : List Addr} {K : PySem.W.Frag} {H Hc : Hp} {s : Shared} {kS a : Addr} {f : Value} {vs : List Value} {e1 : Nat} {R : PySem.Fin → Shared → Prop}
variable {β : Type} {emb : β → V} {enc : β → PyData} {bs : List β}
/-- what a key's call leaves -/
def KeyedG (P : Program) (w : World) (fs : List Addr) (K : PySem.W.Frag) (H1 : Hp) (s1 : Shared) (d : PyData) (u : Value) (s2 : Shared) : Prop :=
  ∃ (kv : V) (H2 : Hp), RelV kv u ∧ Dp K H2 kv d ∧ s2.os = s1.os ∧ AllBare s2.gens ∧ FarG P w fs H1 H2 s1.heap s2.heap
theorem vals_snoc {v : V} {u : Value} (h : RelV v u) : ∀ {xs : List V} {us : List Value}, Vals xs us → Vals (xs ++ [v]) (us ++ [u])
  | _, _, .nil => .cons h .nil
  | _, _, .cons a t => .cons a (vals_snoc h t)
theorem dpAll_snoc {H : Hp} {v : V} {d : PyData} (h : Dp K H v d) : ∀ {xs : List V} {ds : List PyData}, DpAll K H xs ds → DpAll K H (xs ++ [v]) (ds ++ [d])
  | _, _, .nil => .cons h .nil
  | _, _, .cons a t => .cons a (dpAll_snoc h t)
theorem each_conv {H : Hp} {hh : Heap} (c : ∀ v d u, Dp K H v d → RelV v u → ∃ as, Reads hh u d as) : ∀ {xs : List V} {ds : List PyData} {us : List Value}, DpAll K H xs ds → Vals xs us → EachIs (fun u d => ∃ as, Reads hh u d as) us ds
  | _, _, _, .nil, .nil => .nil
  | _, _, _, .cons a t, .cons r q => .cons (c _ _ _ a r) (each_conv c t q)
theorem each_len {α γ : Type} {R : α → γ → Prop} : ∀ {as : List α} {cs : List γ}, EachIs R as cs → as.length = cs.length
  | _, _, .nil => rfl
  | _, _, .cons _ t => congrArg Nat.succ (each_len t)
theorem each_at {α γ : Type} {R : α → γ → Prop} : ∀ {as : List α} {cs : List γ}, EachIs R as cs → ∀ {i : Nat} {x : α}, as[i]? = some x → ∃ c, cs[i]? = some c ∧ R x c
  | _, _, .nil, i, x, h => by simp at h
  | _, _, .cons r t, 0, x, h => by simp at h; subst h; exact ⟨_, rfl, r⟩
  | _, _, .cons r t, i + 1, x, h => by
    simp at h
    obtain ⟨c, h1, h2⟩ := each_at t h
    exact ⟨c, by simpa using h1, h2⟩
theorem loop (h0 : Heap) (nk : kS ∉ fs) (na : a ∉ fs) (Hk : Hc kS = none) (Ha : Hc a = none) (k0 : h0.get? kS = none) (a0 : h0.get? a = none) (ne : kS ≠ a) (F : FarG P w fs H Hc h0 s.heap) (bare : AllBare s.gens)
    (hk : s.heap.get? kS = some (seqObj "list" #[] 0)) (ha : s.heap.get? a = some (seqObj "list" #[] e1)) (vals : EachIs (fun u b => RelV (emb b) u) vs bs) (small : vs.length ≤ 100000)
    (al : AllAlike (bs.map enc)) (so : Sortable (bs.map enc)) (un : ∀ d, d ∈ bs.map enc → A.units + d.depth < cLine)
    (conv : ∀ (s2 : Shared) (H2 : Hp), s2.os = s.os → AllBare s2.gens → FarG P w fs H H2 h0 s2.heap → ∀ v d u, Dp K H2 v d → RelV v u → ∃ as, Reads s2.heap u d as)
    (turn : ∀ b u, b ∈ bs → RelV (emb b) u → ∀ (s1 : Shared) (H1 : Hp), s1.os = s.os → AllBare s1.gens → FarG P w fs H H1 h0 s1.heap → wpAny (model P w) A (call f [u]) (KeyedG P w fs K H1 s1 (enc b)) (fun _ _ => False) s1)
    (fin : ∀ (s2 : Shared) (H2 : Hp) (out : List Value) (c : Nat), s2.os = s.os → AllBare s2.gens → FarG P w fs H H2 h0 s2.heap → H2 a = none → s2.heap.get? a = some (seqObj "list" out.toArray c) → EachIs (fun u b => RelV (emb b) u) out (bs.mergeSort (dataLe false enc)) → R (.done (.ret .none)) s2) :
    wpAny (model P w) A (ksk_rest a f false vs.toArray e1 (.ref kS)) R E s := by
  have zl := sizeLine_eq
  have lvb := each_len vals
  unfold ksk_rest
  refine wpAny_bind (wpAny_rule ?_)
  first
    | rw [List.forIn_toArray]
    | (rw [← Array.forIn_toList]; simp only [List.toList_toArray])
  refine wpAny_bind (ksk_fold (fun i s1 => ∃ (ks : Array Value) (e : Nat) (kv : List V) (H1 : Hp), s1.os = s.os ∧ AllBare s1.gens ∧ FarG P w fs H H1 h0 s1.heap ∧ H1 kS = none ∧ H1 a = none ∧ s1.heap.get? kS = some (seqObj "list" ks e) ∧ s1.heap.get? a = some (seqObj "list" #[] e1) ∧ Vals kv ks.toList ∧ DpAll K H1 kv ((bs.map enc).take i) ∧ ks.size = i) vs 0 s
    ⟨#[], 0, [], Hc, rfl, bare, F, Hk, Ha, hk, ha, .nil, .nil, rfl⟩ (fun j v s1 hv z => ?_) fun s1 z => ?_)
  · obtain ⟨ks, e, kv, H1, os1, b1, F1, Hk1, Ha1, hk1, ha1, hn, hdp, sz⟩ := z
    have lj : j < vs.length := (List.getElem?_eq_some_iff.mp hv).1
    obtain ⟨b, hb, rb⟩ := each_at vals hv
    refine wpAny_bind (wpAny_attempt (wpAny_mono (turn b v (List.mem_of_getElem? hb) rb s1 H1 os1 b1 F1) (fun u s2 z => ?_) fun _ _ z => z.elim))
    obtain ⟨k, H2, rk, dk, os2, b2, F2⟩ := z
    have hk2 := F2.un.keep _ _ hk1 Hk1 nk List.not_mem_nil
    have ha2 := F2.un.keep _ _ ha1 Ha1 na List.not_mem_nil
    have Hk2 := F2.un.free _ _ hk1 Hk1 List.not_mem_nil
    have Ha2 := F2.un.free _ _ ha1 Ha1 List.not_mem_nil
    obtain ⟨c, hk3⟩ : ∃ c, (s2.heap.update kS (Obj.mapSeq (·.push u))).get? kS = some (seqObj "list" (ks.push u) c) := ⟨_, get?_update_seq hk2 (·.push u)⟩
    refine wpAny_bind (listUpdate_at hk2 rfl ?_ (by omega) (by rw [Array.size_push]; omega))
    refine wpAny_pure ⟨rfl, ks.push u, c, kv ++ [k], H2, os2.trans os1, b2, (F1.trans F2).off k0 a0 Hk2 Ha2 (off_update _ _), Hk2, Ha2, hk3, (Heap.get?_update_ne _ _ _ _ ne.symm).trans ha2, ?_, ?_, by rw [Array.size_push, sz]⟩
    · rw [Array.toList_push]
      exact vals_snoc rk hn
    · have tk : (bs.map enc).take (j + 1) = (bs.map enc).take j ++ [enc b] := by rw [List.take_succ, List.getElem?_map, hb] <;> rfl
      rw [Nat.zero_add] at hdp ⊢
      rw [tk]
      exact dpAll_snoc dk (VB.DpAll.same F2.same _ _ hdp)
  · obtain ⟨ks, e, kv, H1, os1, b1, F1, Hk1, Ha1, hk1, ha1, hn, hdp, sz⟩ := z
    rw [Nat.zero_add] at sz
    rw [Nat.zero_add, List.take_of_length_le (by rw [List.length_map, lvb]; exact Nat.le_refl _)] at hdp
    refine wpAny_bind (listItems_at hk1 rfl ?_)
    obtain ⟨g, g1, g2⟩ := restrict s1.heap fun b => decide (b ≠ kS)
    have kp : KeepsBut a g s1.heap := fun b o _ z => by
      by_cases c : b = kS
      · rw [g2 b (by simp [c])] at z; cases z
      · rw [g1 b (by simp [c])] at z; exact z
    have rd := each_conv (conv s1 H1 os1 b1 F1) hdp hn
    refine keyH_end (κ := dataKind s1.heap (bs.map enc)) kp (g2 kS (by simp)) hk1 ha1 ne (SortsAt.data (s := s1) rd al so un) sz (by omega) fun h' tk c kb hc => ?_
    have off : Off a kS s1.heap h' := fun b o n1 n2 z => kb b o n1 (by rw [g1 b (by simp [n2])]; exact z)
    have ko : KeyedOut false (bs.map enc) vs (sortVals (dataKind s1.heap (bs.map enc)) false ks.toList vs) := ⟨s1.heap, ks.toList, al, rfl, rd⟩
    exact fin { s1 with heap := h', toks := tk } H1 _ c os1 b1 (F1.off a0 k0 Ha1 Hk1 off) Ha1 hc (keyedOut_each enc ko vals)
end
/-! .. as an expression -/
section
variable {X : Cx} {K : PySem.W.Frag} {x : Str} {p pos : Pos} {e : Expr} {es : List Expr} {kws : List Keyword} {t tk : TA} {β : Type}
/-- what the call asks -/
def rSortG (P : Program) (w : World) (K : PySem.W.Frag) (mg : Str → Option Value) (base : Heap) (kk : Nat) (emb : β → V) (enc : β → PyData) : List V → List V → Hp → VK → Prop := fun vs zs H Q =>
  ∃ (a f : Addr) (bs : List β), vs = [.ref a] ∧ zs = [.ref f] ∧ SqL K H a (bs.map emb) ∧ bs.length ≤ 100000 ∧ AllAlike (bs.map enc) ∧ Sortable (bs.map enc) ∧ (∀ b ∈ bs, (enc b).depth ≤ 8) ∧
    (∃ φ sp, VA.VCall P w K mg base kk f φ sp ∧ ∀ b ∈ bs, ∀ H', Same H H' → φ H' ∧ ∀ Q' : VK, (∀ v H'', Same H' H'' → Dp K H'' v (enc b) → Q' v H'') → sp [emb b] H' Q' C8.E0) ∧
    ∀ (l : Addr) (H' : Hp), Same H H' → H' l = some (.lst ((bs.mergeSort (dataLe false enc)).map emb)) → Q (.ref l) H'
def tSortG (P : Program) (w : World) (K : PySem.W.Frag) (mg : Str → Option Value) (base : Heap) (kk : Nat) (emb : β → V) (enc : β → PyData) (t tk : TA) : TE := fun σ H Q => t σ H fun vs H1 => tk σ H1 fun zs H2 => rSortG P w K mg base kk emb enc vs zs H2 Q
/-! sorted(xs, key=len): lists or tuples by their length -/
def rSortLen (K : PySem.W.Frag) (emb : β → V) (it : β → List V) : List V → Hp → VK → Prop := fun vs H Q =>
  ∃ (a : Addr) (bs : List β), vs = [.ref a] ∧ SqL K H a (bs.map emb) ∧ bs.length ≤ 100000 ∧ (∀ b ∈ bs, ∃ p, emb b = .ref p ∧ SqT K H p (it b)) ∧
    ∀ (l : Addr) (H' : Hp), Same H H' → H' l = some (.lst ((bs.mergeSort (dataLe false fun b => PyData.int ((it b).length : Nat))).map emb)) → Q (.ref l) H'
def tSortLen (K : PySem.W.Frag) (emb : β → V) (it : β → List V) (t : TA) : TE := fun σ H Q => t σ H fun vs H1 => rSortLen K emb it vs H1 Q
end
end VKS

set_option Elab.async false
set_option linter.all false
set_option maxRecDepth 100000
set_option maxHeartbeats 400000
/-! sorted(d) of a dict whose keys are data -/
namespace VSDi
open PySem PySem.Spec PyProof.Rows L2 LamX NdefX VB PySem.W
section
variable {prog : Program} {w : World} {A : Around} {E : Value → Shared → Prop} {s : Shared}
theorem rawKeys (hh : A.handled = none) (I d : Addr) (hne : d ≠ I) {o : Obj} {es : Array DictEntry} {ep n : Nat} (hdd : o.data = .dict es ep) (hsz : es.size = n) :
    Walks prog w A I [I, d] [I] n (fun i v => ∃ e, es[i]? = some e ∧ e.key = v) (fun i h => h.IsKeyIter I d i n ep ∧ h.get? d = some o) where
  sub := fun b hb => by simp at hb; simp [hb]
  frame := fun _ _ _ st hk => ⟨st.1.at fun o e => hk I (by simp) o e, hk d (by simp) _ st.2⟩
  item := fun i s Q E hi st hQ => by
    obtain ⟨e, he⟩ : ∃ e, es[i]? = some e := ⟨es[i], by simp [hsz, hi]⟩
    refine next_key_item st.1 st.2 hdd hsz he fun h' hit' hs' => ?_
    have keep : ∀ b o, b ≠ I → s.heap.get? b = some o → h'.get? b = some o := fun b o hb e => (hs'.2 b hb).trans e
    exact hQ e.key h' s.toks ⟨e, he, rfl⟩ ⟨hit', keep d o hne st.2⟩ fun b o hb e => keep b o (fun h => hb (by simp [h])) e
  done := fun s Q E st hQ => next_key_end hh st.1 st.2 hdd hsz (Nat.le_refl _) fun h' he' => hQ h' s.toks fun b o hb e => he' b o (fun h => hb (by simp [h])) e
  self := fun _ _ _ _ st hQ => wpAny_pyIter_keyiter st.1 hQ
theorem raw_src {d : Addr} {o : Obj} {es : Array DictEntry} {ep : Nat} (lo : (d == sysModules) = false) (hc : o.ExactDict) (hdd : o.data = .dict es ep) :
    KdlSrc prog w "dict" d d es.size (fun i v => ∃ e, es[i]? = some e ∧ e.key = v) (fun h => h.get? d = some o) where
  type := fun _ hm => ⟨o, hm, hc.1⟩
  there := fun _ hm => ⟨Heap.lt_size hm, Heap.lt_size hm⟩
  keep := fun _ _ hm hk => hk d (.inl rfl) _ hm
  notList := by decide
  notTuple := by decide
  hint := fun _ _ s _ hm hq => kdl_hint_dict (s := s) ⟨o, hm, hc.1⟩ hq
  iter := fun _ s hh hm => ⟨_, _, (fun _ _ hq => iter_keys lo hm hc hdd hq), rawKeys hh _ d (Nat.ne_of_lt (Heap.lt_size hm)) hdd rfl, ⟨⟨_, Heap.get?_push_size _ rfl, rfl, rfl⟩, Heap.get?_push_of_some _ hm⟩⟩
variable {β : Type} {R : Value → β → Prop} {enc : β → PyData} {bs : List β}
theorem sorted_raw {d : Addr} {o : Obj} {es : Array DictEntry} {ep : Nat} {Q : Value → Shared → Prop} (lo : (d == sysModules) = false) (hc : o.ExactDict) (hdd : o.data = .dict es ep) (hd : s.heap.get? d = some o) (hh : A.in1.handled = none)
    (e : EachIs R (es.toList.map (·.key)) bs) (er : EachIs (fun v b => ∃ as, Reads s.heap v (enc b) as) (es.toList.map (·.key)) bs) (hal : AllAlike (bs.map enc)) (hk : Sortable (bs.map enc)) (hL : bs.length ≤ sizeLine)
    (hu : ∀ b, b ∈ bs → A.units + 2 + (enc b).depth < cLine)
    (h : ∀ (h1 h2 : Heap) (tk : Nat) (out : List Value) (c : Nat), (∀ b o, s.heap.get? b = some o → h1.get? b = some o) → (∀ b o, h1.get? b = some o → h2.get? b = some o) → h2.get? h1.objs.size = some (seqObj "list" out.toArray c) → EachIs R out (bs.mergeSort (dataLe false enc)) → Q (.ref h1.objs.size) { s with heap := h2, toks := tk }) :
    wpAny (model prog w) A (call (.builtin "sorted") [.ref d]) Q E s := by
  have le : es.size = bs.length := by have z := e.length; rw [List.length_map, Array.length_toList] at z; exact z
  refine Calls.call_function_entry PyProof.Rows.kind_sorted PyProof.Rows.plain_sorted PyProof.Rows.entry_sorted (PyProof.Rows.args_sorted1 _) ?_
  unfold Builtin.«sorted»
  refine wpAny_bind (m := checkCount "sorted" 1 1 _) (wpAny_pure ?_)
  refine wpAny_bind (PySem.W.kdu_collect (A := A.in1) (raw_src (d := d) lo hc hdd) hh hd (by rw [le]; exact hL) fun h' tk acc hk1 hacc => ?_)
  have eacc : acc.toList = es.toList.map (·.key) := by
    refine List.ext_getElem? fun j => ?_
    by_cases hj : j < es.size
    · obtain ⟨u, hu⟩ : ∃ u, acc[j]? = some u := ⟨acc[j]'(by rw [hacc.1]; exact hj), by simp [hacc.1, hj]⟩
      obtain ⟨en, h1, h2⟩ := hacc.2 j u hu
      rw [Array.getElem?_toList, hu, List.getElem?_map, Array.getElem?_toList, h1, ← h2] <;> rfl
    · rw [List.getElem?_eq_none (by rw [Array.length_toList, hacc.1]; omega), List.getElem?_eq_none (by rw [List.length_map, Array.length_toList]; omega)]
  rw [eacc]
  have hLv : (es.toList.map (·.key)).length ≤ sizeLine := by rw [e.length]; exact hL
  generalize es.toList.map (·.key) = vs at *
  refine wpAny_bind (wpAny_newList ?_ hLv)
  have hoL : (h'.push (seqObj "list" vs.toArray 0)).get? h'.objs.size = some (seqObj "list" vs.toArray 0) := Heap.get?_push_size _ rfl
  show wpAny _ _ _ _ _ { s with heap := h'.push (seqObj "list" vs.toArray 0), toks := tk }
  have old : ∀ b o, s.heap.get? b = some o → (sortingHeap (h'.push (seqObj "list" vs.toArray 0)) h'.objs.size vs).get? b = some o := fun b o q => by
    have q1 := hk1 b o q
    exact sortingHeap_old (Nat.ne_of_lt (Heap.lt_size q1)) (Heap.get?_push_of_some _ q1)
  have er' : EachIs (fun v b => ∃ as, Reads (sortingHeap (h'.push (seqObj "list" vs.toArray 0)) h'.objs.size vs) v (enc b) as) vs bs := er.mono fun _ _ ⟨as, r⟩ => ⟨as, PyProof.Rows.Reads.keeps (fun _ _ q => old _ _ q) r⟩
  refine wpAny_bind (wpAny_holding (wpAny_call_entry PyProof.Rows.slot_list_sort ⟨_, hoL, rfl⟩ PyProof.Rows.entry_list_sort
    (list_sort_vals (κ := dataKind (sortingHeap (h'.push (seqObj "list" vs.toArray 0)) h'.objs.size vs) (bs.map enc)) hoL (SortsAt.data (s := { s with heap := sortingHeap (h'.push (seqObj "list" vs.toArray 0)) h'.objs.size vs, toks := tk }) (each_map (R := fun v d => ∃ as, Reads (sortingHeap (h'.push (seqObj "list" vs.toArray 0)) h'.objs.size vs) v d as) enc er') hal hk (bound_map hu)) hLv ⟨.none, rfl, ?_⟩) (PyProof.Rows.args_list_sort _)))
  obtain ⟨c, he'⟩ := PyProof.Rows.sortedHeap_at (vs := vs) (out := (sortVals (dataKind (sortingHeap (h'.push (seqObj "list" vs.toArray 0)) h'.objs.size vs) (bs.map enc)) false vs vs).toArray) hoL
  refine wpAny_pure ⟨_, rfl, h h' _ tk _ c hk1 (fun b o q1 => ?_) he' (sortVals_data false e er' hal)⟩
  have hb : b < h'.objs.size := Heap.lt_size q1
  rw [PyProof.Rows.sortedHeap_old (Nat.ne_of_lt hb) (by rw [size_push']; exact Nat.lt_succ_of_lt hb)]
  exact Heap.get?_push_of_some _ q1
end
section
variable {X : Cx} {β : Type}
open VDN
/-- sorted(d), the keys nested tuples: bs are the keys, emb their values, enc their data -/
def rSortedDN (P : Program) (w : World) (K : PySem.W.Frag) (emb : β → V) (enc : β → PyData) : List V → Hp → VK → Prop := fun vs H Q =>
  ∃ (a : Addr) (rows : List NRow) (bs : List β), vs = [V.ref a] ∧ H a = some (NdO P w a rows) ∧ KeysN K H rows ∧ rows.map (fun r => V.ref r.2.1) = bs.map emb ∧ (∀ b ∈ bs, Dp K H (emb b) (enc b)) ∧
    PySem.W.AllAlike (bs.map enc) ∧ PySem.W.Sortable (bs.map enc) ∧ (∀ b ∈ bs, (enc b).depth ≤ 8) ∧
    ∀ p : Addr, H p = none → Q (.ref p) (upd H p (.lst ((bs.mergeSort (PySem.W.dataLe false enc)).map emb)))
theorem after_sort {pins : List (Addr × Obj)} {σ : L2.St} {s : Shared} {H : Hp} {Q : VK} {h1 h2 : Heap} {tk : Nat} {out : List Value} {c : Nat} {xs : List V} (I : Inv X pins σ H s) (k1 : ∀ b o, s.heap.get? b = some o → h1.get? b = some o) (k2 : ∀ b o, h1.get? b = some o → h2.get? b = some o)
    (hl : h2.get? h1.objs.size = some (seqObj "list" out.toArray c)) (hv : Vals xs out) (len : xs.length ≤ sizeLine) (q : ∀ p : Addr, H p = none → Q (.ref p) (upd H p (.lst xs))) :
    EP X pins σ Q (.ref h1.objs.size) { s with heap := h2, toks := tk } := by
  have I1 : Inv X pins σ H { s with heap := h1, toks := tk } := I.kept k1
  exact ⟨.ref h1.objs.size, upd H h1.objs.size (.lst xs), I1.laid (t' := tk) k2 (Nat.le_refl _) (show ObjOk X.prog X.w _ _ _ (.lst xs) from ⟨len, out, c, hv, hl⟩), rfl, q _ (I1.hok.fresh (Nat.le_refl _))⟩
/-- sorted(d), the keys texts -/
def rSortedDS : List V → Hp → VK → Prop := fun vs H Q =>
  ∃ (a : Addr) (kvs : List (Key × V)) (ks : List Str), vs = [V.ref a] ∧ Rd H a (.dK kvs) ∧ kvs.map (·.1) = ks.map Sum.inr ∧
    ∀ p : Addr, H p = none → Q (.ref p) (upd H p (.lst ((ks.mergeSort (PySem.W.dataLe false PyData.str)).map V.str)))
theorem str_vals : ∀ {ks : List Str} {us : List Value}, us.length = ks.length → (∀ (j : Nat) (v : Value) (x : Str), us[j]? = some v → ks[j]? = some x → keyIs (.inr x) v = true) → Vals (ks.map V.str) us
  | [], [], _, _ => .nil
  | x :: ks, u :: us, hl, h => by
    rw [List.map_cons]
    refine .cons ?_ (str_vals (by simpa using hl) fun j v y e1 e2 => h (j + 1) v y (by simpa using e1) (by simpa using e2))
    rcases keyIs_shape (h 0 u x rfl rfl) with ⟨i, t, ek, ev⟩ | ⟨z, t, ek, ev⟩
    · cases ek
    · cases ek
      exact ⟨t, ev⟩
  | [], _ :: _, hl, _ => by simp at hl
  | _ :: _, [], hl, _ => by simp at hl
theorem sortedDS {k : Nat} (hc : X.calm = true) (hr : Room k X.A) : CallR X (.builtin "sorted") rSortedDS := by
  intro pins s σ H xs us Q I r h
  obtain ⟨a, kvs, ks, rfl, hd, ek, q⟩ := h
  rw [Vals.ref1 r]
  obtain ⟨z, lo, ys, rel, dd⟩ := dk_rd I.hok hd
  obtain ⟨ep, o, es, h1, h2, h3, h4, h5, h6⟩ := dd.dictAt
  have lk : ks.length = kvs.length := by have z := congrArg List.length ek; rw [List.length_map, List.length_map] at z; exact z.symm
  have hun := hr.un
  have hkeys : ys.map (·.1) = ks.map Sum.inr := rel.keys.symm.trans ek
  have ly : ys.length = ks.length := by have z := congrArg List.length hkeys; rw [List.length_map, List.length_map] at z; exact z
  have vals : Vals (ks.map V.str) (es.toList.map (·.key)) := str_vals (by rw [List.length_map, h5.length]; exact ly) fun j v x e1 e2 => by
    rw [List.getElem?_map] at e1
    obtain ⟨en, e3, rfl⟩ := Option.map_eq_some_iff.mp e1
    have e4 : (ys.map (·.1))[j]? = some (.inr x) := by rw [hkeys, List.getElem?_map, e2] <;> rfl
    rw [List.getElem?_map] at e4
    obtain ⟨⟨k, u⟩, e5, e6⟩ := Option.map_eq_some_iff.mp e4
    have e6 : k = .inr x := e6
    subst e6
    exact (h5.get? e3 e5).1
  refine sorted_raw (R := fun u b => RelV (V.str b) u) (enc := PyData.str) (bs := ks) lo h2 h3 h1 (I.ok.hd hc) (VA.each_vals V.str vals) (VA.each_reads I V.str PyData.str (fun b _ => .str b) vals) (fun d hd d' hd' => ?_) (.inr fun d hd => ?_) (by omega) (fun b hb => ?_) fun g1 g2 tk out c k1 k2 hl ev => ?_
  · obtain ⟨_, _, rfl⟩ := List.mem_map.mp hd
    obtain ⟨_, _, rfl⟩ := List.mem_map.mp hd'
    rfl
  · obtain ⟨_, _, rfl⟩ := List.mem_map.mp hd
    exact ⟨fun z => PyData.noConfusion z, fun xs z => PyData.noConfusion z⟩
  · show X.A.units + 2 + 0 < cLine
    omega
  · exact after_sort I k1 k2 hl (VA.vals_each V.str ev) (by rw [List.length_map, List.length_mergeSort]; omega) q
end
end VSDi

set_option Elab.async false
set_option linter.all false
set_option maxRecDepth 100000
set_option maxHeartbeats 400000
namespace VCb
open PySem PySem.Spec PyProof.Rows L2 LamX NdefX VA
section
variable {X : Cx} {P : Program} {w : World} {K : PySem.W.Frag} {mg : Str → Option Value} {base : Heap} {k j i : Nat} {x : Str} {p pos : Pos} {e : Expr} {es : List Expr} {t : TA}
/-- a captured value is called within a comprehension -/
theorem pe_callValG (hP : X.prog = P) (hw : X.w = w) (hK : X.K = K) (hm : X.mg = mg) (hb : X.base = base) (hr : Room j X.A) (hk : k ≤ j) (hN : X.N[i]? = some x) (hv : Vis X.env.scope x) (ha : PA X (e :: es) t)
    (hdb : (x == ("__debug__" : Str)) = false := by decide) (hcd : (x == ("__classdict__" : Str)) = false := by decide)
    (he : starEach (e :: es) X.env = (false, eval e X.env) :: starEach es X.env := by rfl) (hpl : (backTo pos (starEach es X.env)).any (·.1) = false := by rfl) :
    PE X (.Call (.Name x p) (e :: es) [] pos) (tCallVal P w K mg base k i t) := by
  subst hP hw hK hm hb
  exact pe_callVal hr hk hN hv ha hdb hcd he hpl
end
end VCb

set_option Elab.async false
set_option linter.all false
set_option maxRecDepth 100000
set_option maxHeartbeats 400000
namespace VNT
open PySem PySem.Spec PyProof.Rows L2
theorem pe_notTK {X : Cx} {K : PySem.W.Frag} (h : X.K = K) {a : Expr} {ta : TE} {pos : Pos} (ha : PE X a ta) : PE X (.UnaryOp .Not a pos) (tNotT K ta) := by subst h; exact pe_notT ha
end VNT

set_option Elab.async false
set_option linter.all false
set_option maxRecDepth 100000
set_option maxHeartbeats 4000000
/-! a list that is made longer by a tuple's items -/
namespace PySem.AutoSeq1
open PySem.Spec PySem.Calls PyProof.Rows
end PySem.AutoSeq1
namespace VG
open PySem PySem.Spec PyProof.Rows L2 LamX NdefX VB VM
def rExtT (K : PySem.W.Frag) : V → List V → Hp → VK → Prop := fun x vs H Q => ∃ l b xs zs, x = .ref l ∧ vs = [.ref b] ∧ H l = some (.lst xs) ∧ SqT K H b zs ∧ xs.length + zs.length ≤ sizeLine ∧ Q .non (upd H l (.lst (xs ++ zs)))
end VG

set_option Elab.async false
set_option linter.all false
namespace VSub
/-! ascending lists of small numbers: there are few -/
def subs : Nat → List (List Int)
  | 0 => [[]]
  | k + 1 => subs k ++ (subs k).map fun l => l ++ [((k : Nat) : Int)]
theorem subs_len : ∀ k, (subs k).length = 2 ^ k
  | 0 => rfl
  | k + 1 => by
    unfold subs
    rw [List.length_append, List.length_map, subs_len k, Nat.pow_succ]
    omega
theorem subs_mem : ∀ (k : Nat) (l : List Int), l.Pairwise (· < ·) → (∀ x ∈ l, 0 ≤ x ∧ x < (k : Nat)) → l ∈ subs k
  | 0, l, _, h => by
    match l, h with
    | [], _ => exact List.mem_singleton.mpr rfl
    | x :: l, h => have := h x List.mem_cons_self; omega
  | k + 1, l, p, h => by
    unfold subs
    by_cases e : ((k : Nat) : Int) ∈ l
    · refine List.mem_append_right _ (List.mem_map.mpr ?_)
      obtain ⟨a, b, rfl⟩ := List.append_of_mem e
      have pb := (List.pairwise_append.mp p).2.1
      have hb : b = [] := by
        match b, pb, h with
        | [], _, _ => rfl
        | y :: b, pb, h =>
          have y1 := (List.pairwise_cons.mp pb).1 y List.mem_cons_self
          have y2 := h y (List.mem_append_right _ (List.mem_cons_of_mem _ List.mem_cons_self))
          omega
      subst hb
      refine ⟨a, subs_mem k a (List.pairwise_append.mp p).1 fun x hx => ?_, rfl⟩
      have x1 := (List.pairwise_append.mp p).2.2 x hx _ (List.mem_singleton.mpr rfl)
      have x2 := h x (List.mem_append_left _ hx)
      omega
    · refine List.mem_append_left _ (subs_mem k l p fun x hx => ?_)
      have x2 := h x hx
      have ne : x ≠ ((k : Nat) : Int) := fun z => e (by rw [← z]; exact hx)
      omega
end VSub

set_option Elab.async false
set_option linter.all false
set_option maxRecDepth 100000
set_option maxHeartbeats 4000000
namespace VHK
open PySem PySem.Spec PyProof.Rows L2 LamX NdefX He
/-! the facts of a head over what the names reach and the table of the interpreter's statics -/
def asS (g : Addr → Option Obj) (n : Nat) : List Addr := He.asD g n ++ [cStatics]
def obsS (n : Nat) (fa : List Fa) (fn : List DefD) (ex : PySem.W.Frag → Bool) (g : Addr → Option Obj) : AlX := (obsT fa fn [] (frT g (asS g n)), ex (frT g (asS g n)))
theorem says_of {n : Nat} {fa : List Fa} {fn : List DefD} {ex : PySem.W.Frag → Bool} {w : World} {h : Heap} (e : obsS n fa fn ex h.get? = valX fn [] w) : SaysX fa fn [] [] ex w h (frT h.get? (asS h.get? n)) :=
  ⟨congrArg (fun z : AlX => z.1) e, congrArg (fun z : AlX => z.2) e, fun p hp => absurd hp List.not_mem_nil, fun p hp => absurd hp List.not_mem_nil, fun p hp => absurd hp List.not_mem_nil⟩
def hookS (n : Nat) (fa : List Fa) (fn : List DefD) (ex : PySem.W.Frag → Bool) : PySem.W.Hook where
  α := AlX
  obs := fun s => obsS n fa fn ex s.heap.get?
  val := fun w => valX fn [] w
  says := fun w h => ∃ K : PySem.W.Frag, K.In h ∧ SaysX fa fn [] [] ex w h K
  of := fun _ _ e => ⟨_, frT_in, says_of e⟩
  keeps := fun _ _ _ ⟨K, hK, c⟩ k => ⟨K, PySem.W.Frag.In.keeps hK k, ⟨c.t, c.more, c.hd, c.out, fun p hp => absurd hp List.not_mem_nil⟩⟩
/-- .. with tables -/
def obsR (n : Nat) (fa : List Fa) (fn : List DefD) (ts : List Tab) (ex : PySem.W.Frag → Bool) (g : Addr → Option Obj) : AlX := (obsT fa fn ts (frT g (asS g n)), ex (frT g (asS g n)))
theorem saysR_of {n : Nat} {fa : List Fa} {fn : List DefD} {ts : List Tab} {ex : PySem.W.Frag → Bool} {w : World} {h : Heap} (e : obsR n fa fn ts ex h.get? = valX fn ts w) : SaysX fa fn ts [] ex w h (frT h.get? (asS h.get? n)) :=
  ⟨congrArg (fun z : AlX => z.1) e, congrArg (fun z : AlX => z.2) e, fun p hp => absurd hp List.not_mem_nil, fun p hp => absurd hp List.not_mem_nil, fun p hp => absurd hp List.not_mem_nil⟩
def hookR (n : Nat) (fa : List Fa) (fn : List DefD) (ts : List Tab) (ex : PySem.W.Frag → Bool) : PySem.W.Hook where
  α := AlX
  obs := fun s => obsR n fa fn ts ex s.heap.get?
  val := fun w => valX fn ts w
  says := fun w h => ∃ K : PySem.W.Frag, K.In h ∧ SaysX fa fn ts [] ex w h K
  of := fun _ _ e => ⟨_, frT_in, saysR_of e⟩
  keeps := fun _ _ _ ⟨K, hK, c⟩ k => ⟨K, PySem.W.Frag.In.keeps hK k, ⟨c.t, c.more, c.hd, c.out, fun p hp => absurd hp List.not_mem_nil⟩⟩
end VHK
namespace VHK
open PySem PySem.Spec PyProof.Rows L2 LamX NdefX He
/-! .. with the tables of code too -/
def obsQ (n : Nat) (fa : List Fa) (fn : List DefD) (ts : List Tab) (tf : List Defn) (ex : PySem.W.Frag → Bool) (g : Addr → Option Obj) : AlX := (obsT fa fn ts (frT g (asS g n)), ex (frT g (asS g n)) && tabsB g tf (frT g (asS g n)))
theorem tabs_at {g : Addr → Option Obj} {tf : List Defn} {K : PySem.W.Frag} (h : tabsB g tf K = true) {p : Defn} (hp : p ∈ tf) : PySem.W.codeHdIn K (cT K p).1 (cT K p).2 = true ∧ ∃ o, g (cT K p).2 = some o ∧ emptyTab o = true := by
  obtain ⟨h1, h2⟩ := ba (List.all_eq_true.mp h p hp)
  refine ⟨h1, ?_⟩
  cases e : g (cT K p).2 with
  | none => rw [e] at h2; cases h2
  | some o => rw [e] at h2; exact ⟨o, rfl, h2⟩
theorem saysQ_of {n : Nat} {fa : List Fa} {fn : List DefD} {ts : List Tab} {tf : List Defn} {ex : PySem.W.Frag → Bool} {w : World} {h : Heap} (e : obsQ n fa fn ts tf ex h.get? = valX fn ts w) : SaysX fa fn ts tf ex w h (frT h.get? (asS h.get? n)) := by
  have e2 : (ex (frT h.get? (asS h.get? n)) && tabsB h.get? tf (frT h.get? (asS h.get? n))) = true := congrArg (fun z : AlX => z.2) e
  obtain ⟨h1, h2⟩ := ba e2
  refine ⟨congrArg (fun z : AlX => z.1) e, h1, fun p hp => (tabs_at h2 hp).1, fun p hp => ?_, fun p hp => ?_⟩
  · obtain ⟨_, o, q, z⟩ := tabs_at h2 hp
    exact frT_none q z
  · obtain ⟨_, o, q, z⟩ := tabs_at h2 hp
    rw [q, emptyTab_eq z]
def hookQ (n : Nat) (fa : List Fa) (fn : List DefD) (ts : List Tab) (tf : List Defn) (ex : PySem.W.Frag → Bool) : PySem.W.Hook where
  α := AlX
  obs := fun s => obsQ n fa fn ts tf ex s.heap.get?
  val := fun w => valX fn ts w
  says := fun w h => ∃ K : PySem.W.Frag, K.In h ∧ SaysX fa fn ts tf ex w h K
  of := fun _ _ e => ⟨_, frT_in, saysQ_of e⟩
  keeps := fun _ _ _ ⟨K, hK, c⟩ k => ⟨K, PySem.W.Frag.In.keeps hK k, ⟨c.t, c.more, c.hd, c.out, fun p hp => k _ _ (c.empty p hp)⟩⟩
theorem obsQ_eq {n : Nat} {fa : List Fa} {fn : List DefD} {ts : List Tab} {tf : List Defn} {ex : PySem.W.Frag → Bool} {g : Addr → Option Obj} {s : Shared} (h : ∀ a, g a = s.heap.get? a) : obsQ n fa fn ts tf ex g = (hookQ n fa fn ts tf ex).obs s := by
  have e : g = s.heap.get? := funext h
  rw [e] <;> rfl
/-- a written tuple of values at an address -/
def tupAt (K : PySem.W.Frag) (a : Addr) (vs : List V) : Bool := match K.lookup a with
  | some ⟨.type c, _, .seq its _, _⟩ => decide (c = "tuple") && (decide (its.size ≤ sizeLine) && relAll vs its.toList)
  | _ => false
/-- what a written dict holds under a text, an address -/
def atKey (K : PySem.W.Frag) (d : Addr) (x : Str) : Addr := match PySem.W.nsIn K d x with
  | some (some (.ref a)) => a
  | _ => 0
end VHK

set_option Elab.async false
set_option linter.all false
set_option maxRecDepth 100000
set_option maxHeartbeats 4000000
namespace LW
open PySem PySem.Spec PyProof.Rows L2 LamX NdefX VB VM VP
def top (i : Nat) : Stmt := PySem.Challenge.pw_parley_k67_least_stuck_and_looping_trace.main.body.getD i (.Pass ⟨0, 0, 0, 0⟩)
abbrev s__law_cell : Stmt := top 34
theorem sc__law_cell : FnScope ["script", "k"] ["script", "k"] (defScope s__law_cell) := ⟨rfl, rfl, rfl, by decide +kernel, rfl, by decide +kernel, by decide +kernel⟩
abbrev s__law_like : Stmt := top 36
theorem sc__law_like : FnScope ["actual", "due", "k"] ["actual", "due"] (defScope s__law_like) := ⟨rfl, rfl, rfl, by decide +kernel, rfl, by decide +kernel, by decide +kernel⟩
abbrev s__law_draws : Stmt := top 35
theorem sc__law_draws : FnScope ["cell", "count", "rows", "left", "k", "mixed"] ["cell", "count"] (defScope s__law_draws) := ⟨rfl, rfl, rfl, by decide +kernel, rfl, by decide +kernel, by decide +kernel⟩
section
variable {P : Program} {w : World} {K : PySem.W.Frag} {mg : Str → Option Value} {base : Heap}
/-- a cell of the script: some number that is not negative -/
def spCell (K : PySem.W.Frag) : Sp := fun vs H Q _ => ∃ (a : Addr) (ns : List Int) (k : Int), vs = [.ref a, .int k] ∧ SqL K H a (ns.map V.int) ∧ 0 ≤ k ∧
  ∀ r : Int, 0 ≤ r → Q (.int r) H
theorem c_cell (D : Df K mg "_law_cell" s__law_cell) (z_len : mg "len" = none) (z_abs : mg "abs" = none) (z_int : mg "int" = none) :
    C8.Cal P w K mg base 1 "_law_cell" (spCell K) [] := by
  refine D.cal sc__law_cell (fun _ _ _ _ _ _ us hl => match us, hl with | [_, _], _ => rfl) (fun vs H Q E h => ?_) (fun f cdv A outer s H vs Q E hr h => ?_)
  · obtain ⟨a, ns, k, rfl, _⟩ := h
    rfl
  obtain ⟨a, ns, k, rfl, hS, h0, q⟩ := h
  have hl : (ns.map V.int).length = ns.length := List.length_map _
  refine ⟨_, (pss_cons (ps_if (pt_cmpR op_lt (pv 1) (pe_callB (VK.lenQ (K := K) rfl) (by rfl) z_len PySem.boot_len (pa_cons (pv 0) pa_nil)) (nomark _))
      (pss_one (ps_ret (pe_callB call_abs (by rfl) z_abs (by decide +kernel) (pa_cons (pe_callTy call_int1 (by rfl) z_int (by decide +kernel) (pa_cons (pe_ix (VK.ixL (K := K) rfl) (pv 0) (pv 1) (fun _ _ => rfl)) pa_nil)) pa_nil))))
      pss_nil)
    (pss_one (ps_ret pe_int))), ?_⟩
  refine ⟨_, rfl, _, rfl, a, _, rfl, .inl hS, _, _, rfl, rfl, _, rfl, ?_⟩
  refine ite2 (fun c => ?_) (fun c => ?_)
  · have c' : k < (((ns.map V.int).length : Nat) : Int) := of_decide_eq_true c
    rw [hl] at c'
    have hk : k.toNat < ns.length := by omega
    have ek : k = ((k.toNat : Nat) : Int) := by omega
    have q1 : atI (ns.map V.int) ((k.toNat : Nat) : Int) = some (.int ns[k.toNat]) := atI_nat (by rw [List.getElem?_map, List.getElem?_eq_getElem hk] <;> rfl)
    rw [← ek] at q1
    refine ⟨_, rfl, _, rfl, a, _, _, _, rfl, rfl, hS, q1, .inl ⟨_, rfl, _, rfl, q _ ?_⟩⟩
    split <;> omega
  · exact q 0 (Int.le_refl 0)
/-- so many draws, each from 0 to 4095 -/
def spDraws : Sp := fun vs H Q _ => ∃ (c n : Int), vs = [.int c, .int n] ∧ 0 ≤ n ∧ n ≤ 1000 ∧
  ∀ (p : Addr) (ns : List Int), H p = none → ns.length = n.toNat → (∀ x ∈ ns, 0 ≤ x ∧ x < 4096) → Q (.ref p) (upd H p (.lst (ns.map V.int)))
theorem c_draws (D : Df K mg "_law_draws" s__law_draws) (z_range : mg "range" = none) (z_int : mg "int" = none) :
    C8.Cal P w K mg base 1 "_law_draws" spDraws [] := by
  refine D.cal sc__law_draws (fun _ _ _ _ _ _ us hl => match us, hl with | [_, _], _ => rfl) (fun vs H Q E h => ?_) (fun f cdv A outer s H vs Q E hr h => ?_)
  · obtain ⟨c, n, rfl, _⟩ := h
    rfl
  obtain ⟨c, n, rfl, h0, h1, q⟩ := h
  refine ⟨_, (pss_cons (ps_set (i := 2) sc__law_draws.nd rfl (Or.inl rfl) (pe_lst pa_nil))
    (pss_cons (ps_set (i := 3) sc__law_draws.nd rfl (Or.inl rfl) (pv 0))
    (pss_cons (ps_for PassesOwn.never rfl (pi_range1 rfl z_range (pa_cons (pv 1) pa_nil)) (pg_name (i := 4) sc__law_draws.nd rfl (Or.inl rfl))
      (pss_one (ps_if (PW.pt (pw_and (pt_cmpR op_ge (pv 0) (pe_op op_pow pe_int pe_int) (nomark _)) (pw_and1 (pt_cmpR op_gt (pv 3) pe_int (nomark _)))))
        (pss_cons (ps_expr (pe_bm PySem.F.plainAttrs_list PySem.F.slot_list_append PySem.F.type_list_append mt_append (pv 2) (pa_cons (pe_op op_mod (pe_callTy call_int1 (by rfl) z_int (by decide +kernel) (pa_cons (pv 3) pa_nil)) pe_int) pa_nil)))
        (pss_one (ps_set (i := 3) sc__law_draws.nd rfl (Or.inl rfl) (pe_op op_fdiv (pv 3) pe_int))))
        (pss_cons (ps_set (i := 5) sc__law_draws.nd rfl (Or.inl rfl) (pe_op op_mod (pe_callTy call_int1 (by rfl) z_int (by decide +kernel) (pa_cons (pe_op op_add (pe_op op_mul (pv 0) pe_int) (pe_op op_mul (pe_op op_add (pv 4) pe_int) pe_int)) pa_nil)) pe_int))
        (pss_cons (ps_set (i := 5) sc__law_draws.nd rfl (Or.inl rfl) (pe_op op_mod (pe_callTy call_int1 (by rfl) z_int (by decide +kernel) (pa_cons (pe_op op_add (pe_op op_add (pe_op op_mul (pv 5) (pv 5)) (pe_op op_mul (pv 5) pe_int)) (pe_op op_mul (pv 4) pe_int)) pa_nil)) pe_int))
        (pss_cons (ps_set (i := 5) sc__law_draws.nd rfl (Or.inl rfl) (pe_op op_mod (pe_callTy call_int1 (by rfl) z_int (by decide +kernel) (pa_cons (pe_op op_add (pe_op op_add (pe_op op_mul (pv 5) (pv 5)) (pv 0)) (pe_op op_mul pe_int (pv 4))) pa_nil)) pe_int))
        (pss_one (ps_expr (pe_bm PySem.F.plainAttrs_list PySem.F.slot_list_append PySem.F.type_list_append mt_append (pv 2) (pa_cons (pe_op op_mod (pe_op op_fdiv (pv 5) pe_int) pe_int) pa_nil))))))))))
    (pss_one (ps_ret (pv 2)))))), ?_⟩
  refine ⟨Nat.zero_le _, fun l nl => ?_⟩
  refine ⟨_, rfl, ?_⟩
  refine ⟨_, rfl, n, rfl, by omega, by omega, for_range (lo := 0) (n := n.toNat)
    (fun i σ H' => ∃ (ns : List Int) (left : Int) (kk mm : Option V), σ = [some (.int c), some (.int n), some (.ref l), some (.int left), kk, mm] ∧ H' = upd H l (.lst (ns.map V.int)) ∧
      ns.length = i ∧ ∀ x ∈ ns, 0 ≤ x ∧ x < 4096) ⟨[], c, none, none, rfl, rfl, rfl, fun x hx => by cases hx⟩ ?_ ?_⟩
  · rintro i σ H' hi ⟨ns, left, kk, mm, rfl, rfl, hlen, hb⟩
    have hlen2 : (ns.map V.int).length < sizeLine := by rw [List.length_map]; exact small1000 (by omega)
    have last : ∀ (x : Int) (left' : Int) (mm' : Option V), 0 ≤ x → x < 4096 →
        ∃ (ns' : List Int) (left1 : Int) (kk1 mm1 : Option V), [some (V.int c), some (V.int n), some (V.ref l), some (V.int left'), some (V.int (0 + (i : Int))), mm'] = [some (V.int c), some (V.int n), some (V.ref l), some (V.int left1), kk1, mm1] ∧
          upd (upd H l (.lst (ns.map V.int))) l (.lst (ns.map V.int ++ [.int x])) = upd H l (.lst (ns'.map V.int)) ∧ ns'.length = i + 1 ∧ ∀ x ∈ ns', 0 ≤ x ∧ x < 4096 := by
      intro x left' mm' hx0 hx1
      refine ⟨ns ++ [x], left', _, _, rfl, ?_, by simp [hlen], fun y hy => ?_⟩
      · rw [upd_upd, List.map_append] <;> rfl
      · rcases List.mem_append.mp hy with z | z
        · exact hb y z
        · rw [List.mem_singleton.mp z]; exact ⟨hx0, hx1⟩
    have md : ∀ x m : Int, 0 < m → m ≤ 2147483647 → 0 ≤ x % m ∧ (-(2 ^ 64) < x % m ∧ x % m < 2 ^ 64) := fun x m h1 h2 => by
      have z1 := Int.emod_nonneg x (show m ≠ 0 by omega)
      have z2 := Int.emod_lt_of_pos x h1
      exact ⟨z1, by omega, by omega⟩
    refine ⟨_, rfl, _, _, rfl, rfl, ⟨by decide, by decide, by decide⟩, _, _, rfl, rfl, _, rfl, ?_⟩
    refine ite2 (fun c1 => ?x1) (fun c1 => iteF ?x3)
    case' x1 =>
      refine ⟨_, rfl, _, _, rfl, rfl, _, rfl, ?_⟩
      refine ite2 (fun c2 => ?x2) (fun c2 => ?x4)
      case x2 =>
        refine ⟨_, rfl, .inl ⟨rfl, _, SqL.of upd_same⟩, _, rfl, .inl ⟨_, rfl, _, _, rfl, rfl, (by show (0 : Int) < 4096; decide), l, _, _, rfl, rfl, upd_same, hlen2, ?_⟩⟩
        refine ⟨_, rfl, _, _, rfl, rfl, ⟨by decide, by decide⟩, ?_⟩
        exact last _ _ _ (Int.emod_nonneg _ (by decide)) (Int.emod_lt_of_pos _ (by decide))
    all_goals
      refine ⟨_, rfl, _, _, rfl, rfl, .inr ⟨by decide, by decide⟩, _, rfl, _, _, rfl, rfl, _, _, rfl, rfl, .inr ⟨by decide, by decide⟩, _, _, rfl, rfl, .inl ⟨_, rfl, _, _, rfl, rfl, (by show (0 : Int) < 2147483647; decide), ?_⟩⟩
      refine ⟨_, rfl, _, rfl, _, _, rfl, rfl, (.inl (md _ 2147483647 (by decide) (by decide)).2), _, rfl, _, _, rfl, rfl, .inr ⟨by decide, by decide⟩, _, _, rfl, rfl, _, rfl, _, _, rfl, rfl, .inr ⟨by decide, by decide⟩, _, _, rfl, rfl, .inl ⟨_, rfl, _, _, rfl, rfl, (by show (0 : Int) < 2147483629; decide), ?_⟩⟩
      refine ⟨_, rfl, _, rfl, _, _, rfl, rfl, (.inl (md _ 2147483629 (by decide) (by decide)).2), _, rfl, _, _, rfl, rfl, _, rfl, _, _, rfl, rfl, .inl ⟨by decide, by decide⟩, _, _, rfl, rfl, .inl ⟨_, rfl, _, _, rfl, rfl, (by show (0 : Int) < 2147483587; decide), ?_⟩⟩
      refine ⟨_, rfl, .inl ⟨rfl, _, SqL.of upd_same⟩, _, rfl, _, _, rfl, rfl, ⟨by decide, by decide⟩, _, _, rfl, rfl, (by show (0 : Int) < 4096; decide), l, _, _, rfl, rfl, upd_same, hlen2, ?_⟩
      exact last _ _ _ (Int.emod_nonneg _ (by decide)) (Int.emod_lt_of_pos _ (by decide))
  · rintro σ H' ⟨ns, left, kk, mm, rfl, rfl, hlen, hb⟩
    exact ⟨_, rfl, q l ns nl hlen hb⟩
/-- a promise that asks what can't be is kept -/
theorem calNone {x : Str} {st : Stmt} {ps : List Str} {sp : Sp} (D : Df K mg x st) (hb : BindOk x st ps) (no : ∀ vs H Q E, ¬ sp vs H Q E) : C8.Cal P w K mg base 0 x sp [] := by
  obtain ⟨f, fd, F, hm⟩ := D
  exact ⟨f, fd, ps, [], ⟨fun vs H Q E h => absurd h (no vs H Q E), fun A outer s H args us vs Q E _ _ _ _ h => absurd h (no vs H Q E)⟩, hm, F.kp, F.bindsN hb, .nil⟩
/-- the name of a datum's class -/
def tyN : PyData → String
  | .none => "NoneType"
  | .bool _ => "bool"
  | .int _ => "int"
  | .str _ => "str"
  | .list _ => "list"
  | .tuple _ => "tuple"
  | .dict _ => "dict"
theorem sqL_ty {H : Hp} {a : Addr} {xs : List V} (h : SqL K H a xs) : TyX K H (.ref a) (.type "list") := by
  rcases h with (h | ⟨o, h⟩) | ⟨o, its, n, h1, h2, _⟩
  · exact .base (.lst h)
  · exact .base (.frz h)
  · exact .kList h1 h2
theorem sqT_ty {H : Hp} {a : Addr} {xs : List V} (h : SqT K H a xs) : TyX K H (.ref a) (.type "tuple") := by
  rcases h with (h | ⟨o, h⟩) | ⟨o, its, n, h1, h2, _⟩
  · exact .base (.tup h)
  · exact .fTuple h
  · exact .kTuple h1 h2
theorem dp_ty {H : Hp} {v : V} {d : PyData} (h : Dp K H v d) : TyX K H v (.type (tyN d)) := by
  cases h with
  | non => exact .base .non
  | bl b => exact .base (.bl b)
  | int i => exact .base (.int i)
  | str x => exact .base (.str x)
  | lst h1 _ => exact sqL_ty h1
  | tup h1 _ => exact sqT_ty h1
mutual
/-- no list or tuple in it has more than n items -/
def slimD (n : Nat) : PyData → Bool
  | .list xs => decide (xs.length ≤ n) && slimAll n xs
  | .tuple xs => decide (xs.length ≤ n) && slimAll n xs
  | _ => true
def slimAll (n : Nat) : List PyData → Bool
  | [] => true
  | x :: xs => slimD n x && slimAll n xs
end
theorem depth_mem : ∀ {xs : List PyData} {d : PyData}, d ∈ xs → d.depth ≤ PyData.depthAll xs
  | x :: xs, d, h => by
    unfold PyData.depthAll
    rcases List.mem_cons.mp h with z | z
    · subst z; exact Nat.le_max_left _ _
    · exact Nat.le_trans (depth_mem z) (Nat.le_max_right _ _)
theorem slim_mem {n : Nat} : ∀ {xs : List PyData} {d : PyData}, slimAll n xs = true → d ∈ xs → slimD n d = true
  | x :: xs, d, hs, h => by
    simp only [slimAll, Bool.and_eq_true] at hs
    rcases List.mem_cons.mp h with z | z
    · subst z; exact hs.1
    · exact slim_mem hs.2 z
def noDict : PyData → Bool
  | .dict _ => false
  | _ => true
/-- the two stand for the same datum: True -/
def spLike (K : PySem.W.Frag) (m : Nat) : Sp := fun vs H Q _ => ∃ (x y : V) (d : PyData), vs = [x, y] ∧ Dp K H x d ∧ Dp K H y d ∧ d.depth < m ∧ slimD 100000 d = true ∧
  ∀ H', Same H H' → Q (.bl true) H'
theorem like_seq {H : Hp} {K : PySem.W.Frag} {xs ys : List V} {ds : List PyData} (hx : DpAll K H xs ds) (hy : DpAll K H ys ds) {i : Nat} (hi : i < ds.length) :
    ∃ x y, atI xs ((0 : Int) + (i : Int)) = some x ∧ atI ys ((0 : Int) + (i : Int)) = some y ∧ Dp K H x ds[i] ∧ Dp K H y ds[i] := by
  obtain ⟨x, h1, h2⟩ := VB.DpAll.get hx (List.getElem?_eq_getElem hi)
  obtain ⟨y, h3, h4⟩ := VB.DpAll.get hy (List.getElem?_eq_getElem hi)
  rw [Int.zero_add]
  exact ⟨x, y, atI_nat h1, atI_nat h3, h2, h4⟩
theorem sameIn {H H' : Hp} {p : Addr} {o : HO} (x : Same H H') (h : H p = none) : Same H (upd H' p o) := fun b u q => by rw [upd_ne (ne_of_none q h)]; exact x b u q
theorem sqAny {H H' : Hp} {a : Addr} {xs : List V} (s0 : Same H H') (h : SqL K H a xs ∨ SqT K H a xs) : SqL K H' a xs ∨ SqT K H' a xs :=
  h.imp (fun z => s0.seq z) fun z => Same.sqT s0 z
theorem ixAny {H : Hp} {a : Addr} {xs : List V} {i : Int} {v : V} {Q : VK} (h : SqL K H a xs ∨ SqT K H a xs) (e : atI xs i = some v) (q : Q v H) : rIx K (.ref a) (.int i) H Q := by
  rcases h with h | h
  · exact .inl ⟨a, xs, i, v, rfl, rfl, h, e, q⟩
  · exact .inr (.inl ⟨a, xs, i, v, rfl, rfl, h, e, q⟩)
theorem all_true : ∀ n : Nat, (List.replicate n true).all id = true
  | 0 => rfl
  | n + 1 => by rw [List.replicate_succ, List.all_cons, all_true n] <;> rfl
theorem c_like (D : Df K mg "_law_like" s__law_like) (z_isinstance : mg "isinstance" = none) (z_bool : mg "bool" = none) (z_str : mg "str" = none) (z_int : mg "int" = none)
    (z_list : mg "list" = none) (z_tuple : mg "tuple" = none) (z_len : mg "len" = none) (z_range : mg "range" = none) (z_all : mg "all" = none) :
    ∀ m : Nat, C8.Cal P w K mg base m "_law_like" (spLike K m) [] := by
  intro m
  induction m with
  | zero => exact calNone D (ps := ["actual", "due"]) (fun _ _ _ _ _ _ us hl => match us, hl with | [_, _], _ => rfl) fun vs H Q E ⟨_, _, _, _, _, _, z, _⟩ => Nat.not_lt_zero _ z
  | succ m c__law_like =>
    refine D.cal sc__law_like (fun _ _ _ _ _ _ us hl => match us, hl with | [_, _], _ => rfl) (fun vs H Q E h => ?_) (fun f cdv A outer s H vs Q E hr h => ?_)
    · obtain ⟨x, y, d, rfl, _⟩ := h
      rfl
    obtain ⟨x, y, d, rfl, hx, hy, hm, hw, q⟩ := h
    refine ⟨_, (pss_cons (ps_if (pt_cmpR op_isN (pv 1) pe_non (nomark _))
      (pss_one (ps_ret (pe_cmpR op_isN (pv 0) pe_non (nomark _))))
      pss_nil)
    (pss_cons (ps_if (pt_val (pe_callB (VK.isi (K := K) rfl) (by rfl) z_isinstance (by decide +kernel) (pa_cons (pv 1) (pa_cons (pe_bltn (v := .ty "bool") (by rfl) z_bool (by decide +kernel) rfl) pa_nil))))
      (pss_one (ps_ret (pe_and (pe_callB (VK.isi (K := K) rfl) (by rfl) z_isinstance (by decide +kernel) (pa_cons (pv 0) (pa_cons (pe_bltn (v := .ty "bool") (by rfl) z_bool (by decide +kernel) rfl) pa_nil))) (pe_one (pe_cmpR op_eq (pv 0) (pv 1) (nomark _))))))
      pss_nil)
    (pss_cons (ps_if (pt_val (pe_callB (VK.isi (K := K) rfl) (by rfl) z_isinstance (by decide +kernel) (pa_cons (pv 1) (pa_cons (pe_bltn (v := .ty "str") (by rfl) z_str (by decide +kernel) rfl) pa_nil))))
      (pss_one (ps_ret (pe_and (pe_callB (VK.isi (K := K) rfl) (by rfl) z_isinstance (by decide +kernel) (pa_cons (pv 0) (pa_cons (pe_bltn (v := .ty "str") (by rfl) z_str (by decide +kernel) rfl) pa_nil))) (pe_one (pe_cmpR op_eq (pv 0) (pv 1) (nomark _))))))
      pss_nil)
    (pss_cons (ps_if (pt_val (pe_callB (VK.isi (K := K) rfl) (by rfl) z_isinstance (by decide +kernel) (pa_cons (pv 1) (pa_cons (pe_bltn (v := .ty "int") (by rfl) z_int (by decide +kernel) rfl) pa_nil))))
      (pss_one (ps_ret (pe_and (pe_callB (VK.isi (K := K) rfl) (by rfl) z_isinstance (by decide +kernel) (pa_cons (pv 0) (pa_cons (pe_bltn (v := .ty "int") (by rfl) z_int (by decide +kernel) rfl) pa_nil))) (pe_and (pe_not (pe_callB (VK.isi (K := K) rfl) (by rfl) z_isinstance (by decide +kernel) (pa_cons (pv 0) (pa_cons (pe_bltn (v := .ty "bool") (by rfl) z_bool (by decide +kernel) rfl) pa_nil)))) (pe_one (pe_cmpR op_eq (pv 0) (pv 1) (nomark _)))))))
      pss_nil)
    (pss_cons (ps_if (PW.pt (pw_or (pt_cmpR op_ne (pe_callB (VK.isi (K := K) rfl) (by rfl) z_isinstance (by decide +kernel) (pa_cons (pv 1) (pa_cons (pe_bltn (v := .ty "list") (by rfl) z_list (by decide +kernel) rfl) pa_nil))) (pe_callB (VK.isi (K := K) rfl) (by rfl) z_isinstance (by decide +kernel) (pa_cons (pv 0) (pa_cons (pe_bltn (v := .ty "list") (by rfl) z_list (by decide +kernel) rfl) pa_nil))) (nomark _)) (pw_or1 (pt_cmpR op_ne (pe_callB (VK.isi (K := K) rfl) (by rfl) z_isinstance (by decide +kernel) (pa_cons (pv 1) (pa_cons (pe_bltn (v := .ty "tuple") (by rfl) z_tuple (by decide +kernel) rfl) pa_nil))) (pe_callB (VK.isi (K := K) rfl) (by rfl) z_isinstance (by decide +kernel) (pa_cons (pv 0) (pa_cons (pe_bltn (v := .ty "tuple") (by rfl) z_tuple (by decide +kernel) rfl) pa_nil))) (nomark _)))))
      (pss_one (ps_ret pe_bl))
      pss_nil)
    (pss_cons (ps_if (pt_cmpR op_ne (pe_callB (VK.lenQ (K := K) rfl) (by rfl) z_len PySem.boot_len (pa_cons (pv 0) pa_nil)) (pe_callB (VK.lenQ (K := K) rfl) (by rfl) z_len PySem.boot_len (pa_cons (pv 1) pa_nil)) (nomark _))
      (pss_one (ps_ret pe_bl))
      pss_nil)
    (pss_one (ps_ret (pe_callB (VK.allL (K := K) rfl rfl) (by rfl) z_all (by decide +kernel) (pa_cons (pe_lc (own := [("k", 2)]) (tt := tYes) rfl sc__law_like.nd (pi_range1 rfl z_range (pa_cons (pe_callB (VK.lenQ (K := K) rfl) (by rfl) z_len PySem.boot_len (pa_cons (pv 1) pa_nil)) pa_nil)) (blkOk_by (N := ["actual", "due", "k"]) (sc := defScope s__law_like) (by decide +kernel)) (fun _ _ _ _ _ => (pg_name (i := 2) sc__law_like.nd rfl (Or.inl rfl) (hf := Or.inr rfl))) (fun _ _ _ _ _ => pts_nil) (fun _ _ _ _ _ => (C8.pe_c c__law_like hr (by first | decide | omega) rfl (pa_cons (pe_ix (VK.ixQ (K := K) rfl) (pv 0) (pv 2) (fun _ _ => rfl)) (pa_cons (pe_ix (VK.ixQ (K := K) rfl) (pv 1) (pv 2) (fun _ _ => rfl)) pa_nil))))) pa_nil)))))))))), ?_⟩
    refine ⟨_, rfl, rfl, _, rfl, ?_⟩
    cases d
    case none =>
      cases hx
      cases hy
      refine ite2 (fun _ => ?_) (fun c => absurd (decide_eq_true rfl) c)
      exact ⟨_, rfl, rfl, q H (Same.refl H)⟩
    case bool b =>
      have ty : TyX K H y (.type "bool") := dp_ty hy
      have tx : TyX K H x (.type "bool") := dp_ty hx
      cases hx
      cases hy
      refine ite2 (fun c => absurd (of_decide_eq_true c) (by intro z; cases z)) (fun _ => ?_)
      refine ⟨_, rfl, _, _, _, _, true, rfl, .ty _, ty, kit_ty (by decide +kernel), _, rfl, iteT ?_⟩
      refine ⟨_, rfl, _, _, _, _, true, rfl, .ty _, tx, kit_ty (by decide +kernel), _, rfl, iteT ?_⟩
      refine ⟨_, rfl, _, rfl, rfl, ?_⟩
      rw [decide_eq_true rfl]
      exact q H (Same.refl H)
    case str b =>
      have ty : TyX K H y (.type "str") := dp_ty hy
      have tx : TyX K H x (.type "str") := dp_ty hx
      cases hx
      cases hy
      refine ite2 (fun c => absurd (of_decide_eq_true c) (by intro z; cases z)) (fun _ => ?_)
      refine ⟨_, rfl, _, _, _, _, false, rfl, .ty _, ty, kit_ty (by decide +kernel), _, rfl, iteF ?_⟩
      refine ⟨_, rfl, _, _, _, _, true, rfl, .ty _, ty, kit_ty (by decide +kernel), _, rfl, iteT ?_⟩
      refine ⟨_, rfl, _, _, _, _, true, rfl, .ty _, tx, kit_ty (by decide +kernel), _, rfl, iteT ?_⟩
      refine ⟨_, rfl, _, rfl, rfl, ?_⟩
      rw [decide_eq_true rfl]
      exact q H (Same.refl H)
    case int b =>
      have ty : TyX K H y (.type "int") := dp_ty hy
      have tx : TyX K H x (.type "int") := dp_ty hx
      cases hx
      cases hy
      refine ite2 (fun c => absurd (of_decide_eq_true c) (by intro z; cases z)) (fun _ => ?_)
      refine ⟨_, rfl, _, _, _, _, false, rfl, .ty _, ty, kit_ty (by decide +kernel), _, rfl, iteF ?_⟩
      refine ⟨_, rfl, _, _, _, _, false, rfl, .ty _, ty, kit_ty (by decide +kernel), _, rfl, iteF ?_⟩
      refine ⟨_, rfl, _, _, _, _, true, rfl, .ty _, ty, kit_ty (by decide +kernel), _, rfl, iteT ?_⟩
      refine ⟨_, rfl, _, _, _, _, true, rfl, .ty _, tx, kit_ty (by decide +kernel), _, rfl, iteT ?_⟩
      refine ⟨_, rfl, _, _, _, _, false, rfl, .ty _, tx, kit_ty (by decide +kernel), _, rfl, _, rfl, iteT ?_⟩
      refine ⟨_, rfl, _, rfl, rfl, ?_⟩
      rw [decide_eq_true rfl]
      exact q H (Same.refl H)
    case dict kvs => cases hx
    case' list ds =>
      have ty : TyX K H y (.type "list") := dp_ty hy
      have tx : TyX K H x (.type "list") := dp_ty hx
      cases hx
      cases hy
      rename_i a xs sx0 dx b ys sy0 dy
      have sx : SqL K H a xs ∨ SqT K H a xs := .inl sx0
      have sy : SqL K H b ys ∨ SqT K H b ys := .inl sy0
      refine ite2 (fun c => absurd (of_decide_eq_true c) (by intro z; cases z)) (fun _ => ?_)
      refine ⟨_, rfl, _, _, _, _, false, rfl, .ty _, ty, kit_ty (by decide +kernel), _, rfl, iteF ?_⟩
      refine ⟨_, rfl, _, _, _, _, false, rfl, .ty _, ty, kit_ty (by decide +kernel), _, rfl, iteF ?_⟩
      refine ⟨_, rfl, _, _, _, _, false, rfl, .ty _, ty, kit_ty (by decide +kernel), _, rfl, iteF ?_⟩
      refine ⟨_, rfl, _, _, _, _, true, rfl, .ty _, ty, kit_ty (by decide +kernel), _, rfl, _, _, _, _, true, rfl, .ty _, tx, kit_ty (by decide +kernel), rfl, _, rfl, iteNS rfl ?_⟩
      refine ⟨_, rfl, _, _, _, _, false, rfl, .ty _, ty, kit_ty (by decide +kernel), _, rfl, _, _, _, _, false, rfl, .ty _, tx, kit_ty (by decide +kernel), rfl, _, rfl, iteNS rfl ?_⟩
      clear sx0 sy0 ty tx
    case' tuple ds =>
      have ty : TyX K H y (.type "tuple") := dp_ty hy
      have tx : TyX K H x (.type "tuple") := dp_ty hx
      cases hx
      cases hy
      rename_i a xs sx0 dx b ys sy0 dy
      have sx : SqL K H a xs ∨ SqT K H a xs := .inr sx0
      have sy : SqL K H b ys ∨ SqT K H b ys := .inr sy0
      refine ite2 (fun c => absurd (of_decide_eq_true c) (by intro z; cases z)) (fun _ => ?_)
      refine ⟨_, rfl, _, _, _, _, false, rfl, .ty _, ty, kit_ty (by decide +kernel), _, rfl, iteF ?_⟩
      refine ⟨_, rfl, _, _, _, _, false, rfl, .ty _, ty, kit_ty (by decide +kernel), _, rfl, iteF ?_⟩
      refine ⟨_, rfl, _, _, _, _, false, rfl, .ty _, ty, kit_ty (by decide +kernel), _, rfl, iteF ?_⟩
      refine ⟨_, rfl, _, _, _, _, false, rfl, .ty _, ty, kit_ty (by decide +kernel), _, rfl, _, _, _, _, false, rfl, .ty _, tx, kit_ty (by decide +kernel), rfl, _, rfl, iteNS rfl ?_⟩
      refine ⟨_, rfl, _, _, _, _, true, rfl, .ty _, ty, kit_ty (by decide +kernel), _, rfl, _, _, _, _, true, rfl, .ty _, tx, kit_ty (by decide +kernel), rfl, _, rfl, iteNS rfl ?_⟩
      clear sx0 sy0 ty tx
    all_goals
      simp only [slimD, Bool.and_eq_true, decide_eq_true_eq] at hw
      have hm2 : PyData.depthAll ds < m := by
        have z := hm
        unfold PyData.depth at z
        omega
      have lx := VB.DpAll.len dx
      have ly := VB.DpAll.len dy
      refine ⟨_, rfl, a, xs, rfl, sx, _, rfl, b, ys, rfl, sy, rfl, _, rfl, iteNS (by rw [lx, ly]) ?_⟩
      have big : ys.length ≤ 100000 := by omega
      refine ⟨_, rfl, b, ys, rfl, sy, _, rfl, by omega, by omega, fun D nD => lc_range (lo := 0) (n := ((ys.length : Int)).toNat)
        (fun i H' => Same H H' ∧ H' D = some (.lst ((List.replicate i true).map V.bl))) ⟨same_upd nD _, upd_same⟩ ?_ ?_⟩
      · rintro i H' hi ⟨s0, hD⟩
        have hi2 : i < ds.length := by omega
        obtain ⟨xi, yi, hxi, hyi, px, py⟩ := like_seq dx dy hi2
        refine ⟨rfl, ?_⟩
        unfold tYes
        refine iteT ?_
        refine ⟨_, rfl, _, rfl, ixAny (sqAny s0 sx) hxi ⟨_, rfl, _, rfl, ixAny (sqAny s0 sy) hyi ?_⟩⟩
        refine ⟨xi, yi, ds[i], rfl, Dp.same s0 _ _ px, Dp.same s0 _ _ py, Nat.lt_of_le_of_lt (depth_mem (List.getElem_mem hi2)) hm2, slim_mem hw.2 (List.getElem_mem hi2), fun H4 s4 => ?_⟩
        refine ⟨_, s4 _ _ hD, ?_, sameIn (s0.trans s4) nD, ?_⟩
        · rw [List.length_map, List.length_replicate]
          have z := sizeLine_eq
          omega
        · rw [upd_same, List.replicate_succ', List.map_append] <;> rfl
      · rintro H' ⟨s0, hD⟩
        refine ⟨D, _, rfl, SqL.of hD, ?_⟩
        rw [all_true]
        exact q H' s0
end
end LW
namespace LW
open PySem PySem.Spec PyProof.Rows L2 LamX NdefX VB VM VP VE VX VF VY
abbrev s_has_form : Stmt := top 17
abbrev noEv : List Str := ["stop", "skip", "tau", "tick", "true", "loops"]
abbrev s_is_event : Stmt := top 16
abbrev s_is_action : Stmt := top 30
abbrev s__law_once : Stmt := top 40
abbrev s__law_system : Stmt := top 37
abbrev s_check_edges : Stmt := top 32
abbrev s_System___init__ : Stmt := inClass (top 31) 0
abbrev s_System__check_state : Stmt := inClass (top 31) 7
abbrev s_System_targets : Stmt := inClass (top 31) 3
abbrev s_closure : Stmt := top 6
abbrev s_after : Stmt := top 7
abbrev s__law_pool : Stmt := top 43
abbrev s__law_pick : Stmt := top 44
abbrev s__law_closed : Stmt := top 38
abbrev s__law_after : Stmt := top 39
abbrev s__law_actions : Stmt := top 42
abbrev s_states_after : Stmt := top 8
abbrev s_diverging_among : Stmt := top 10
abbrev s__law_lost : Stmt := top 41
abbrev s_trace_of_group : Stmt := top 22
abbrev s_System_leaving : Stmt := inClass (top 31) 2
abbrev s_ticking_edges : Stmt := top 25
abbrev s_is_stuck_after : Stmt := top 26
abbrev s__law_traces : Stmt := top 45
abbrev s__law_is_dead : Stmt := top 47
abbrev s__law_first : Stmt := top 48
abbrev s__law_places : Stmt := top 46
abbrev s_diverging : Stmt := top 9
abbrev s_stuck_trace : Stmt := top 24
abbrev s_looping_trace : Stmt := top 27
abbrev s_law : Stmt := top 49
end LW
namespace LW
open PySem PySem.Spec PyProof.Rows L2 LamX NdefX VB VM VP VE VX VF VY
abbrev s_targets_by_action : Stmt := top 21
theorem sc_targets_by_action : FnScope ["places", "edges_of", "targets", "place", "action", "target"] ["places", "edges_of"] (defScope s_targets_by_action) := ⟨rfl, rfl, rfl, by decide +kernel, rfl, by decide +kernel, by decide +kernel⟩
abbrev s_new_places : Stmt := top 20
theorem sc_new_places : FnScope ["places", "edges_of", "found", "new", "pending", "place", "action", "target"] ["places", "edges_of", "found"] (defScope s_new_places) := ⟨rfl, rfl, rfl, by decide +kernel, rfl, by decide +kernel, by decide +kernel⟩
abbrev s_least_trace : Stmt := top 19
theorem sc_least_trace : FnScope ["start", "edges_of", "is_sought", "found", "groups", "at", "place", "targets", "action", "places"] ["start", "edges_of", "is_sought"] (defScope s_least_trace) := ⟨rfl, rfl, rfl, by decide +kernel, rfl, by decide +kernel, by decide +kernel⟩
def dd (x : Str) (st : Stmt) : He.DefD := ⟨(x, none), x, x, defArgs st, defBody st, defScope st, [], []⟩
def dm (c m q : Str) (st : Stmt) : He.DefD := ⟨(c, some m), m, q, defArgs st, defBody st, defScope st, [], []⟩
def fn : List He.DefD := [dd "closure" s_closure, dd "after" s_after, dd "states_after" s_states_after, dd "diverging" s_diverging, dd "diverging_among" s_diverging_among, dd "is_event" s_is_event, dd "has_form" s_has_form, dd "least_trace" s_least_trace, dd "new_places" s_new_places, dd "targets_by_action" s_targets_by_action, dd "trace_of_group" s_trace_of_group, dd "stuck_trace" s_stuck_trace, dd "ticking_edges" s_ticking_edges, dd "is_stuck_after" s_is_stuck_after, dd "looping_trace" s_looping_trace, dd "is_action" s_is_action, dd "check_edges" s_check_edges, dd "_law_cell" s__law_cell, dd "_law_draws" s__law_draws, dd "_law_like" s__law_like, dd "_law_system" s__law_system, dd "_law_closed" s__law_closed, dd "_law_after" s__law_after, dd "_law_once" s__law_once, dd "_law_lost" s__law_lost, dd "_law_actions" s__law_actions, dd "_law_pool" s__law_pool, dd "_law_pick" s__law_pick, dd "_law_traces" s__law_traces, dd "_law_places" s__law_places, dd "_law_is_dead" s__law_is_dead, dd "_law_first" s__law_first, dd "law" s_law, dm "System" "__init__" "System.__init__" s_System___init__, dm "System" "targets" "System.targets" s_System_targets, dm "System" "leaving" "System.leaving" s_System_leaving, dm "System" "_check_state" "System._check_state" s_System__check_state]
def fa : List He.Fa := [.glo "closure", .glo "after", .glo "states_after", .glo "diverging", .glo "diverging_among", .glo "is_event", .glo "has_form", .glo "least_trace", .glo "new_places", .glo "targets_by_action", .glo "trace_of_group", .glo "stuck_trace", .glo "ticking_edges", .glo "is_stuck_after", .glo "looping_trace", .glo "is_action", .glo "check_edges", .glo "_law_cell", .glo "_law_draws", .glo "_law_like", .glo "_law_system", .glo "_law_closed", .glo "_law_after", .glo "_law_once", .glo "_law_lost", .glo "_law_actions", .glo "_law_pool", .glo "_law_pick", .glo "_law_traces", .glo "_law_places", .glo "_law_is_dead", .glo "_law_first", .glo "law", .free "len", .free "range", .free "abs", .free "int", .free "isinstance", .free "bool", .free "str", .free "list", .free "tuple", .free "set", .free "sorted", .free "all", .free "any", .free "reversed", .str "LOWER" "abcdefghijklmnopqrstuvwxyz", .str "DIGITS" "0123456789", .int "LONGEST_NAME" 12, .glo "NO_EVENTS", .int "MOST_STATES" 20000, .glo "System", .cls "System", .noat "System" "count", .noat "System" "edges", .noat "System" "_leaving", .noat "System" "_targets", .mkr "System", .meth "System" "targets", .meth "System" "leaving", .meth "System" "_check_state", .glo "BadArgument", .exc "BadArgument", .exm "BadArgument" "BadArgument" true, .glo "BadSystem", .exc "BadSystem", .exm "BadSystem" "BadSystem" true]
abbrev loose : List Str := (["LOWER", "DIGITS", "LONGEST_NAME", "NO_EVENTS", "MOST_STATES", "ParleyError", "BadArgument", "BadSystem", "System", "_wall", "closure", "after", "states_after", "diverging", "diverging_among", "is_event", "has_form", "least_trace", "new_places", "targets_by_action", "trace_of_group", "stuck_trace", "ticking_edges", "is_stuck_after"] : List Str) ++ (["looping_trace", "is_action", "check_edges", "_law_cell", "_law_draws", "_law_like", "_law_system", "_law_closed", "_law_after", "_law_once", "_law_lost", "_law_actions", "_law_pool", "_law_pick", "_law_traces", "_law_places", "_law_is_dead", "_law_first"] : List Str)
abbrev lawAt : Nat := 49
theorem i_closure : fn[0]? = some (dd "closure" s_closure) := rfl
theorem i_after : fn[1]? = some (dd "after" s_after) := rfl
theorem i_states_after : fn[2]? = some (dd "states_after" s_states_after) := rfl
theorem i_diverging : fn[3]? = some (dd "diverging" s_diverging) := rfl
theorem i_diverging_among : fn[4]? = some (dd "diverging_among" s_diverging_among) := rfl
theorem i_is_event : fn[5]? = some (dd "is_event" s_is_event) := rfl
theorem i_has_form : fn[6]? = some (dd "has_form" s_has_form) := rfl
theorem i_least_trace : fn[7]? = some (dd "least_trace" s_least_trace) := rfl
theorem i_new_places : fn[8]? = some (dd "new_places" s_new_places) := rfl
theorem i_targets_by_action : fn[9]? = some (dd "targets_by_action" s_targets_by_action) := rfl
theorem i_trace_of_group : fn[10]? = some (dd "trace_of_group" s_trace_of_group) := rfl
theorem i_stuck_trace : fn[11]? = some (dd "stuck_trace" s_stuck_trace) := rfl
theorem i_ticking_edges : fn[12]? = some (dd "ticking_edges" s_ticking_edges) := rfl
theorem i_is_stuck_after : fn[13]? = some (dd "is_stuck_after" s_is_stuck_after) := rfl
theorem i_looping_trace : fn[14]? = some (dd "looping_trace" s_looping_trace) := rfl
theorem i_is_action : fn[15]? = some (dd "is_action" s_is_action) := rfl
theorem i_check_edges : fn[16]? = some (dd "check_edges" s_check_edges) := rfl
theorem i__law_cell : fn[17]? = some (dd "_law_cell" s__law_cell) := rfl
theorem i__law_draws : fn[18]? = some (dd "_law_draws" s__law_draws) := rfl
theorem i__law_like : fn[19]? = some (dd "_law_like" s__law_like) := rfl
theorem i__law_system : fn[20]? = some (dd "_law_system" s__law_system) := rfl
theorem i__law_closed : fn[21]? = some (dd "_law_closed" s__law_closed) := rfl
theorem i__law_after : fn[22]? = some (dd "_law_after" s__law_after) := rfl
theorem i__law_once : fn[23]? = some (dd "_law_once" s__law_once) := rfl
theorem i__law_lost : fn[24]? = some (dd "_law_lost" s__law_lost) := rfl
theorem i__law_actions : fn[25]? = some (dd "_law_actions" s__law_actions) := rfl
theorem i__law_pool : fn[26]? = some (dd "_law_pool" s__law_pool) := rfl
theorem i__law_pick : fn[27]? = some (dd "_law_pick" s__law_pick) := rfl
theorem i__law_traces : fn[28]? = some (dd "_law_traces" s__law_traces) := rfl
theorem i__law_places : fn[29]? = some (dd "_law_places" s__law_places) := rfl
theorem i__law_is_dead : fn[30]? = some (dd "_law_is_dead" s__law_is_dead) := rfl
theorem i__law_first : fn[31]? = some (dd "_law_first" s__law_first) := rfl
theorem i_law : fn[32]? = some (dd "law" s_law) := rfl
theorem i_System___init__ : fn[33]? = some (dm "System" "__init__" "System.__init__" s_System___init__) := rfl
theorem i_System_targets : fn[34]? = some (dm "System" "targets" "System.targets" s_System_targets) := rfl
theorem i_System_leaving : fn[35]? = some (dm "System" "leaving" "System.leaving" s_System_leaving) := rfl
theorem i_System__check_state : fn[36]? = some (dm "System" "_check_state" "System._check_state" s_System__check_state) := rfl
theorem j_closure : fa[0]? = some (.glo "closure") := rfl
theorem j_after : fa[1]? = some (.glo "after") := rfl
theorem j_states_after : fa[2]? = some (.glo "states_after") := rfl
theorem j_diverging : fa[3]? = some (.glo "diverging") := rfl
theorem j_diverging_among : fa[4]? = some (.glo "diverging_among") := rfl
theorem j_is_event : fa[5]? = some (.glo "is_event") := rfl
theorem j_has_form : fa[6]? = some (.glo "has_form") := rfl
theorem j_least_trace : fa[7]? = some (.glo "least_trace") := rfl
theorem j_new_places : fa[8]? = some (.glo "new_places") := rfl
theorem j_targets_by_action : fa[9]? = some (.glo "targets_by_action") := rfl
theorem j_trace_of_group : fa[10]? = some (.glo "trace_of_group") := rfl
theorem j_stuck_trace : fa[11]? = some (.glo "stuck_trace") := rfl
theorem j_ticking_edges : fa[12]? = some (.glo "ticking_edges") := rfl
theorem j_is_stuck_after : fa[13]? = some (.glo "is_stuck_after") := rfl
theorem j_looping_trace : fa[14]? = some (.glo "looping_trace") := rfl
theorem j_is_action : fa[15]? = some (.glo "is_action") := rfl
theorem j_check_edges : fa[16]? = some (.glo "check_edges") := rfl
theorem j__law_cell : fa[17]? = some (.glo "_law_cell") := rfl
theorem j__law_draws : fa[18]? = some (.glo "_law_draws") := rfl
theorem j__law_like : fa[19]? = some (.glo "_law_like") := rfl
theorem j__law_system : fa[20]? = some (.glo "_law_system") := rfl
theorem j__law_closed : fa[21]? = some (.glo "_law_closed") := rfl
theorem j__law_after : fa[22]? = some (.glo "_law_after") := rfl
theorem j__law_once : fa[23]? = some (.glo "_law_once") := rfl
theorem j__law_lost : fa[24]? = some (.glo "_law_lost") := rfl
theorem j__law_actions : fa[25]? = some (.glo "_law_actions") := rfl
theorem j__law_pool : fa[26]? = some (.glo "_law_pool") := rfl
theorem j__law_pick : fa[27]? = some (.glo "_law_pick") := rfl
theorem j__law_traces : fa[28]? = some (.glo "_law_traces") := rfl
theorem j__law_places : fa[29]? = some (.glo "_law_places") := rfl
theorem j__law_is_dead : fa[30]? = some (.glo "_law_is_dead") := rfl
theorem j__law_first : fa[31]? = some (.glo "_law_first") := rfl
theorem j_law : fa[32]? = some (.glo "law") := rfl
theorem j_len : fa[33]? = some (.free "len") := rfl
theorem j_range : fa[34]? = some (.free "range") := rfl
theorem j_abs : fa[35]? = some (.free "abs") := rfl
theorem j_int : fa[36]? = some (.free "int") := rfl
theorem j_isinstance : fa[37]? = some (.free "isinstance") := rfl
theorem j_bool : fa[38]? = some (.free "bool") := rfl
theorem j_str : fa[39]? = some (.free "str") := rfl
theorem j_list : fa[40]? = some (.free "list") := rfl
theorem j_tuple : fa[41]? = some (.free "tuple") := rfl
theorem j_set : fa[42]? = some (.free "set") := rfl
theorem j_sorted : fa[43]? = some (.free "sorted") := rfl
theorem j_all : fa[44]? = some (.free "all") := rfl
theorem j_any : fa[45]? = some (.free "any") := rfl
theorem j_reversed : fa[46]? = some (.free "reversed") := rfl
theorem j_LOWER : fa[47]? = some (.str "LOWER" "abcdefghijklmnopqrstuvwxyz") := rfl
theorem j_DIGITS : fa[48]? = some (.str "DIGITS" "0123456789") := rfl
theorem j_LONGEST_NAME : fa[49]? = some (.int "LONGEST_NAME" 12) := rfl
theorem j_NO_EVENTS : fa[50]? = some (.glo "NO_EVENTS") := rfl
theorem j_MOST_STATES : fa[51]? = some (.int "MOST_STATES" 20000) := rfl
theorem j_System : fa[52]? = some (.glo "System") := rfl
theorem j_cls_System : fa[53]? = some (.cls "System") := rfl
theorem j_noat_System_count : fa[54]? = some (.noat "System" "count") := rfl
theorem j_noat_System_edges : fa[55]? = some (.noat "System" "edges") := rfl
theorem j_noat_System__leaving : fa[56]? = some (.noat "System" "_leaving") := rfl
theorem j_noat_System__targets : fa[57]? = some (.noat "System" "_targets") := rfl
theorem j_mkr_System : fa[58]? = some (.mkr "System") := rfl
theorem j_meth_System_targets : fa[59]? = some (.meth "System" "targets") := rfl
theorem j_meth_System_leaving : fa[60]? = some (.meth "System" "leaving") := rfl
theorem j_meth_System__check_state : fa[61]? = some (.meth "System" "_check_state") := rfl
theorem j_BadArgument : fa[62]? = some (.glo "BadArgument") := rfl
theorem j_exc_BadArgument : fa[63]? = some (.exc "BadArgument") := rfl
theorem j_exm_BadArgument : fa[64]? = some (.exm "BadArgument" "BadArgument" true) := rfl
theorem j_BadSystem : fa[65]? = some (.glo "BadSystem") := rfl
theorem j_exc_BadSystem : fa[66]? = some (.exc "BadSystem") := rfl
theorem j_exm_BadSystem : fa[67]? = some (.exm "BadSystem" "BadSystem" true) := rfl
def ts : List He.Tab := []
abbrev tSt : He.Defn := ("stuck_trace", none)
abbrev tLo : He.Defn := ("looping_trace", none)
def tf : List He.Defn := [tSt, tLo]
def ex (K : PySem.W.Frag) : Bool := He.tupB K "NO_EVENTS" (noEv.map He.Dv.str) && decide ((He.cT K tSt).2 ≠ (He.cT K tLo).2)
abbrev RR : PySem.W.OpenRow := PySem.W.OpenLaw.row PySem.Challenge.rw_parley_k67_least_stuck_and_looping_trace
abbrev hk : PySem.W.Hook := VHK.hookQ 5 fa fn ts tf ex
def ob (s : PySem.W.SharedT) : He.AlX := VHK.obsQ 5 fa fn ts tf ex (HandSHeadRun.getT s)
theorem ob_eq (s : PySem.W.SharedT) : ob s = hk.obs s.abs := VHK.obsQ_eq (HandSHeadRun.getT_eq s)
theorem runF (w : World) : HandSHeadRun.RunEq RR (PySem.W.view RR.prog [lawAt]) hk ob 8000 loose (w.withFollow "special-get-raises" false) := by
  intro os
  kernel_rfl
theorem runT (w : World) : HandSHeadRun.RunEq RR (PySem.W.view RR.prog [lawAt]) hk ob 8000 loose (w.withFollow "special-get-raises" true) := by
  intro os
  kernel_rfl
theorem run (w : World) : HandSHeadRun.RunEq RR (PySem.W.view RR.prog [lawAt]) hk ob 8000 loose w := PySem.W.byRow2 "special-get-raises" runF runT w
end LW

set_option Elab.async false
set_option linter.all false
set_option maxRecDepth 100000
set_option maxHeartbeats 4000000
namespace LW
open PySem PySem.Spec PyProof.Rows L2 LamX NdefX VB VM VP
theorem sc_has_form : FnScope ["word", "firsts", "signs", "sign"] ["word", "firsts", "signs"] (defScope s_has_form) := ⟨rfl, rfl, rfl, by decide +kernel, rfl, by decide +kernel, by decide +kernel⟩
theorem inV_strs (x : Str) : ∀ ss : List Str, inV (.str x) (ss.map V.str) = decide (x ∈ ss)
  | [] => by simp [inV]
  | y :: ss => by
    have ih := inV_strs x ss
    unfold inV at ih ⊢
    rw [List.map_cons, List.any_cons, ih]
    show ((y == x) || decide (x ∈ ss)) = _
    by_cases e : x = y
    · subst e; simp
    · have e2 : (y == x) = false := beq_eq_false_iff_ne.mpr (fun z => e z.symm)
      rw [e2]
      simp [e]
/-- the form of a name: its first sign, its signs, its length -/
def hasForm (f g : List Nat) : List Nat → Bool
  | [] => false
  | c :: r => decide ((c :: r).length ≤ 12) && (decide (c ∈ f) && (c :: r).all fun d => decide (d ∈ g))
theorem hasForm_cons (f g : List Nat) (c : Nat) (r : List Nat) : hasForm f g (c :: r) = (decide ((c :: r).length ≤ 12) && (decide (c ∈ f) && (c :: r).all fun d => decide (d ∈ g))) := rfl
section
variable {P : Program} {w : World} {K : PySem.W.Frag} {mg : Str → Option Value} {base : Heap}
def spForm : Sp := fun vs H Q _ => ∃ (x f g : Str), vs = [.str x, .str f, .str g] ∧ x.length ≤ 1000 ∧
  ∀ H', Same H H' → Q (.bl (hasForm f.cps.toList g.cps.toList x.cps.toList)) H'
theorem len_codes (x : Str) : x.length = x.cps.toList.length := by
  rw [Array.length_toList] <;> rfl
theorem c_form (D : Df K mg "has_form" s_has_form) (z_len : mg "len" = none) (z_all : mg "all" = none) (g_LONGEST_NAME : ∃ u, mg "LONGEST_NAME" = some u ∧ RelV (.int 12) u) :
    C8.Cal P w K mg base 1 "has_form" spForm [] := by
  refine D.cal sc_has_form (fun _ _ _ _ _ _ us hl => match us, hl with | [_, _, _], _ => rfl) (fun vs H Q E h => ?_) (fun f cdv A outer s H vs Q E hr h => ?_)
  · obtain ⟨x, f, g, rfl, _⟩ := h
    rfl
  obtain ⟨x, fs, gs, rfl, hx, q⟩ := h
  refine ⟨_, (pss_cons (ps_if (pt_not (pt_chain op_le op_le pe_int (pe_callB call_len_str (by rfl) z_len PySem.boot_len (pa_cons (pv 0) pa_nil)) (C8.pe_gc rfl g_LONGEST_NAME)))
      (pss_one (ps_ret pe_bl))
      pss_nil)
    (pss_one (ps_ret (pe_and (pe_cmpR op_in_sign (pe_ix ix_str (pv 0) pe_int (fun _ _ => rfl)) (pv 1) rfl) (pe_one (pe_callB (VK.allL (K := K) rfl rfl) (by rfl) z_all (by decide +kernel) (pa_cons (pe_lc (own := [("sign", 3)]) (tt := tYes) rfl sc_has_form.nd (pi_str (pv 0)) (blkOk_by (N := ["word", "firsts", "signs", "sign"]) (sc := defScope s_has_form) (by decide +kernel)) (fun _ _ _ _ _ => (pg_name (i := 3) sc_has_form.nd rfl (Or.inl rfl) (hf := Or.inr rfl))) (fun _ _ _ _ _ => pts_nil) (fun _ _ _ _ _ => (pe_cmpR op_in_sign (pv 3) (pv 2) rfl))) pa_nil))))))), ?_⟩
  have zl := sizeLine_eq
  have el := len_codes x
  refine ⟨_, rfl, _, rfl, by omega, _, _, rfl, rfl, _, rfl, ?_⟩
  refine ite2 (fun c1 => ?_) (fun c1 => ?_)
  · have c1' : (1 : Int) ≤ (x.length : Int) := of_decide_eq_true c1
    refine ⟨_, _, rfl, rfl, _, rfl, ?_⟩
    by_cases c2 : ((x.length : Nat) : Int) ≤ 12
    · rw [decide_eq_true c2]
      refine iteF ?_
      -- the codes
      obtain ⟨c, r, er⟩ : ∃ c r, x.cps.toList = c :: r := by
        cases e : x.cps.toList with
        | nil => rw [e] at el; exact absurd c1' (by rw [el]; decide)
        | cons c r => exact ⟨c, r, rfl⟩
      have e0 : atI x.cps.toList 0 = some c := by rw [er]; exact atI_nat (xs := c :: r) (j := 0) rfl
      refine ⟨_, rfl, _, _, c, rfl, rfl, by omega, e0, _, rfl, _, _, rfl, rfl, _, rfl, ?_⟩
      have e12 : decide ((c :: r).length ≤ 12) = true := decide_eq_true (by rw [← er, ← el]; omega)
      refine ite2 (fun c3 => ?_) (fun c3 => ?_)
      · refine ⟨_, rfl, _, rfl, fun D1 nD => ?_⟩
        have sz : x.cps.size = (c :: r).length := by rw [← Array.length_toList, er]
        refine lc_it walk_str (fun i H' => Same H H' ∧ H' D1 = some (.lst ((((c :: r).take i).map fun d => decide (d ∈ gs.cps.toList)).map V.bl))) ⟨same_upd nD _, upd_same⟩ (fun _ _ _ _ => trivial) ?_ ?_
        · rintro i y H1 H' hi ⟨s1, hD⟩ ⟨rfl, d, hd, rfl⟩
          have hd2 : (c :: r)[i]? = some d := by rw [← er, Array.getElem?_toList]; exact hd
          refine ⟨rfl, ?_⟩
          unfold tYes
          refine iteT ?_
          refine ⟨_, rfl, _, rfl, d, _, rfl, rfl, ?_⟩
          refine ⟨_, hD, ?_, sameIn s1 nD, ?_⟩
          · have ell : (c :: r).length ≤ 1000 := by rw [← er, ← el]; exact hx
            rw [List.length_map, List.length_map, List.length_take]
            omega
          · rw [upd_same, List.take_add_one, hd2, List.map_append, List.map_append] <;> rfl
        · rintro H' ⟨s1, hD⟩
          rw [sz, List.take_length] at hD
          refine ⟨D1, _, rfl, SqL.of hD, ?_⟩
          have z := q H' s1
          rw [er] at z
          have e : hasForm fs.cps.toList gs.cps.toList (c :: r) = ((c :: r).map fun d => decide (d ∈ gs.cps.toList)).all id := by
            rw [hasForm_cons]
            rw [e12, c3, List.all_map] <;> rfl
          rw [e] at z
          exact z
      · have z := q H (Same.refl H)
        rw [er] at z
        have e : hasForm fs.cps.toList gs.cps.toList (c :: r) = false := by
          rw [hasForm_cons]
          rw [e12, Bool.eq_false_iff.mpr c3] <;> rfl
        rw [e] at z
        exact z
    · rw [decide_eq_false c2]
      refine iteT ?_
      have z := q H (Same.refl H)
      have e : hasForm fs.cps.toList gs.cps.toList x.cps.toList = false := by
        cases e : x.cps.toList with
        | nil => rfl
        | cons c r =>
          rw [hasForm_cons]
          rw [decide_eq_false (show ¬ (c :: r).length ≤ 12 by rw [← e, ← el]; omega)] <;> rfl
      rw [e] at z
      exact z
  · have c1' : ¬ (1 : Int) ≤ (x.length : Int) := fun z => c1 (decide_eq_true z)
    refine ⟨_, rfl, iteT ?_⟩
    have z := q H (Same.refl H)
    have e : hasForm fs.cps.toList gs.cps.toList x.cps.toList = false := by
      cases e : x.cps.toList with
      | nil => rfl
      | cons c r => rw [e] at el; rw [List.length_cons] at el; omega
    rw [e] at z
    exact z
abbrev LOW : Str := "abcdefghijklmnopqrstuvwxyz"
abbrev DIG : Str := "0123456789"
def isEvent (x : Str) : Bool := hasForm LOW.cps.toList (LOW ++ DIG).cps.toList x.cps.toList && !decide (x ∈ noEv)
def spTest (t : Str → Bool) : Sp := fun vs H Q _ => ∃ (x : Str), vs = [.str x] ∧ x.length ≤ 1000 ∧ ∀ H', Same H H' → Q (.bl (t x)) H'
end
end LW

set_option Elab.async false
set_option linter.all false
set_option maxRecDepth 100000
set_option maxHeartbeats 4000000
namespace LW
open PySem PySem.Spec PyProof.Rows L2 LamX NdefX VB VM VP
theorem sc_is_event : FnScope ["word"] ["word"] (defScope s_is_event) := ⟨rfl, rfl, rfl, by decide +kernel, rfl, by decide +kernel, by decide +kernel⟩
theorem sc_is_action : FnScope ["word"] ["word"] (defScope s_is_action) := ⟨rfl, rfl, rfl, by decide +kernel, rfl, by decide +kernel, by decide +kernel⟩
section
variable {P : Program} {w : World} {K : PySem.W.Frag} {mg : Str → Option Value} {base : Heap}
theorem c_event {na : Addr} (D : Df K mg "is_event" s_is_event) (g_LOWER : ∃ u, mg "LOWER" = some u ∧ RelV (.str LOW) u) (g_DIGITS : ∃ u, mg "DIGITS" = some u ∧ RelV (.str DIG) u)
    (g_NO_EVENTS : ∃ u, mg "NO_EVENTS" = some u ∧ RelV (.ref na) u) (hNE : ∀ H, SqT K H na (noEv.map V.str)) (c_has_form : C8.Cal P w K mg base 1 "has_form" spForm []) :
    C8.Cal P w K mg base 2 "is_event" (spTest isEvent) [] := by
  refine D.cal sc_is_event (fun _ _ _ _ _ _ us hl => match us, hl with | [_], _ => rfl) (fun vs H Q E h => ?_) (fun f cdv A outer s H vs Q E hr h => ?_)
  · obtain ⟨x, rfl, _⟩ := h
    rfl
  obtain ⟨x, rfl, hx, q⟩ := h
  refine ⟨_, (pss_one (ps_ret (pe_and (C8.pe_c c_has_form hr (by first | decide | omega) rfl (pa_cons (pv 0) (pa_cons (C8.pe_gc rfl g_LOWER) (pa_cons (pe_op op_add_str (C8.pe_gc rfl g_LOWER) (C8.pe_gc rfl g_DIGITS)) pa_nil)))) (pe_one (pe_cmpR (VK.notInQ (K := K) rfl) (pv 0) (C8.pe_gc rfl g_NO_EVENTS) rfl))))), ?_⟩
  refine ⟨_, rfl, _, _, rfl, rfl, (by decide), x, LOW, LOW ++ DIG, rfl, hx, fun H1 s1 => ?_⟩
  refine ⟨_, rfl, ?_⟩
  have z := q H1 s1
  unfold isEvent at z
  refine ite2 (fun c => ?_) (fun c => ?_)
  · refine ⟨_, rfl, na, _, rfl, .inr (hNE H1), rfl, rfl, ?_⟩
    rw [c, Bool.true_and] at z
    show Q (.bl (!inV (.str x) (noEv.map V.str))) H1
    rw [inV_strs]
    exact z
  · rw [Bool.eq_false_iff.mpr c, Bool.false_and] at z
    exact z

def isAct (x : Str) : Bool := isEvent x || decide (x ∈ [("tau" : Str), "tick"])
theorem c_action (D : Df K mg "is_action" s_is_action) (c_is_event : C8.Cal P w K mg base 2 "is_event" (spTest isEvent) []) : C8.Cal P w K mg base 3 "is_action" (spTest isAct) [] := by
  refine D.cal sc_is_action (fun _ _ _ _ _ _ us hl => match us, hl with | [_], _ => rfl) (fun vs H Q E h => ?_) (fun f cdv A outer s H vs Q E hr h => ?_)
  · obtain ⟨x, rfl, _⟩ := h
    rfl
  obtain ⟨x, rfl, hx, q⟩ := h
  refine ⟨_, (pss_one (ps_ret (pe_or (C8.pe_c c_is_event hr (by first | decide | omega) rfl (pa_cons (pv 0) pa_nil)) (pe_one (pe_cmpR (VK.inQ (K := K) rfl) (pv 0) (pe_tup (pa_cons pe_str (pa_cons pe_str pa_nil))) rfl))))), ?_⟩
  have zl := sizeLine_eq
  refine ⟨_, rfl, x, rfl, hx, fun H1 s1 => ⟨_, rfl, ?_⟩⟩
  refine ite2 (fun c => ?_) (fun c => ?_)
  · have z := q H1 s1
    unfold isAct at z
    rw [c, Bool.true_or] at z
    exact z
  · refine ⟨_, rfl, (by show 2 ≤ sizeLine; omega), fun t nt => ⟨t, _, rfl, .inr (.inl (.inl upd_same)), rfl, rfl, ?_⟩⟩
    have z := q _ (s1.trans (same_upd nt (.tup [V.str "tau", V.str "tick"])))
    unfold isAct at z
    rw [Bool.eq_false_iff.mpr c, Bool.false_or] at z
    show Q (.bl (inV (.str x) ([("tau" : Str), "tick"].map V.str))) _
    rw [inV_strs]
    exact z
theorem acts_act : ∀ x ∈ acts, isAct x = true := by decide +kernel
end
end LW

set_option Elab.async false
set_option linter.all false
set_option maxRecDepth 100000
set_option maxHeartbeats 4000000
namespace LW
open PySem PySem.Spec PyProof.Rows L2 LamX NdefX VB VM VP
theorem sc__law_once : FnScope ["rows", "found", "row"] ["rows"] (defScope s__law_once) := ⟨rfl, rfl, rfl, by decide +kernel, rfl, by decide +kernel, by decide +kernel⟩
theorem sc__law_system : FnScope ["cell", "most", "draws", "count", "edges", "k", "draw", "action"] ["cell", "most"] (defScope s__law_system) := ⟨rfl, rfl, rfl, by decide +kernel, rfl, by decide +kernel, by decide +kernel⟩
section
variable {P : Program} {w : World} {K : PySem.W.Frag} {mg : Str → Option Value} {base : Heap}
/-- each edge once, of very many -/
def spOnceM (K : PySem.W.Frag) : Sp := fun vs H Q _ => ∃ (a : Addr) (L : List (Addr × Ed)), vs = [.ref a] ∧ SqL K H a (refs L) ∧ Eds K H L ∧ L.length ≤ 10000000 ∧ (∀ p ∈ L, p.2.2.1 ∈ acts) ∧
  ∀ (p : Addr) (L' : List (Addr × Ed)), H p = none → (∀ x ∈ L', x ∈ L) → L'.map (·.2) = onceG [] (L.map (·.2)) → Q (.ref p) (upd H p (.lst (refs L')))
theorem c_onceM (D : Df K mg "_law_once" s__law_once) : C8.Cal P w K mg base 1 "_law_once" (spOnceM K) [] := by
  refine D.cal sc__law_once (fun _ _ _ _ _ _ us hl => match us, hl with | [_], _ => rfl) (fun vs H Q E h => ?_) (fun f cdv A outer s H vs Q E hr h => ?_)
  · obtain ⟨a, L, rfl, _⟩ := h
    rfl
  obtain ⟨a, L, rfl, hS, hE, hz, ha, q⟩ := h
  refine ⟨_, (pss_cons (ps_set (i := 1) sc__law_once.nd rfl (Or.inl rfl) (pe_lst pa_nil))
    (pss_cons (ps_for PassesOwn.never rfl (pi_list (pv 0)) (pg_name (i := 2) sc__law_once.nd rfl (Or.inl rfl))
      (pss_one (ps_if (pt_cmpR (VP.notInD (K := K) rfl (VP.un65 hr)) (pv 2) (pv 1) rfl)
        (pss_one (ps_expr (pe_bm PySem.F.plainAttrs_list PySem.F.slot_list_append PySem.F.type_list_append mt_append (pv 1) (pa_cons (pv 2) pa_nil))))
        pss_nil)))
    (pss_one (ps_ret (pv 1))))), ?_⟩
  have zl := sizeLine_eq
  refine ⟨Nat.zero_le _, fun l nl => ?_⟩
  have s0 : ∀ o, Same H (upd H l o) := fun o => same_upd nl o
  refine ⟨_, rfl, a, rfl, ⟨_, (s0 _).seq hS⟩, for_list (K := K) (a := a) (xs := refs L)
    (fun i σ H' => ∃ (rr : Option V) (L' : List (Addr × Ed)), σ = [some (.ref a), some (.ref l), rr] ∧ H' = upd H l (.lst (refs L')) ∧ (∀ x ∈ L', x ∈ L) ∧ L'.map (·.2) = onceG [] ((L.map (·.2)).take i) ∧ L'.length ≤ i)
    ⟨none, [], rfl, rfl, fun x z => absurd z List.not_mem_nil, rfl, Nat.le_refl _⟩ (fun i σ H' _ ⟨_, _, _, e, _⟩ => by rw [e]; exact (s0 _).seq hS) ?_ ?_⟩
  · rintro i v σ H' hv ⟨rr, L', rfl, rfl, sub, eL, len⟩
    obtain ⟨p, hp, rfl⟩ := refs_at hv
    have pin := List.mem_of_getElem? hp
    have hE' : Eds K (upd H l (.lst (refs L'))) L := hE.kp (Kp.of (s0 _))
    have hl : upd H l (.lst (refs L')) l = some (.lst (refs L')) := upd_same
    have small : i < L.length := (List.getElem?_eq_some_iff.mp hp).1
    have tk : (L.map (·.2)).take (i + 1) = (L.map (·.2)).take i ++ [p.2] := by rw [List.take_succ, List.getElem?_map, hp] <;> rfl
    have eDp : Dp K (upd H l (.lst (refs L'))) (.ref l) (.list ((L'.map (·.2)).map edD)) := by
      rw [List.map_map]
      exact .lst (SqL.of hl) (Eds.all fun x hx => hE' x (sub x hx))
    refine ⟨_, rfl, _, rfl, _, _, edDp (hE' p pin), eDp, ed_shaped (acts_ok _ (ha p pin)).1, eds_shaped (fun e he => ?_), ?_⟩
    · obtain ⟨x, hx, rfl⟩ := List.mem_map.mp he
      exact (acts_ok _ (ha x (sub x hx))).1
    rw [any_ed, eL]
    refine ⟨_, rfl, ?_⟩
    refine ite2 (fun c => ?_) (fun c => ?_)
    · have nin : ¬ p.2 ∈ onceG [] ((L.map (·.2)).take i) := by simpa using c
      refine ⟨_, rfl, .inl ⟨rfl, _, SqL.of hl⟩, _, rfl, l, _, _, rfl, rfl, hl, (by rw [List.length_map]; omega), ?_⟩
      refine ⟨_, L' ++ [p], rfl, by rw [upd_upd, refs_snoc], fun x hx => ?_, ?_, by rw [List.length_append, List.length_singleton]; omega⟩
      · rcases List.mem_append.mp hx with z | z
        · exact sub x z
        · rw [List.mem_singleton.mp z]; exact pin
      · rw [tk, onceG_snoc, if_neg nin, List.map_append, eL] <;> rfl
    · have inn : p.2 ∈ onceG [] ((L.map (·.2)).take i) := by simpa using c
      refine ⟨_, L', rfl, rfl, sub, ?_, by omega⟩
      rw [tk, onceG_snoc, if_pos inn, eL]
  · rintro σ H' ⟨rr, L', rfl, rfl, sub, eL, len⟩
    rw [List.length_map] at eL
    rw [List.take_of_length_le (by rw [List.length_map]; exact Nat.le_refl _)] at eL
    exact ⟨_, rfl, q l L' nl sub eL⟩
/-- each edge once -/
def spOnceE (K : PySem.W.Frag) : Sp := fun vs H Q _ => ∃ (a : Addr) (L : List (Addr × Ed)), vs = [.ref a] ∧ SqL K H a (refs L) ∧ Eds K H L ∧ L.length ≤ 1000 ∧ (∀ p ∈ L, p.2.2.1 ∈ acts) ∧
  ∀ (p : Addr) (L' : List (Addr × Ed)), H p = none → (∀ x ∈ L', x ∈ L) → L'.map (·.2) = onceG [] (L.map (·.2)) → Q (.ref p) (upd H p (.lst (refs L')))
theorem c_onceE (D : Df K mg "_law_once" s__law_once) : C8.Cal P w K mg base 1 "_law_once" (spOnceE K) [] := VB.calImp (c_onceM D) fun vs H Q _ ⟨a, L, h1, h2, h3, h4, h5⟩ => ⟨a, L, h1, h2, h3, by omega, h5⟩
/-- a system that is drawn -/
def spSys5 (K : PySem.W.Frag) : Sp := fun vs H Q _ => ∃ (c m : Int), vs = [.int c, .int m] ∧ 1 ≤ m ∧ m ≤ 12 ∧
  ∀ (t l : Addr) (n : Int) (L : List (Addr × Ed)) (H' : Hp), Same H H' → H' t = some (.tup [.int n, .ref l]) → H' l = some (.lst (refs L)) → Eds K H' L → 1 ≤ n → n ≤ m → (L.length : Int) < 3 * m → (∀ p ∈ L, okE n p.2) → (∀ p ∈ L, p.2.2.1 ∈ acts0) → Q (.ref t) H'
theorem c_system5 (D : Df K mg "_law_system" s__law_system) (z_range : mg "range" = none) (c__law_draws : C8.Cal P w K mg base 1 "_law_draws" spDraws []) : C8.Cal P w K mg base 2 "_law_system" (spSys5 K) [] := by
  refine D.cal sc__law_system (fun _ _ _ _ _ _ us hl => match us, hl with | [_, _], _ => rfl) (fun vs H Q E h => ?_) (fun f cdv A outer s H vs Q E hr h => ?_)
  · obtain ⟨c, m, rfl, _⟩ := h
    rfl
  obtain ⟨c, m, rfl, m1, m2, q⟩ := h
  refine ⟨_, (pss_cons (ps_set (i := 2) sc__law_system.nd rfl (Or.inl rfl) (C8.pe_c c__law_draws hr (by first | decide | omega) rfl (pa_cons (pv 0) (pa_cons (pe_op op_add (pe_op op_mul pe_int (pv 1)) pe_int) pa_nil))))
    (pss_cons (ps_set (i := 3) sc__law_system.nd rfl (Or.inl rfl) (pe_op op_add pe_int (pe_op op_modN (pe_ix (VK.ixL (K := K) rfl) (pv 2) pe_int (fun _ _ => rfl)) (pv 1))))
    (pss_cons (ps_set (i := 4) sc__law_system.nd rfl (Or.inl rfl) (pe_lst pa_nil))
    (pss_cons (ps_for PassesOwn.never rfl (pi_range1 rfl z_range (pa_cons (pe_op op_modN (pe_ix (VK.ixL (K := K) rfl) (pv 2) pe_int (fun _ _ => rfl)) (pe_op op_mul pe_int (pv 1))) pa_nil)) (pg_name (i := 5) sc__law_system.nd rfl (Or.inl rfl))
      (pss_cons (ps_set (i := 6) sc__law_system.nd rfl (Or.inl rfl) (pe_ix (VK.ixL (K := K) rfl) (pv 2) (pe_op op_add pe_int (pv 5)) (fun _ _ => rfl)))
      (pss_cons (ps_set (i := 7) sc__law_system.nd rfl (Or.inl rfl) (pe_ix (VK.ixL (K := K) rfl) (pe_lst (pa_cons pe_str (pa_cons pe_str (pa_cons pe_str (pa_cons pe_str (pa_cons pe_str (pa_cons pe_str (pa_cons pe_str (pa_cons pe_str (pa_cons pe_str (pa_cons pe_str pa_nil))))))))))) (pe_op op_modN (pv 6) (pe_op op_add pe_int (pe_op op_mod (pe_ix (VK.ixL (K := K) rfl) (pv 2) pe_int (fun _ _ => rfl)) pe_int))) (fun _ _ => rfl)))
      (pss_one (ps_expr (pe_bm PySem.F.plainAttrs_list PySem.F.slot_list_append PySem.F.type_list_append mt_append (pv 4) (pa_cons (pe_tup (pa_cons (pe_op op_modN (pe_op op_fdiv (pv 6) pe_int) (pv 3)) (pa_cons (pv 7) (pa_cons (pe_op op_modN (pe_op op_fdiv (pv 6) pe_int) (pv 3)) pa_nil)))) pa_nil)))))))
    (pss_one (ps_ret (pe_tup (pa_cons (pv 3) (pa_cons (pv 4) pa_nil))))))))), ?_⟩
  have zl := sizeLine_eq
  refine ⟨_, rfl, _, rfl, _, _, rfl, rfl, .inl ⟨by omega, by omega⟩, _, _, rfl, rfl, c, 3 * m + 4, rfl, by omega, by omega, fun d ns nd hlen hb => ?_⟩
  have s1 := same_upd nd (.lst (ns.map V.int))
  have hd : upd H d (.lst (ns.map V.int)) d = some (.lst (ns.map V.int)) := upd_same
  generalize upd H d (.lst (ns.map V.int)) = H1 at *
  have draw : ∀ j : Nat, (j : Int) < 3 * m + 4 → ∃ x, atI (ns.map V.int) (j : Nat) = some (.int x) ∧ 0 ≤ x ∧ x < 4096 := fun j hj => by
    have hk : j < ns.length := by omega
    have hx := hb _ (List.getElem_mem hk)
    exact ⟨ns[j], atI_nat (by rw [List.getElem?_map, List.getElem?_eq_getElem hk] <;> rfl), hx⟩
  obtain ⟨x0, h0, _⟩ := draw 0 (by omega)
  obtain ⟨x1, h1, _⟩ := draw 1 (by omega)
  obtain ⟨x2, h2, _⟩ := draw 2 (by omega)
  have hm0 : m ≠ 0 := by omega
  have n0 := Int.fmod_nonneg_of_pos x0 (show 0 < m by omega)
  have n1 := Int.fmod_lt_of_pos x0 (show 0 < m by omega)
  refine ⟨_, rfl, d, _, _, _, rfl, rfl, SqL.of hd, h0, _, rfl, _, _, rfl, rfl, hm0, _, _, rfl, rfl, ?_⟩
  refine ⟨Nat.zero_le _, fun l nl => ?_⟩
  have s2 := same_upd nl (.lst [])
  have c0 := Int.fmod_nonneg_of_pos x1 (show 0 < 3 * m by omega)
  have c1 := Int.fmod_lt_of_pos x1 (show 0 < 3 * m by omega)
  refine ⟨_, rfl, d, _, _, _, rfl, rfl, SqL.of (s2 _ _ hd), h1, _, rfl, _, _, rfl, rfl, .inl ⟨by omega, by omega⟩, _, _, rfl, rfl, by omega, ?_⟩
  obtain ⟨n, hn⟩ : ∃ n, n = (1 : Int) + x0.fmod m := ⟨_, rfl⟩
  obtain ⟨cnt, hc⟩ : ∃ cnt, cnt = x1.fmod (3 * m) := ⟨_, rfl⟩
  have ndl : d ≠ l := ne_of_none hd nl
  rw [← hc] at c0 c1
  have nlH : H l = none := s1.free nl
  refine ⟨cnt, by rw [hc], by omega, by omega, for_range (lo := 0) (n := cnt.toNat)
    (fun i σ H' => ∃ (L : List (Addr × Ed)) (r5 r6 r7 : Option V), σ = [some (.int c), some (.int m), some (.ref d), some (.int n), some (.ref l), r5, r6, r7] ∧ Same H H' ∧ H' d = some (.lst (ns.map V.int)) ∧ H' l = some (.lst (refs L)) ∧
      Eds K H' L ∧ L.length = i ∧ (∀ p ∈ L, okE n p.2) ∧ ∀ p ∈ L, p.2.2.1 ∈ acts0)
    ⟨[], none, none, none, by rw [hn] <;> rfl, s1.trans s2, s2 _ _ hd, upd_same, fun p z => absurd z List.not_mem_nil, rfl, fun p z => absurd z List.not_mem_nil, fun p z => absurd z List.not_mem_nil⟩ ?_ ?_⟩
  · rintro i σ H2 hi ⟨L, r5, r6, r7, rfl, sH, hd2, hl2, hE, len, ok, ok5⟩
    obtain ⟨x, hx, x0', x1'⟩ := draw (2 + i) (by omega)
    have ei : (2 : Int) + (0 + (i : Int)) = ((2 + i : Nat) : Int) := by omega
    refine ⟨_, rfl, _, rfl, _, _, rfl, rfl, d, _, _, .int x, rfl, rfl, SqL.of hd2, (by rw [ei]; exact hx), ?_⟩
    refine ⟨(by show 10 ≤ sizeLine; omega), fun t nt => ?_⟩
    have s3 := same_upd nt (.lst [.str "a", .str "b", .str "tau", .str "a", .str "c", .str "tau", .str "b", .str "tick", .str "a", .str "tau"])
    have z2 := Int.emod_nonneg x2 (show (2 : Int) ≠ 0 by decide)
    have z3 := Int.emod_lt_of_pos x2 (show (0 : Int) < 2 by decide)
    have a0 := Int.fmod_nonneg_of_pos x (show 0 < 9 + x2 % 2 by omega)
    have a1 := Int.fmod_lt_of_pos x (show 0 < 9 + x2 % 2 by omega)
    obtain ⟨w, hw, hin⟩ : ∃ w : Str, atI [V.str "a", V.str "b", V.str "tau", V.str "a", V.str "c", V.str "tau", V.str "b", V.str "tick", V.str "a", V.str "tau"] (x.fmod (9 + x2 % 2)) = some (.str w) ∧ w ∈ acts0 := by
      have z : x.fmod (9 + x2 % 2) < 10 := by omega
      generalize x.fmod (9 + x2 % 2) = g at *
      have k : g = 0 ∨ g = 1 ∨ g = 2 ∨ g = 3 ∨ g = 4 ∨ g = 5 ∨ g = 6 ∨ g = 7 ∨ g = 8 ∨ g = 9 := by omega
      rcases k with rfl | rfl | rfl | rfl | rfl | rfl | rfl | rfl | rfl | rfl
      · exact ⟨"a", rfl, by decide +kernel⟩
      · exact ⟨"b", rfl, by decide +kernel⟩
      · exact ⟨"tau", rfl, by decide +kernel⟩
      · exact ⟨"a", rfl, by decide +kernel⟩
      · exact ⟨"c", rfl, by decide +kernel⟩
      · exact ⟨"tau", rfl, by decide +kernel⟩
      · exact ⟨"b", rfl, by decide +kernel⟩
      · exact ⟨"tick", rfl, by decide +kernel⟩
      · exact ⟨"a", rfl, by decide +kernel⟩
      · exact ⟨"tau", rfl, by decide +kernel⟩
    refine ⟨_, rfl, _, rfl, d, _, _, .int x2, rfl, rfl, SqL.of (s3 _ _ hd2), h2, _, _, rfl, rfl, (by show (0 : Int) < 2; decide), _, _, rfl, rfl, _, _, rfl, rfl, (by omega), t, _, _, _, rfl, rfl, SqL.of upd_same, hw, ?_⟩
    have hn0 : 0 < n := by omega
    have nne : n ≠ 0 := by omega
    refine ⟨_, rfl, .inl ⟨rfl, _, SqL.of (s3 _ _ hl2)⟩, _, rfl, _, _, rfl, rfl, ⟨by decide, by decide⟩, _, rfl, _, _, rfl, rfl, nne, _, rfl, _, rfl, _, _, rfl, rfl, ⟨by decide, by decide⟩, _, rfl, _, _, rfl, rfl, nne, (by show 3 ≤ sizeLine; omega), fun t2 nt2 => ?_⟩
    have s4 := same_upd nt2 (.tup [.int ((x / 10).fmod n), .str w, .int ((x / 100).fmod n)])
    have hl4 := s4 _ _ (s3 _ _ hl2)
    refine ⟨l, _, _, rfl, rfl, hl4, (by rw [refs_len, len]; omega), ?_⟩
    have k5 : Kp H2 (upd (upd (upd H2 t (.lst [.str "a", .str "b", .str "tau", .str "a", .str "c", .str "tau", .str "b", .str "tick", .str "a", .str "tau"])) t2 (.tup [.int ((x / 10).fmod n), .str w, .int ((x / 100).fmod n)])) l (.lst (refs L ++ [.ref t2]))) :=
      (Kp.of (s3.trans s4)).trans (Kp.updL hl4 _)
    have nt2l : t2 ≠ l := fun z => by rw [z, s3 _ _ hl2] at nt2; cases nt2
    refine ⟨L ++ [(t2, ((x / 10).fmod n, w, (x / 100).fmod n))], _, _, _, rfl, sameIn ((sH.trans s3).trans s4) nlH, by rw [upd_ne ndl]; exact s4 _ _ (s3 _ _ hd2), by rw [upd_same, refs_snoc], fun p hp => ?_, by rw [List.length_append, len] <;> rfl, fun p hp => ?_, fun p hp => ?_⟩
    · rcases List.mem_append.mp hp with z | z
      · exact (hE.kp k5) p z
      · rw [List.mem_singleton.mp z]
        exact .inl (.inl (by rw [upd_ne nt2l]; exact upd_same))
    · rcases List.mem_append.mp hp with z | z
      · exact ok p z
      · rw [List.mem_singleton.mp z]
        exact ⟨Int.fmod_nonneg_of_pos _ hn0, Int.fmod_lt_of_pos _ hn0, Int.fmod_nonneg_of_pos _ hn0, Int.fmod_lt_of_pos _ hn0, acts0_sub _ hin⟩
    · rcases List.mem_append.mp hp with z | z
      · exact ok5 p z
      · rw [List.mem_singleton.mp z]
        exact hin
  · rintro σ H2 ⟨L, r5, r6, r7, rfl, sH, hd2, hl2, hE, len, ok, ok5⟩
    refine ⟨_, rfl, _, rfl, (by show 2 ≤ sizeLine; omega), fun t nt => ?_⟩
    have s3 := same_upd nt (.tup [.int n, .ref l])
    exact q t l n L _ (sH.trans s3) upd_same (s3 _ _ hl2) (hE.kp (Kp.of s3)) (by omega) (by omega) (by omega) ok ok5
/-- .. as most laws use it -/
def spSys (K : PySem.W.Frag) : Sp := fun vs H Q _ => ∃ (c m : Int), vs = [.int c, .int m] ∧ 1 ≤ m ∧ m ≤ 12 ∧
  ∀ (t l : Addr) (n : Int) (L : List (Addr × Ed)) (H' : Hp), Same H H' → H' t = some (.tup [.int n, .ref l]) → H' l = some (.lst (refs L)) → Eds K H' L → 1 ≤ n → n ≤ m → (L.length : Int) < 3 * m → (∀ p ∈ L, okE n p.2) → Q (.ref t) H'
theorem c_system (D : Df K mg "_law_system" s__law_system) (z_range : mg "range" = none) (c__law_draws : C8.Cal P w K mg base 1 "_law_draws" spDraws []) : C8.Cal P w K mg base 2 "_law_system" (spSys K) [] :=
  VB.calImp (c_system5 D z_range c__law_draws) fun vs H Q E ⟨c, m, e, m1, m2, q⟩ => ⟨c, m, e, m1, m2, fun t l n L H' s ht hl hE n1 n2 len ok _ => q t l n L H' s ht hl hE n1 n2 len ok⟩
end
end LW

set_option Elab.async false
set_option linter.all false
set_option maxRecDepth 100000
set_option maxHeartbeats 4000000
namespace LW
open PySem PySem.Spec PyProof.Rows L2 LamX NdefX VB VM VP VE
theorem sc_check_edges : FnScope ["count", "edges", "source", "_", "target", "action"] ["count", "edges"] (defScope s_check_edges) := ⟨rfl, rfl, rfl, by decide +kernel, rfl, by decide +kernel, by decide +kernel⟩
section
variable {P : Program} {w : World} {K : PySem.W.Frag} {mg : Str → Option Value} {base : Heap}
/-- an edge that a system of n states may have -/
def okB (n : Int) (e : Ed) : Bool := (decide (0 ≤ e.1) && decide (e.1 < n)) && (decide (0 ≤ e.2.2) && decide (e.2.2 < n)) && isAct e.2.1
def sysOk (n : Int) (L : List Ed) : Bool := decide (1 ≤ n) && decide (n ≤ 20000) && L.all (okB n)
theorem sysOk_bad {n : Int} {L : List Ed} {e : Ed} (h : e ∈ L) (b : okB n e = false) : sysOk n L = false := by
  refine Bool.eq_false_iff.mpr fun z => ?_
  unfold sysOk at z
  have y := List.all_eq_true.mp (Bool.and_eq_true_iff.mp z).2 e h
  rw [b] at y
  cases y
theorem sysOk_num {n : Int} {L : List Ed} (h : ¬ (1 ≤ n ∧ n ≤ 20000)) : sysOk n L = false := by
  refine Bool.eq_false_iff.mpr fun z => ?_
  unfold sysOk at z
  have y := Bool.and_eq_true_iff.mp (Bool.and_eq_true_iff.mp z).1
  exact h ⟨of_decide_eq_true y.1, of_decide_eq_true y.2⟩
theorem okB_range {n : Int} {e : Ed} (h : ¬ (0 ≤ e.1 ∧ e.1 < n ∧ 0 ≤ e.2.2 ∧ e.2.2 < n)) : okB n e = false := by
  refine Bool.eq_false_iff.mpr fun z => h ?_
  unfold okB at z
  simp only [Bool.and_eq_true, decide_eq_true_eq] at z
  exact ⟨z.1.1.1, z.1.1.2, z.1.2.1, z.1.2.2⟩
theorem okB_act {n : Int} {e : Ed} (h : isAct e.2.1 = false) : okB n e = false := by
  unfold okB
  rw [h, Bool.and_false]
theorem okB_all {n : Int} {e : Ed} (h : 0 ≤ e.1 ∧ e.1 < n ∧ 0 ≤ e.2.2 ∧ e.2.2 < n) (a : isAct e.2.1 = true) : okB n e = true := by
  unfold okB
  rw [a, decide_eq_true h.1, decide_eq_true h.2.1, decide_eq_true h.2.2.1, decide_eq_true h.2.2.2] <;> rfl
def spCheckX (K : PySem.W.Frag) (CS : Addr) : Sp := fun vs H Q E => ∃ (n : Int) (l : Addr) (L : List (Addr × Ed)), vs = [.int n, .ref l] ∧ SqL K H l (refs L) ∧ Eds K H L ∧ L.length ≤ 1000 ∧ (∀ p ∈ L, p.2.2.1.length ≤ 1000) ∧
  (sysOk n (L.map (·.2)) = true → ∀ H', Same H H' → Q .non H') ∧ (sysOk n (L.map (·.2)) = false → ∀ H', Same H H' → E (.ref CS) none H')
theorem c_checkX {CS : Addr} (D : Df K mg "check_edges" s_check_edges) (z_sorted : mg "sorted" = none) (z_set : mg "set" = none) (g_MOST_STATES : ∃ u, mg "MOST_STATES" = some u ∧ RelV (.int 20000) u) (e_BadSystem : VE.Own K mg "BadSystem" CS)
    (c_is_action : C8.Cal P w K mg base 3 "is_action" (spTest isAct) []) : VE.CalX P w K mg base 4 "check_edges" (spCheckX K CS) := by
  refine VE.calX D sc_check_edges (fun _ _ _ _ _ _ us hl => match us, hl with | [_, _], _ => rfl) (fun vs H Q E h => ?_) (fun f cdv A outer s H vs Q E hr h => ?_)
  · obtain ⟨n, l, L, rfl, _⟩ := h
    rfl
  obtain ⟨n, l, L, rfl, hS, hE, len, lens, q, qe⟩ := h
  refine ⟨_, (pss_cons (ps_if (pt_not (pt_chain op_le op_le pe_int (pv 0) (C8.pe_gc rfl g_MOST_STATES)))
      (pss_one (ps_raise rfl (takes_of rfl rfl rfl rfl) (pmk_own PySem.F.excBase_ValueError e_BadSystem.xP e_BadSystem.at_ e_BadSystem.kP (raises_own e_BadSystem.bP e_BadSystem.tP) rfl)))
      pss_nil)
    (pss_cons (ps_for (passes_of rfl) rfl (pi_list (pv 1)) (pg_tup rfl (pgs_cons (pg_name (i := 2) sc_check_edges.nd rfl (Or.inl rfl)) (pgs_cons (pg_name (i := 3) sc_check_edges.nd rfl (Or.inl rfl)) (pgs_cons (pg_name (i := 4) sc_check_edges.nd rfl (Or.inl rfl)) pgs_nil))))
      (pss_one (ps_if (pt_not (PW.pt (pw_and (pt_chain op_le op_lt pe_int (pv 2) (pv 0)) (pw_and1 (pt_chain op_le op_lt pe_int (pv 4) (pv 0))))))
        (pss_one (ps_raise rfl (takes_of rfl rfl rfl rfl) (pmk_own PySem.F.excBase_ValueError e_BadSystem.xP e_BadSystem.at_ e_BadSystem.kP (raises_own e_BadSystem.bP e_BadSystem.tP) rfl)))
        pss_nil)))
    (pss_one (ps_for (passes_of rfl) rfl (pi_list (pe_callB (VK.sortedM (w := w) rfl rfl hr) (by rfl) z_sorted (by decide +kernel) (pa_cons (pe_callTy (VO.cr_setS (K := K) (w := w) rfl rfl rfl (VP.un3 hr)) (by rfl) z_set (by decide +kernel) (pa_cons (pe_lc (own := [("_", 3), ("action", 5)]) (g := gTup K 3 (gCons (gName 3) (gCons (gName 5) (gCons (gName 3) gNil)))) (tt := tYes) rfl sc_check_edges.nd (pi_list (pv 1)) (blkOk_by (N := ["count", "edges", "source", "_", "target", "action"]) (sc := defScope s_check_edges) (by decide +kernel)) (fun _ _ _ _ _ => (pg_tup rfl (pgs_cons (pg_name (i := 3) sc_check_edges.nd rfl (Or.inl rfl) (hf := Or.inr rfl)) (pgs_cons (pg_name (i := 5) sc_check_edges.nd rfl (Or.inl rfl) (hf := Or.inr rfl)) (pgs_cons (pg_name (i := 3) sc_check_edges.nd rfl (Or.inl rfl) (hf := Or.inr rfl)) pgs_nil))))) (fun _ _ _ _ _ => pts_nil) (fun _ _ _ _ _ => (pv 5))) pa_nil)) pa_nil))) (pg_name (i := 5) sc_check_edges.nd rfl (Or.inl rfl))
      (pss_one (ps_if (pt_not (pt_val (C8.pe_c c_is_action hr (by first | decide | omega) rfl (pa_cons (pv 5) pa_nil))))
        (pss_one (ps_raise rfl (takes_of rfl rfl rfl rfl) (pmk_own PySem.F.excBase_ValueError e_BadSystem.xP e_BadSystem.at_ e_BadSystem.kP (raises_own e_BadSystem.bP e_BadSystem.tP) rfl)))
        pss_nil)))))), ?_⟩
  have zl := sizeLine_eq
  refine ⟨_, rfl, _, _, rfl, rfl, _, rfl, ?_⟩
  by_cases c1 : 1 ≤ n
  case neg => exact iteFe (decide_eq_false c1) ⟨_, rfl, iteT (qe (sysOk_num fun z => c1 z.1) H (Same.refl H))⟩
  refine iteTe (decide_eq_true c1) ⟨_, _, rfl, rfl, _, rfl, ?_⟩
  by_cases c2 : n ≤ 20000
  case neg => exact iteTe (by rw [decide_eq_false c2] <;> rfl) (qe (sysOk_num fun z => c2 z.2) H (Same.refl H))
  refine iteNT c2 ?_
  refine ⟨_, rfl, l, rfl, ⟨_, hS⟩, for_list (K := K) (a := l) (xs := refs L)
    (fun i σ H' => H' = H ∧ (∀ (j : Nat) (p : Addr × Ed), j < i → L[j]? = some p → 0 ≤ p.2.1 ∧ p.2.1 < n ∧ 0 ≤ p.2.2.2 ∧ p.2.2.2 < n) ∧ ∃ (r2 r3 r4 : Option V), σ = [some (.int n), some (.ref l), r2, r3, r4, none])
    ⟨rfl, fun j p z => absurd z (Nat.not_lt_zero j), none, none, none, rfl⟩ (fun i σ H' _ z => by rw [z.1]; exact hS) ?_ ?_⟩
  · rintro i v σ H' hv ⟨rfl, inv, r2, r3, r4, rfl⟩
    obtain ⟨p, hp, rfl⟩ := refs_at hv
    have pin := List.mem_of_getElem? hp
    have bad : ¬ (0 ≤ p.2.1 ∧ p.2.1 < n ∧ 0 ≤ p.2.2.2 ∧ p.2.2.2 < n) → E (.ref CS) none H' := fun z => qe (sysOk_bad (List.mem_map_of_mem pin) (okB_range z)) H' (Same.refl H')
    refine ⟨p.1, _, rfl, hE p pin, rfl, .int p.2.1, _, rfl, .str p.2.2.1, _, rfl, .int p.2.2.2, _, rfl, rfl, ?_⟩
    refine ⟨_, rfl, _, _, rfl, rfl, _, rfl, ?_⟩
    by_cases o1 : 0 ≤ p.2.1
    case neg => exact iteFe (decide_eq_false o1) ⟨_, rfl, iteF (iteT (bad fun z => o1 z.1))⟩
    refine iteTe (decide_eq_true o1) ⟨_, rfl, _, _, rfl, rfl, _, rfl, ?_⟩
    by_cases o2 : p.2.1 < n
    case neg => exact iteFe (decide_eq_false o2) (iteT (bad fun z => o2 z.2.1))
    refine iteTe (decide_eq_true o2) ?_
    refine ⟨_, rfl, _, _, rfl, rfl, _, rfl, ?_⟩
    by_cases o3 : 0 ≤ p.2.2.2
    case neg => exact iteFe (decide_eq_false o3) ⟨_, rfl, iteT (bad fun z => o3 z.2.2.1)⟩
    refine iteTe (decide_eq_true o3) ⟨_, rfl, _, _, rfl, rfl, _, rfl, ?_⟩
    by_cases o4 : p.2.2.2 < n
    case neg => exact iteTe (by rw [decide_eq_false o4] <;> rfl) (bad fun z => o4 z.2.2.2)
    refine iteNT o4 ⟨rfl, fun j p' hj hp' => ?_, _, _, _, rfl⟩
    rcases Nat.lt_succ_iff_lt_or_eq.mp hj with z | z
    · exact inv j p' z hp'
    · rw [z, hp] at hp'
      cases hp'
      exact ⟨o1, o2, o3, o4⟩
  · rintro σ H' ⟨rfl, inv, r2, r3, r4, rfl⟩
    rw [refs_len] at inv
    have rng : ∀ p ∈ L, 0 ≤ p.2.1 ∧ p.2.1 < n ∧ 0 ≤ p.2.2.2 ∧ p.2.2.2 < n := fun p hp => by
      obtain ⟨j, hj, e⟩ := List.getElem_of_mem hp
      exact inv j p hj (by rw [List.getElem?_eq_getElem hj, e])
    refine ⟨_, rfl, l, rfl, ⟨_, hS⟩, fun D1 nD => ?_⟩
    refine lc_list (K := K) (a := l) (xs := refs L) (fun i H2 => Same H' H2 ∧ H2 D1 = some (.lst (((L.map fun p => p.2.2.1).take i).map V.str))) ⟨same_upd nD _, upd_same⟩ (fun i H2 _ z => z.1.seq hS) ?_ ?_
    · rintro i v H2 hv ⟨s2, hD⟩
      obtain ⟨p, hp, rfl⟩ := refs_at hv
      have pin := List.mem_of_getElem? hp
      have hE2 := hE.kp (Kp.of s2)
      refine ⟨p.1, _, rfl, hE2 p pin, rfl, .int p.2.1, _, rfl, .str p.2.2.1, _, rfl, .int p.2.2.2, _, rfl, rfl, rfl, ?_⟩
      unfold tYes
      refine iteT ⟨_, rfl, _, hD, ?_, sameIn s2 nD, ?_⟩
      · rw [List.length_map, List.length_take, List.length_map]; omega
      · rw [upd_same, List.take_succ, List.getElem?_map, hp, List.map_append] <;> rfl
    · rintro H2 ⟨s2, hD⟩
      rw [refs_len, List.take_of_length_le (by rw [List.length_map]; exact Nat.le_refl _)] at hD
      refine ⟨D1, _, rfl, SqL.of hD, (by rw [List.length_map]; show L.length + 1 < 4096; omega), fun a S m na mem lm => ?_⟩
      have s3 := same_upd na (VS.SetMO w a S m)
      refine ⟨a, S, m, rfl, upd_same, fun k hk => ?_, fun ss b nd ms ls nb => ?_⟩
      · obtain ⟨x, _, e⟩ := (mem k).1 hk
        exact ⟨x, e⟩
      have s4 := same_upd nb (.lst ((ss.mergeSort VS.leS).map V.str))
      refine ⟨b, rfl, ⟨_, SqL.of upd_same⟩, for_list (K := K) (a := b) (xs := (ss.mergeSort VS.leS).map V.str)
        (fun i σ H3 => Same H' H3 ∧ H3 b = some (.lst ((ss.mergeSort VS.leS).map V.str)) ∧ (∀ (j : Nat) (x : Str), j < i → (ss.mergeSort VS.leS)[j]? = some x → isAct x = true) ∧ ∃ (r5 : Option V), σ = [some (.int n), some (.ref l), r2, r3, r4, r5])
        ⟨(s2.trans s3).trans s4, upd_same, fun j x z => absurd z (Nat.not_lt_zero j), none, rfl⟩ (fun i σ H3 _ z => SqL.of z.2.1) ?_ ?_⟩
      · rintro i v σ H3 hv ⟨s5, hb, inv5, r5, rfl⟩
        rw [List.getElem?_map] at hv
        obtain ⟨x, hx, rfl⟩ := Option.map_eq_some_iff.mp hv
        have xin : x ∈ ss := List.mem_mergeSort.mp (List.mem_of_getElem? hx)
        obtain ⟨y, hy, e⟩ := (mem _).1 ((ms x).1 xin)
        cases e
        obtain ⟨p, pin, rfl⟩ := List.mem_map.mp hy
        refine ⟨_, rfl, _, rfl, lens p pin, fun H4 s6 => ⟨isAct p.2.2.1, rfl, ?_⟩⟩
        show (if (!isAct p.2.2.1) = true then _ else _)
        cases ca : isAct p.2.2.1 with
        | true =>
          refine iteF ⟨s5.trans s6, s6 _ _ hb, fun j x hj hxj => ?_, _, rfl⟩
          rcases Nat.lt_succ_iff_lt_or_eq.mp hj with z | z
          · exact inv5 j x z hxj
          · rw [z, hx] at hxj
            cases hxj
            exact ca
        | false => exact iteT (qe (sysOk_bad (List.mem_map_of_mem pin) (okB_act ca)) H4 (s5.trans s6))
      · rintro σ H3 ⟨s5, _, inv5, r5, rfl⟩
        refine q ?_ H3 s5
        unfold sysOk
        rw [decide_eq_true c1, decide_eq_true c2]
        show (L.map (·.2)).all (okB n) = true
        refine List.all_eq_true.mpr fun e he => ?_
        obtain ⟨p, pin, rfl⟩ := List.mem_map.mp he
        refine okB_all (rng p pin) ?_
        have xin : p.2.2.1 ∈ ss.mergeSort VS.leS := List.mem_mergeSort.mpr ((ms _).2 ((mem _).2 ⟨p.2.2.1, List.mem_map.mpr ⟨p, pin, rfl⟩, rfl⟩))
        obtain ⟨j, hj, ej⟩ := List.getElem_of_mem xin
        refine inv5 j _ ?_ (by rw [List.getElem?_eq_getElem hj, ej])
        rw [List.length_map]
        exact hj
end
end LW

set_option Elab.async false
set_option linter.all false
set_option maxRecDepth 100000
set_option maxHeartbeats 4000000
namespace LW
open PySem PySem.Spec PyProof.Rows L2 LamX NdefX VB VM VP VE
theorem sc_System___init__ : FnScope ["self", "count", "edges", "_", "source", "action", "target"] ["self", "count", "edges"] (defScope s_System___init__) := ⟨rfl, rfl, rfl, by decide +kernel, rfl, by decide +kernel, by decide +kernel⟩
section
variable {P : Program} {w : World} {K : PySem.W.Frag} {mg : Str → Option Value} {base : Heap}
/-- the class as the top has made it -/
structure SysTxt (K : PySem.W.Frag) (C : Addr) : Prop where
  cl : Cls K C
  n0 : NoAttr K C "count"
  n1 : NoAttr K C "edges"
  n2 : NoAttr K C "_leaving"
  n3 : NoAttr K C "_targets"
abbrev fl1 (n : Int) : List (Str × V) := putF "count" (.int n) []
abbrev fl2 (n : Int) (te : Addr) : List (Str × V) := putF "edges" (.ref te) (fl1 n)
abbrev fl3 (n : Int) (te ll : Addr) : List (Str × V) := putF "_leaving" (.ref ll) (fl2 n te)
abbrev fl4 (n : Int) (te ll td : Addr) : List (Str × V) := putF "_targets" (.ref td) (fl3 n te ll)
theorem fl_len (n : Int) (te ll : Addr) : (fl1 n).length < 1000 ∧ (fl2 n te).length < 1000 ∧ (fl3 n te ll).length < 1000 := by
  have a : (fl1 n).length ≤ 1 := length_putF _ _ []
  have b : (fl2 n te).length ≤ (fl1 n).length + 1 := length_putF _ _ _
  have c : (fl3 n te ll).length ≤ (fl2 n te).length + 1 := length_putF _ _ _
  omega
theorem fl_count (n : Int) (te ll td : Addr) : (fl4 n te ll td).lookup ("count" : Str) = some (.int n) := by
  unfold fl4 fl3 fl2 fl1
  rw [lookup_putF, if_neg (by decide +kernel), lookup_putF, if_neg (by decide +kernel), lookup_putF, if_neg (by decide +kernel), lookup_putF, if_pos rfl]
theorem fl_edges (n : Int) (te ll td : Addr) : (fl4 n te ll td).lookup ("edges" : Str) = some (.ref te) := by
  unfold fl4 fl3 fl2
  rw [lookup_putF, if_neg (by decide +kernel), lookup_putF, if_neg (by decide +kernel), lookup_putF, if_pos rfl]
theorem fl_leav (n : Int) (te ll td : Addr) : (fl4 n te ll td).lookup ("_leaving" : Str) = some (.ref ll) := by
  unfold fl4 fl3
  rw [lookup_putF, if_neg (by decide +kernel), lookup_putF, if_pos rfl]
theorem fl_targ (n : Int) (te ll td : Addr) : (fl4 n te ll td).lookup ("_targets" : Str) = some (.ref td) := by
  unfold fl4
  rw [lookup_putF, if_pos rfl]
theorem fl_none (n : Int) (te ll td : Addr) {m : Str} (h0 : ¬ m = "count") (h1 : ¬ m = "edges") (h2 : ¬ m = "_leaving") (h3 : ¬ m = "_targets") : (fl4 n te ll td).lookup m = none := by
  unfold fl4 fl3 fl2 fl1
  rw [lookup_putF, if_neg h3, lookup_putF, if_neg h2, lookup_putF, if_neg h1, lookup_putF, if_neg h0] <;> rfl
/-- the states to which the edges with an action lead -/
def tg (E : List Ed) (s : Int) (x : Str) : List Int := (E.filter fun e => decide (e.1 = s ∧ e.2.1 = x)).map (·.2.2)
theorem tg_snoc (E : List Ed) (e : Ed) (s : Int) (x : Str) : tg (E ++ [e]) s x = if e.1 = s ∧ e.2.1 = x then tg E s x ++ [e.2.2] else tg E s x := by
  unfold tg
  rw [List.filter_append, List.map_append]
  by_cases h : e.1 = s ∧ e.2.1 = x
  · rw [if_pos h, List.filter_cons, if_pos (decide_eq_true h), List.filter_nil] <;> rfl
  · rw [if_neg h, List.filter_cons, if_neg (by rw [decide_eq_true_eq]; exact h), List.filter_nil, List.map_nil, List.append_nil]
abbrev kT (s : Int) (x : Str) : List Key := [.inl s, .inr x]
/-- the dict of targets; φ: what more is known of a list's address -/
structure Tab (H : Hp) (td : Addr) (E : List Ed) (kvs : List (List Key × V)) (φ : Addr → Prop) : Prop where
  at_ : H td = some (.dT kvs)
  some_ : ∀ k v, valV kvs k = some v → ∃ (b : Addr) (s : Int) (x : Str), k = kT s x ∧ v = .ref b ∧ H b = some (.lst ((tg E s x).map V.int)) ∧ tg E s x ≠ [] ∧ φ b
  none_ : ∀ s x, valV kvs (kT s x) = none → tg E s x = []
  inj : ∀ k k' v, valV kvs k = some v → valV kvs k' = some v → k = k'
theorem Tab.mono {H H' : Hp} {td : Addr} {E : List Ed} {kvs : List (List Key × V)} {φ ψ : Addr → Prop} (T : Tab H td E kvs φ) (hd : H' td = some (.dT kvs)) (hl : ∀ b xs, H b = some (.lst xs) → φ b → H' b = some (.lst xs) ∧ ψ b) : Tab H' td E kvs ψ :=
  ⟨hd, fun k v h => by
    obtain ⟨b, s, x, e1, e2, e3, e4, e5⟩ := T.some_ k v h
    obtain ⟨g1, g2⟩ := hl b _ e3 e5
    exact ⟨b, s, x, e1, e2, g1, e4, g2⟩, T.none_, T.inj⟩
/-- the parts of a System of n states and the edges E at p; φ: what more is known of its lists' addresses -/
structure SysIn (K : PySem.W.Frag) (φ : Addr → Prop) (C : Addr) (H : Hp) (p : Addr) (n : Int) (E : List Ed) (dx te ll td : Addr) (LE : List (Addr × Ed)) (rows : List Addr) (kvs : List (List Key × V)) : Prop where
  hp : H p = some (.ins C dx (fl4 n te ll td))
  ht : H te = some (.tup (refs LE))
  hE : Eds K H LE
  eE : LE.map (·.2) = E
  hl : H ll = some (.lst (rows.map V.ref))
  len : (rows.length : Int) = n
  row : ∀ (j : Nat) (a : Addr), rows[j]? = some a → φ a ∧ ∃ LP : List (Addr × Pr), H a = some (.lst (refs LP)) ∧ Pqs K H LP ∧ LP.map (·.2) = leav E ((j : Nat) : Int)
  tab : Tab H td E kvs φ
  fl : φ ll
structure SysAt (K : PySem.W.Frag) (φ : Addr → Prop) (C : Addr) (H : Hp) (p : Addr) (n : Int) (E : List Ed) : Prop where
  ex : ∃ (dx te ll td : Addr) (LE : List (Addr × Ed)) (rows : List Addr) (kvs : List (List Key × V)), SysIn K φ C H p n E dx te ll td LE rows kvs
  asc : E.Pairwise ltE
  ok : ∀ e ∈ E, okE n e
/-- the System stays where its objects stay -/
theorem SysAt.stay {φ ψ : Addr → Prop} {C p : Addr} {H H' : Hp} {n : Int} {E : List Ed} (S : SysAt K φ C H p n E) (k : Kp H H') (hi : ∀ b c d fs, H b = some (.ins c d fs) → H' b = H b) (hd : ∀ b kvs, H b = some (.dT kvs) → H' b = H b)
    (hl : ∀ b xs, H b = some (.lst xs) → φ b → H' b = H b ∧ ψ b) : SysAt K ψ C H' p n E := by
  obtain ⟨⟨dx, te, ll, td, LE, rows, kvs, S⟩, a, o⟩ := S
  refine ⟨⟨dx, te, ll, td, LE, rows, kvs, (hi _ _ _ _ S.hp).trans S.hp, k.tup _ _ S.ht, S.hE.kp k, S.eE, (hl _ _ S.hl S.fl).1.trans S.hl, S.len, fun j x hj => ?_, S.tab.mono ((hd _ _ S.tab.at_).trans S.tab.at_) fun b xs h z => ⟨(hl _ _ h z).1.trans h, (hl _ _ h z).2⟩, (hl _ _ S.hl S.fl).2⟩, a, o⟩
  obtain ⟨f, LP, g1, g2, g3⟩ := S.row j x hj
  exact ⟨(hl _ _ g1 f).2, LP, (hl _ _ g1 f).1.trans g1, g2.kp k, g3⟩
theorem SysAt.same {φ : Addr → Prop} {C p : Addr} {H H' : Hp} {n : Int} {E : List Ed} (S : SysAt K φ C H p n E) (s : Same H H') : SysAt K φ C H' p n E :=
  S.stay (Kp.of s) (fun b c d fs h => (s _ _ h).trans h.symm) (fun b kvs h => (s _ _ h).trans h.symm) fun b xs h z => ⟨(s _ _ h).trans h.symm, z⟩
/-- a list that is none of the System's changes -/
theorem SysAt.updL {φ : Addr → Prop} {C p g : Addr} {H : Hp} {n : Int} {E : List Ed} {ys : List V} (S : SysAt K φ C H p n E) (hg : H g = some (.lst ys)) (ng : ¬ φ g) (zs : List V) : SysAt K φ C (upd H g (.lst zs)) p n E :=
  S.stay (Kp.updL hg _) (fun b c d fs h => by rw [upd_ne (ne_of h hg (fun z => nomatch z))]) (fun b kvs h => by rw [upd_ne (ne_of h hg (fun z => nomatch z))]) fun b xs h z => ⟨by rw [upd_ne (show b ≠ g from fun e => ng (by rw [← e]; exact z))], z⟩
theorem but_seq {p a C dx : Addr} {fs : List (Str × V)} {H H' : Hp} {xs : List V} (x : But p H H') (hp : H p = some (.ins C dx fs)) (h : SqL K H a xs) : SqL K H' a xs := by
  rcases h with (h | ⟨o, h⟩) | h
  · exact .inl (.inl (x a _ (ne_of h hp (fun z => nomatch z)) h))
  · exact .inl (.inr ⟨o, x a _ (ne_of h hp (fun z => nomatch z)) h⟩)
  · exact .inr h
theorem but_kp {p C dx : Addr} {fs : List (Str × V)} {H H' : Hp} (x : But p H H') (hp : H p = some (.ins C dx fs)) : Kp H H' :=
  ⟨fun b xs q => x b _ (ne_of q hp (fun z => nomatch z)) q, fun b o u q => x b _ (ne_of q hp (fun z => nomatch z)) q⟩
theorem but_new {p a : Addr} {H H' : Hp} {o : HO} (x : But p H H') (h : H' a = none) : But p H (upd H' a o) := fun b u n e => by
  have z := x b u n e
  rw [upd_ne (ne_of_none z h)]
  exact z
theorem but_own {p : Addr} {H H' : Hp} (x : But p H H') (o : HO) : But p H (upd H' p o) := x.trans (But.upd o)
/-- the pairs of a set of edges, sorted -/
def lePE (a b : Addr × Ed) : Bool := !decide (ltE b.2 a.2)
theorem sorted_eds {M : List (Addr × List Key)} {L : List (Addr × Ed)} (sub : ∀ q ∈ M, q ∈ L.map fun p => (p.1, edK p.2)) (all : ∀ p ∈ L, edK p.2 ∈ M.map (·.2)) (nd : (M.map (·.2)).Nodup) :
    ∃ LE : List (Addr × Ed), M.mergeSort VT.leK = LE.map (fun p => (p.1, edK p.2)) ∧ (∀ p ∈ LE, p ∈ L) ∧ (LE.map (·.2)).Pairwise ltE ∧ ∀ e, e ∈ LE.map (·.2) ↔ e ∈ L.map (·.2) := by
  have inj : ∀ a b : Ed, edK a = edK b → a = b := fun a b e => by
    unfold edK at e
    injection e with e1 e2
    injection e2 with e2 e3
    injection e3 with e3 _
    exact Prod.ext (Sum.inl.inj e1) (Prod.ext (Sum.inr.inj e2) (Sum.inl.inj e3))
  obtain ⟨L3, e3, s3⟩ : ∃ L3 : List (Addr × Ed), M = L3.map (fun p => (p.1, edK p.2)) ∧ ∀ p ∈ L3, p ∈ L := by
    clear all nd
    induction M with
    | nil => exact ⟨[], rfl, fun p z => absurd z List.not_mem_nil⟩
    | cons q M ih =>
      obtain ⟨L3, e, s⟩ := ih fun x hx => sub x (List.mem_cons_of_mem _ hx)
      obtain ⟨p, hp, rfl⟩ := List.mem_map.mp (sub q List.mem_cons_self)
      refine ⟨p :: L3, by rw [List.map_cons, e], fun x hx => ?_⟩
      rcases List.mem_cons.mp hx with rfl | z
      · exact hp
      · exact s x z
  have nd3 : (L3.map (·.2)).Nodup := by
    have z : ((L3.map (·.2)).map edK).Nodup := by
      rw [List.map_map]
      rw [e3, List.map_map] at nd
      exact nd
    exact List.Pairwise.of_map _ (fun a b hab e => hab (congrArg edK e)) z
  have leq : ∀ a b : Addr × Ed, lePE a b = VT.leK (a.1, edK a.2) (b.1, edK b.2) := fun a b => by
    show _ = !PySem.W.dataLt (edD b.2) (edD a.2)
    rw [dataLt_ed]
    rfl
  refine ⟨L3.mergeSort lePE, ?_, fun p hp => s3 p (List.mem_mergeSort.mp hp), ?_, fun e => ?_⟩
  · rw [e3]
    exact (List.map_mergeSort fun a _ b _ => leq a b).symm
  · have z : (L3.mergeSort lePE).map (·.2) = (L3.map (·.2)).mergeSort fun a b => !decide (ltE b a) := List.map_mergeSort fun a _ b _ => rfl
    rw [z]
    exact asc_of_sorted (fun a b h g => ltE_tri h g) (fun a b => rfl) (fun a b c => ltE_trans) ltE_irrefl nd3
  · rw [List.mem_map]
    constructor
    · rintro ⟨p, hp, rfl⟩
      exact List.mem_map_of_mem (s3 p (List.mem_mergeSort.mp hp))
    · intro h
      obtain ⟨p, hp, rfl⟩ := List.mem_map.mp h
      obtain ⟨q, hq, eq⟩ := List.mem_map.mp (all p hp)
      rw [e3] at hq
      obtain ⟨r, hr, rfl⟩ := List.mem_map.mp hq
      exact ⟨r, List.mem_mergeSort.mpr hr, inj _ _ eq⟩
/-- the loop of the constructor: i edges in the rows, j in the dict -/
structure Lp (K : PySem.W.Frag) (H : Hp) (p C dx te ll td : Addr) (n : Int) (LE : List (Addr × Ed)) (rows : List Addr) (i j : Nat) (H' : Hp) : Prop where
  but : But p H H'
  hp : H' p = some (.ins C dx (fl4 n te ll td))
  ht : H' te = some (.tup (refs LE))
  hE : Eds K H' LE
  hl : H' ll = some (.lst (rows.map V.ref))
  rw : ∀ (s : Nat) (a : Addr), rows[s]? = some a → ∃ LP : List (Addr × Pr), H' a = some (.lst (refs LP)) ∧ Pqs K H' LP ∧ LP.map (·.2) = leav ((LE.map (·.2)).take i) ((s : Nat) : Int) ∧ LP.length ≤ i
  hd : ∃ kvs : List (List Key × V), kvs.length ≤ j ∧ Tab H' td ((LE.map (·.2)).take j) kvs fun b => H b = none ∧ b ∉ rows ∧ b ≠ ll
section
variable {H H' H2 : Hp} {p C dx te ll td : Addr} {n : Int} {LE : List (Addr × Ed)} {rows : List Addr} {i j : Nat}
theorem Lp.same (L : Lp K H p C dx te ll td n LE rows i j H') (s : Same H' H2) : Lp K H p C dx te ll td n LE rows i j H2 := by
  refine ⟨L.but.trans (But.of s), s _ _ L.hp, s _ _ L.ht, L.hE.kp (Kp.of s), s _ _ L.hl, fun x a h => ?_, ?_⟩
  · obtain ⟨LP, h1, h2, h3⟩ := L.rw x a h
    exact ⟨LP, s _ _ h1, h2.kp (Kp.of s), h3⟩
  · obtain ⟨kvs, h1, h2⟩ := L.hd
    exact ⟨kvs, h1, h2.mono (s _ _ h2.at_) fun b xs h z => ⟨s _ _ h, z⟩⟩
theorem nin_ne {rows : List Addr} {x : Nat} {a b : Addr} (h : b ∉ rows) (g : rows[x]? = some a) : a ≠ b := fun z => h (by rw [← z]; exact List.mem_of_getElem? g)
theorem but_hide {a : Addr} {o : HO} (x : But p H H') (h : H a = none) : But p H (upd H' a o) := fun b u nb e => by
  rw [upd_ne (ne_of_none e h)]
  exact x b u nb e
/-- one more pair in a row -/
theorem Lp.row (L : Lp K H p C dx te ll td n LE rows i j H') (ndr : rows.Nodup) (fr : ∀ a ∈ rows, H a = none) (llr : ll ∉ rows) {e : Addr × Ed} (he : LE[i]? = some e) {s : Nat} (hs : e.2.1 = ((s : Nat) : Int)) {a : Addr} (ha : rows[s]? = some a)
    {LP : List (Addr × Pr)} (h1 : H' a = some (.lst (refs LP))) (h2 : Pqs K H' LP) (h3 : LP.map (·.2) = leav ((LE.map (·.2)).take i) ((s : Nat) : Int)) (h4 : LP.length ≤ i) {q : Addr} (hq : H' q = some (.tup (pqV e.2.2))) :
    Lp K H p C dx te ll td n LE rows (i + 1) j (upd H' a (.lst (refs LP ++ [.ref q]))) := by
  have ain := List.mem_of_getElem? ha
  have k := Kp.updL h1 (.lst (refs LP ++ [.ref q]))
  have pa : p ≠ a := ne_of L.hp h1 (fun z => nomatch z)
  have ta : te ≠ a := ne_of L.ht h1 (fun z => nomatch z)
  have la : ll ≠ a := fun z => llr (z ▸ ain)
  have tk : (LE.map (·.2)).take (i + 1) = (LE.map (·.2)).take i ++ [e.2] := by rw [List.take_succ, List.getElem?_map, he] <;> rfl
  refine ⟨but_hide L.but (fr a ain), by rw [upd_ne pa]; exact L.hp, by rw [upd_ne ta]; exact L.ht, L.hE.kp k, by rw [upd_ne la]; exact L.hl, fun x b hb => ?_, ?_⟩
  · by_cases hx : x = s
    · subst hx
      obtain rfl : b = a := Option.some.inj (hb.symm.trans ha)
      refine ⟨LP ++ [(q, e.2.2)], by rw [upd_same, refs_snoc], fun y hy => ?_, ?_, by rw [List.length_append, List.length_singleton]; omega⟩
      · rcases List.mem_append.mp hy with z | z
        · exact (h2.kp k) y z
        · rw [List.mem_singleton.mp z]
          exact k.sqT (.inl (.inl hq))
      · rw [tk, leav_snoc, if_pos hs, List.map_append, h3] <;> rfl
    · have nb : b ≠ a := fun z => hx ((List.getElem?_inj (List.getElem?_eq_some_iff.mp hb).1 ndr).mp (by rw [hb, ha, z]))
      obtain ⟨LP2, g1, g2, g3, g4⟩ := L.rw x b hb
      refine ⟨LP2, by rw [upd_ne nb]; exact g1, g2.kp k, ?_, by omega⟩
      rw [tk, leav_snoc, if_neg (by rw [hs]; omega)]
      exact g3
  · obtain ⟨kvs, g1, g2⟩ := L.hd
    have da : td ≠ a := ne_of g2.at_ h1 (fun z => nomatch z)
    exact ⟨kvs, g1, g2.mono (by rw [upd_ne da]; exact g2.at_) fun b xs h z => ⟨by rw [upd_ne (fun y => z.2.1 (by rw [y]; exact ain))]; exact h, z⟩⟩
theorem tk_at {LE : List (Addr × Ed)} {j : Nat} {e : Addr × Ed} (he : LE[j]? = some e) : (LE.map (·.2)).take (j + 1) = (LE.map (·.2)).take j ++ [e.2] := by
  rw [List.take_succ, List.getElem?_map, he] <;> rfl
/-- one more state in a list of the dict -/
theorem Lp.tgt (L : Lp K H p C dx te ll td n LE rows i j H') {e : Addr × Ed} (he : LE[j]? = some e) {kvs : List (List Key × V)} (lk : kvs.length ≤ j) (T : Tab H' td ((LE.map (·.2)).take j) kvs fun b => H b = none ∧ b ∉ rows ∧ b ≠ ll) {b : Addr} (hv : valV kvs (kT e.2.1 e.2.2.1) = some (.ref b)) :
    H' b = some (.lst ((tg ((LE.map (·.2)).take j) e.2.1 e.2.2.1).map V.int)) ∧ Lp K H p C dx te ll td n LE rows i (j + 1) (upd H' b (.lst ((tg ((LE.map (·.2)).take j) e.2.1 e.2.2.1).map V.int ++ [.int e.2.2.2]))) := by
  obtain ⟨b0, s0, x0, k0, v0, h1, ne0, h2, h3, h4⟩ := T.some_ _ _ hv
  cases v0
  obtain ⟨rfl, rfl⟩ : e.2.1 = s0 ∧ e.2.2.1 = x0 := by
    injection k0 with a1 a2
    injection a2 with a2 _
    exact ⟨Sum.inl.inj a1, Sum.inr.inj a2⟩
  refine ⟨h1, ?_⟩
  have k := Kp.updL h1 (.lst ((tg ((LE.map (·.2)).take j) e.2.1 e.2.2.1).map V.int ++ [.int e.2.2.2]))
  have pa : p ≠ b := ne_of L.hp h1 (fun z => nomatch z)
  have ta : te ≠ b := ne_of L.ht h1 (fun z => nomatch z)
  have da : td ≠ b := ne_of T.at_ h1 (fun z => nomatch z)
  refine ⟨but_hide L.but h2, by rw [upd_ne pa]; exact L.hp, by rw [upd_ne ta]; exact L.ht, L.hE.kp k, by rw [upd_ne h4.symm]; exact L.hl, fun x a ha => ?_, ⟨kvs, by omega, by rw [upd_ne da]; exact T.at_, fun k v h => ?_, fun s x h => ?_, T.inj⟩⟩
  · obtain ⟨LP2, g1, g2, g3⟩ := L.rw x a ha
    exact ⟨LP2, by rw [upd_ne (nin_ne h3 ha)]; exact g1, g2.kp k, g3⟩
  · obtain ⟨b', s', x', rfl, rfl, f3, f4, f5⟩ := T.some_ k v h
    by_cases nb : b' = b
    · subst nb
      have z := T.inj _ _ _ h hv
      injection z with z1 z2
      injection z2 with z2 _
      obtain rfl := Sum.inl.inj z1
      obtain rfl := Sum.inr.inj z2
      refine ⟨b', e.2.1, e.2.2.1, rfl, rfl, ?_, ?_, f5⟩
      · rw [tk_at he, tg_snoc, if_pos ⟨rfl, rfl⟩, upd_same, List.map_append] <;> rfl
      · rw [tk_at he, tg_snoc, if_pos ⟨rfl, rfl⟩]
        simp
    · have nk : ¬ (e.2.1 = s' ∧ e.2.2.1 = x') := fun z => nb (by
        obtain ⟨rfl, rfl⟩ := z
        have y := h.symm.trans hv
        injection y with y
        injection y)
      refine ⟨b', s', x', rfl, rfl, ?_, ?_, f5⟩
      · rw [tk_at he, tg_snoc, if_neg nk, upd_ne nb]; exact f3
      · rw [tk_at he, tg_snoc, if_neg nk]; exact f4
  · have nk : ¬ (e.2.1 = s ∧ e.2.2.1 = x) := fun z => by
      obtain ⟨rfl, rfl⟩ := z
      rw [hv] at h; cases h
    rw [tk_at he, tg_snoc, if_neg nk]
    exact T.none_ s x h
/-- a new list in the dict, with one state -/
theorem Lp.new (L : Lp K H p C dx te ll td n LE rows i j H') {e : Addr × Ed} (he : LE[j]? = some e) {kvs : List (List Key × V)} (lk : kvs.length ≤ j) (T : Tab H' td ((LE.map (·.2)).take j) kvs fun b => H b = none ∧ b ∉ rows ∧ b ≠ ll) (fd : H td = none) {b : Addr} (h1 : H' b = some (.lst [])) (h2 : H b = none) (h3 : b ∉ rows) (h4 : b ≠ ll)
    (fresh : ∀ k v, valV kvs k = some v → v ≠ .ref b) (hn : valV kvs (kT e.2.1 e.2.2.1) = none) :
    Lp K H p C dx te ll td n LE rows i (j + 1) (upd (upd H' td (.dT (putK kvs (kT e.2.1 e.2.2.1) (.ref b)))) b (.lst [.int e.2.2.2])) := by
  have hd := T.at_
  have bd : b ≠ td := ne_of h1 hd (fun z => nomatch z)
  have other : ∀ (c : Addr) (o : HO), H' c = some o → c ≠ td → c ≠ b → (upd (upd H' td (.dT (putK kvs (kT e.2.1 e.2.2.1) (.ref b)))) b (.lst [.int e.2.2.2])) c = some o := fun c o e n1 n2 => by rw [upd_ne n2, upd_ne n1]; exact e
  have kp : Kp H' (upd (upd H' td (.dT (putK kvs (kT e.2.1 e.2.2.1) (.ref b)))) b (.lst [.int e.2.2.2])) := ⟨fun c xs e => other c _ e (ne_of e hd (fun z => nomatch z)) (ne_of e h1 (fun z => nomatch z)), fun c o u e => other c _ e (ne_of e hd (fun z => nomatch z)) (ne_of e h1 (fun z => nomatch z))⟩
  have emp := T.none_ _ _ hn
  refine ⟨but_hide (but_hide L.but fd) h2, other _ _ L.hp (ne_of L.hp hd (fun z => nomatch z)) (ne_of L.hp h1 (fun z => nomatch z)), other _ _ L.ht (ne_of L.ht hd (fun z => nomatch z)) (ne_of L.ht h1 (fun z => nomatch z)), L.hE.kp kp, other _ _ L.hl (ne_of L.hl hd (fun z => nomatch z)) h4.symm, fun x a ha => ?_, ⟨_, Nat.le_trans (length_putK _ _ _) (Nat.succ_le_succ lk), by rw [upd_ne bd.symm, upd_same], fun k v h => ?_, fun s x h => ?_, fun k k' v h h' => ?_⟩⟩
  · obtain ⟨LP2, f1, f2, f3⟩ := L.rw x a ha
    exact ⟨LP2, other _ _ f1 (ne_of f1 hd (fun z => nomatch z)) (nin_ne h3 ha), f2.kp kp, f3⟩
  · rw [valV_put] at h
    by_cases ek : k = kT e.2.1 e.2.2.1
    · rw [if_pos ek] at h
      refine ⟨b, e.2.1, e.2.2.1, ek, (Option.some.inj h).symm, ?_, ?_, h2, h3, h4⟩
      · rw [tk_at he, tg_snoc, if_pos ⟨rfl, rfl⟩, emp, upd_same] <;> rfl
      · rw [tk_at he, tg_snoc, if_pos ⟨rfl, rfl⟩]; simp
    · rw [if_neg ek] at h
      obtain ⟨b', s', x', rfl, rfl, f3, f4, f5⟩ := T.some_ k v h
      have nb : b' ≠ b := fun z => fresh _ _ h (by rw [z])
      have nk : ¬ (e.2.1 = s' ∧ e.2.2.1 = x') := fun z => ek (by rw [z.1, z.2])
      refine ⟨b', s', x', rfl, rfl, ?_, ?_, f5⟩
      · rw [tk_at he, tg_snoc, if_neg nk]; exact other _ _ f3 (ne_of f3 hd (fun z => nomatch z)) nb
      · rw [tk_at he, tg_snoc, if_neg nk]; exact f4
  · rw [valV_put] at h
    by_cases ek : kT s x = kT e.2.1 e.2.2.1
    · rw [if_pos ek] at h; cases h
    · rw [if_neg ek] at h
      have nk : ¬ (e.2.1 = s ∧ e.2.2.1 = x) := fun z => ek (by rw [z.1, z.2])
      rw [tk_at he, tg_snoc, if_neg nk]
      exact T.none_ s x h
  · rw [valV_put] at h h'
    by_cases ek : k = kT e.2.1 e.2.2.1
    · by_cases ek' : k' = kT e.2.1 e.2.2.1
      · rw [ek, ek']
      · rw [if_pos ek] at h
        rw [if_neg ek'] at h'
        exact absurd (Option.some.inj h).symm (fresh _ _ h')
    · by_cases ek' : k' = kT e.2.1 e.2.2.1
      · rw [if_neg ek] at h
        rw [if_pos ek'] at h'
        exact absurd (Option.some.inj h').symm (fresh _ _ h)
      · rw [if_neg ek] at h
        rw [if_neg ek'] at h'
        exact T.inj _ _ _ h h'
end
theorem nd_le {α : Type} [DecidableEq α] : ∀ (l m : List α), l.Nodup → (∀ x ∈ l, x ∈ m) → l.length ≤ m.length
  | [], m, _, _ => Nat.zero_le _
  | x :: l, m, nd, h => by
    obtain ⟨n1, n2⟩ := List.nodup_cons.mp nd
    have hx := h x List.mem_cons_self
    have ih := nd_le l (m.erase x) n2 fun y hy => (List.mem_erase_of_ne (fun e => by rw [e] at hy; exact n1 hy)).mpr (h y (List.mem_cons_of_mem _ hy))
    rw [List.length_erase_of_mem hx] at ih
    have := List.length_pos_of_mem hx
    rw [List.length_cons]
    omega
def spInit (K : PySem.W.Frag) (C : Addr) : Sp := fun vs H Q _ => ∃ (p dx : Addr) (n : Int) (l : Addr) (L : List (Addr × Ed)), vs = [.ref p, .int n, .ref l] ∧ H p = some (.ins C dx []) ∧ SqL K H l (refs L) ∧ Eds K H L ∧ 1 ≤ n ∧ n ≤ 20000 ∧ L.length < 64 ∧ (∀ x ∈ L, okE n x.2) ∧
  ∀ (E : List Ed) (H' : Hp), But p H H' → SysAt K (fun a => H a = none) C H' p n E → (∀ e, e ∈ E ↔ e ∈ L.map (·.2)) → Q .non H'
/-- the same, whatever the list's length, where the edges are among 1,200 -/
def spInitU (K : PySem.W.Frag) (C : Addr) : Sp := fun vs H Q _ => ∃ (p dx : Addr) (n : Int) (l : Addr) (L : List (Addr × Ed)), vs = [.ref p, .int n, .ref l] ∧ H p = some (.ins C dx []) ∧ SqL K H l (refs L) ∧ Eds K H L ∧ 1 ≤ n ∧ n ≤ 20000 ∧ VT.Few L ∧ L.length ≤ 1000 ∧ (∀ x ∈ L, okE n x.2) ∧
  ∀ (E : List Ed) (H' : Hp), But p H H' → SysAt K (fun a => H a = none) C H' p n E → (∀ e, e ∈ E ↔ e ∈ L.map (·.2)) → Q .non H'
theorem spInit_few {C : Addr} {vs : List V} {H : Hp} {Q : VK} {E : XK} (h : spInit K C vs H Q E) : spInitU K C vs H Q E := by
  obtain ⟨p, dx, n, l, L, e, hp, hS, hE, n1, n2, len, ok, q⟩ := h
  exact ⟨p, dx, n, l, L, e, hp, hS, hE, n1, n2, VT.few_of (by omega), by omega, ok, q⟩
theorem okE_sys {n : Int} {L : List Ed} (n1 : 1 ≤ n) (n2 : n ≤ 20000) (ok : ∀ e ∈ L, okE n e) : sysOk n L = true := by
  unfold sysOk
  rw [decide_eq_true n1, decide_eq_true n2]
  exact List.all_eq_true.mpr fun e he => let z := ok e he; okB_all ⟨z.1, z.2.1, z.2.2.1, z.2.2.2.1⟩ (acts_act _ z.2.2.2.2)
/-- the constructor: a System, or BadSystem -/
def spInitX (K : PySem.W.Frag) (C CS : Addr) : Sp := fun vs H Q E => spInit K C vs H Q E ∨ (∃ (p : Addr) (n : Int) (l : Addr) (L : List (Addr × Ed)), vs = [.ref p, .int n, .ref l] ∧ SqL K H l (refs L) ∧ Eds K H L ∧ L.length ≤ 1000 ∧ (∀ x ∈ L, x.2.2.1.length ≤ 1000) ∧
  sysOk n (L.map (·.2)) = false ∧ ∀ H', Same H H' → E (.ref CS) none H') ∨ spInitU K C vs H Q E
theorem c_initX {C CS : Addr} {f : Addr} {fd : FuncData} (T : SysTxt K C) (F : FunD K "__init__" "System.__init__" (defArgs s_System___init__) (defBody s_System___init__) (defScope s_System___init__) [] [] f fd)
    (z_range : mg "range" = none) (z_sorted : mg "sorted" = none) (z_set : mg "set" = none) (z_tuple : mg "tuple" = none) (c_check_edges : VE.CalX P w K mg base 4 "check_edges" (spCheckX K CS)) :
    FnOk P w K mg base (L2.CX P w) 5 f fd ["self", "count", "edges"] (spInitX K C CS) := by
  refine F.ok sc_System___init__ (fun vs H Q E h => ?_) (fun cdv A outer s H vs Q E hr h => ?_)
  · rcases h with ⟨p, dx, n, l, L, rfl, _⟩ | ⟨p, n, l, L, rfl, _⟩ | ⟨p, dx, n, l, L, rfl, _⟩ <;> rfl
  have h2 : spInitU K C vs H Q E ∨ ∃ (p : Addr) (n : Int) (l : Addr) (L : List (Addr × Ed)), vs = [.ref p, .int n, .ref l] ∧ SqL K H l (refs L) ∧ Eds K H L ∧ L.length ≤ 1000 ∧ (∀ x ∈ L, x.2.2.1.length ≤ 1000) ∧ sysOk n (L.map (·.2)) = false ∧ ∀ H', Same H H' → E (.ref CS) none H' := by
    rcases h with z | z | z
    · exact .inl (spInit_few z)
    · exact .inr z
    · exact .inl z
  clear h
  rcases h2 with ⟨p, dx, n, l, L, rfl, hp, hS, hE, n1, n2, few, len, ok, q⟩ | ⟨p, n, l, L, rfl, hS, hE, len, lens, bad, qe⟩
  rotate_left
  · refine ⟨_, (pss_cons (ps_expr (VE.pe_cX c_check_edges hr (by first | decide | omega) rfl (takes_of rfl rfl rfl rfl) (pa_cons (pv 1) (pa_cons (pv 2) pa_nil))))
    (pss_cons (ps_fld (pv 0) (pv 1) rfl)
    (pss_cons (ps_fld (pv 0) (pe_callTy (VK.tupQ (K := K) rfl) (by rfl) z_tuple (by decide +kernel) (pa_cons (pe_callB (VT.cr_sortT (K := K) (P := P) (w := w) rfl rfl rfl rfl hr) (by rfl) z_sorted (by decide +kernel) (pa_cons (pe_callTy (VT.cr_setT (K := K) (P := P) (w := w) rfl rfl rfl rfl (VP.un3 hr)) (by rfl) z_set (by decide +kernel) (pa_cons (pv 2) pa_nil)) pa_nil)) pa_nil)) rfl)
    (pss_cons (ps_fld (pv 0) (pe_lc (own := [("_", 3)]) (tt := tYes) rfl sc_System___init__.nd (pi_range1 rfl z_range (pa_cons (pv 1) pa_nil)) (blkOk_by (N := ["self", "count", "edges", "_", "source", "action", "target"]) (sc := defScope s_System___init__) (by decide +kernel)) (fun _ _ _ _ _ => (pg_name (i := 3) sc_System___init__.nd rfl (Or.inl rfl) (hf := Or.inr rfl))) (fun _ _ _ _ _ => pts_nil) (fun _ _ _ _ _ => (pe_lst pa_nil))) rfl)
    (pss_cons (ps_fld (pv 0) pe_dnewT rfl)
    (pss_one (ps_for (passes_of rfl) rfl (pi_tup (pe_fld (pv 0) rfl)) (pg_tup rfl (pgs_cons (pg_name (i := 4) sc_System___init__.nd rfl (Or.inl rfl)) (pgs_cons (pg_name (i := 5) sc_System___init__.nd rfl (Or.inl rfl)) (pgs_cons (pg_name (i := 6) sc_System___init__.nd rfl (Or.inl rfl)) pgs_nil))))
      (pss_cons (ps_expr (pe_bm PySem.F.plainAttrs_list PySem.F.slot_list_append PySem.F.type_list_append mt_append (pe_ix (VK.ixL (K := K) rfl) (pe_fld (pv 0) rfl) (pv 4) (fun _ _ => rfl)) (pa_cons (pe_tup (pa_cons (pv 5) (pa_cons (pv 6) pa_nil))) pa_nil)))
      (pss_one (ps_expr (pe_bm PySem.F.plainAttrs_list PySem.F.slot_list_append PySem.F.type_list_append mt_append (VO.pe_setdT (hu_of hr) (pe_fld (pv 0) rfl) (pe_tup (pa_cons (pv 4) (pa_cons (pv 5) pa_nil))) (pe_lst pa_nil) ⟨rfl, rfl, rfl, rfl⟩) (pa_cons (pv 6) pa_nil)))))))))))), ?_⟩
    exact ⟨_, rfl, _, rfl, n, l, L, rfl, hS, hE, len, lens, fun z => absurd (z.symm.trans bad) (by decide), fun _ => qe⟩
  refine ⟨_, (pss_cons (ps_expr (VE.pe_cX c_check_edges hr (by first | decide | omega) rfl (takes_of rfl rfl rfl rfl) (pa_cons (pv 1) (pa_cons (pv 2) pa_nil))))
    (pss_cons (ps_fld (pv 0) (pv 1) rfl)
    (pss_cons (ps_fld (pv 0) (pe_callTy (VK.tupQ (K := K) rfl) (by rfl) z_tuple (by decide +kernel) (pa_cons (pe_callB (VT.cr_sortT (K := K) (P := P) (w := w) rfl rfl rfl rfl hr) (by rfl) z_sorted (by decide +kernel) (pa_cons (pe_callTy (VT.cr_setT (K := K) (P := P) (w := w) rfl rfl rfl rfl (VP.un3 hr)) (by rfl) z_set (by decide +kernel) (pa_cons (pv 2) pa_nil)) pa_nil)) pa_nil)) rfl)
    (pss_cons (ps_fld (pv 0) (pe_lc (own := [("_", 3)]) (tt := tYes) rfl sc_System___init__.nd (pi_range1 rfl z_range (pa_cons (pv 1) pa_nil)) (blkOk_by (N := ["self", "count", "edges", "_", "source", "action", "target"]) (sc := defScope s_System___init__) (by decide +kernel)) (fun _ _ _ _ _ => (pg_name (i := 3) sc_System___init__.nd rfl (Or.inl rfl) (hf := Or.inr rfl))) (fun _ _ _ _ _ => pts_nil) (fun _ _ _ _ _ => (pe_lst pa_nil))) rfl)
    (pss_cons (ps_fld (pv 0) pe_dnewT rfl)
    (pss_one (ps_for (passes_of rfl) rfl (pi_tup (pe_fld (pv 0) rfl)) (pg_tup rfl (pgs_cons (pg_name (i := 4) sc_System___init__.nd rfl (Or.inl rfl)) (pgs_cons (pg_name (i := 5) sc_System___init__.nd rfl (Or.inl rfl)) (pgs_cons (pg_name (i := 6) sc_System___init__.nd rfl (Or.inl rfl)) pgs_nil))))
      (pss_cons (ps_expr (pe_bm PySem.F.plainAttrs_list PySem.F.slot_list_append PySem.F.type_list_append mt_append (pe_ix (VK.ixL (K := K) rfl) (pe_fld (pv 0) rfl) (pv 4) (fun _ _ => rfl)) (pa_cons (pe_tup (pa_cons (pv 5) (pa_cons (pv 6) pa_nil))) pa_nil)))
      (pss_one (ps_expr (pe_bm PySem.F.plainAttrs_list PySem.F.slot_list_append PySem.F.type_list_append mt_append (VO.pe_setdT (hu_of hr) (pe_fld (pv 0) rfl) (pe_tup (pa_cons (pv 4) (pa_cons (pv 5) pa_nil))) (pe_lst pa_nil) ⟨rfl, rfl, rfl, rfl⟩) (pa_cons (pv 6) pa_nil)))))))))))), ?_⟩
  have zl := sizeLine_eq
  have hok : sysOk n (L.map (·.2)) = true := okE_sys n1 n2 fun e he => by obtain ⟨x, hx, rfl⟩ := List.mem_map.mp he; exact ok x hx
  refine ⟨_, rfl, _, rfl, n, l, L, rfl, hS, hE, by omega, fun x hx => Nat.le_trans (acts_ok _ (ok x hx).2.2.2.2).2 (by decide), fun _ H1 s1 => ?_, fun z => absurd (hok.symm.trans z) (by decide)⟩
  have hp1 := s1 _ _ hp
  refine ⟨_, rfl, _, rfl, p, C, dx, [], rfl, hp1, T.cl, T.n0, (by show 0 < 1000; decide), ?_⟩
  have B2 : But p H (upd H1 p (.ins C dx (fl1 n))) := but_own (But.of s1) _
  have hp2 : upd H1 p (.ins C dx (fl1 n)) p = some (.ins C dx (fl1 n)) := upd_same
  show _
  have hS2 := but_seq B2 hp hS
  have k2 := but_kp B2 hp
  refine ⟨_, rfl, l, L.map fun x => (x.1, edK x.2), rfl, ?_, fun x hx => ?_, (by obtain ⟨U, hU, inU⟩ := few; exact ⟨U.map edK, by rw [List.length_map]; exact hU, fun y hy => by obtain ⟨z, hz, rfl⟩ := List.mem_map.mp hy; exact List.mem_map_of_mem (inU z hz)⟩), fun a M na ofM => ?_⟩
  · rw [List.map_map]; exact hS2
  · obtain ⟨y, hy, rfl⟩ := List.mem_map.mp hx
    exact (hE.kp k2) y hy
  have s3 := same_upd na (VT.SetKO P w a M)
  have key : ∀ x ∈ M, ∃ y ∈ L, x = (y.1, edK y.2) := fun x hx => by
    obtain ⟨y, hy, rfl⟩ := List.mem_map.mp (ofM.sub x hx)
    exact ⟨y, hy, rfl⟩
  have B3 := but_new B2 (o := VT.SetKO P w a M) na
  have hp3 : upd (upd H1 p (.ins C dx (fl1 n))) a (VT.SetKO P w a M) p = some (.ins C dx (fl1 n)) := s3 _ _ hp2
  have k3 := but_kp B3 hp
  refine ⟨a, M, rfl, upd_same, fun x hx => ?_, fun d hd d' hd' => ?_, fun x hx => ?_, fun M' b pm nb => ?_⟩
  · obtain ⟨y, hy, rfl⟩ := key x hx
    exact (hE.kp k3) y hy
  · obtain ⟨x, hx, rfl⟩ := List.mem_map.mp hd
    obtain ⟨y, hy, rfl⟩ := List.mem_map.mp hd'
    obtain ⟨_, _, rfl⟩ := key x hx
    obtain ⟨_, _, rfl⟩ := key y hy
    rfl
  · obtain ⟨_, _, rfl⟩ := key x hx
    exact List.cons_ne_nil _ _
  obtain ⟨LE, eLE, subLE, ascLE, memLE⟩ := sorted_eds (M := M') (L := L) (fun x hx => ofM.sub x (pm.mem_iff.mp hx)) (fun y hy => ((pm.map (·.2)).mem_iff).mpr (ofM.all _ (List.mem_map.mpr ⟨y, hy, rfl⟩))) ((pm.map (·.2)).nodup_iff.mpr ofM.nd)
  have eref : (M'.mergeSort VT.leK).map (fun q => V.ref q.1) = refs LE := by
    rw [eLE, List.map_map]
    rfl
  rw [eref]
  clear eref eLE
  have s4 := same_upd nb (.lst (refs LE))
  have B4 := but_new B3 (o := .lst (refs LE)) nb
  refine ⟨b, _, rfl, .inl ⟨SqL.of upd_same, fun te nte => ?_⟩⟩
  have s5 := same_upd nte (.tup (refs LE))
  have B5 := but_new B4 (o := .tup (refs LE)) nte
  have hp5 := s5 _ _ (s4 _ _ hp3)
  have hte : upd (upd (upd (upd H1 p (.ins C dx (fl1 n))) a (VT.SetKO P w a M)) b (.lst (refs LE))) te (.tup (refs LE)) te = some (.tup (refs LE)) := upd_same
  have ok' : ∀ e ∈ LE.map (·.2), okE n e := fun e he => by
    obtain ⟨x, hx, rfl⟩ := List.mem_map.mp ((memLE e).1 he)
    exact ok x hx
  have hLE : Eds K (upd (upd (upd (upd H1 p (.ins C dx (fl1 n))) a (VT.SetKO P w a M)) b (.lst (refs LE))) te (.tup (refs LE))) LE := fun x hx => (hE.kp (but_kp B5 hp)) x (subLE x hx)
  have lenLE : LE.length < 1201 := by
    obtain ⟨U, hU, inU⟩ := few
    have z := nd_le _ U (List.nodup_iff_pairwise_ne.mpr (ascLE.imp fun h e => by rw [e] at h; exact ltE_irrefl _ h)) fun e he => by
      obtain ⟨y, hy, rfl⟩ := List.mem_map.mp ((memLE e).1 he)
      exact inU y hy
    rw [List.length_map] at z
    omega
  generalize upd (upd (upd (upd H1 p (.ins C dx (fl1 n))) a (VT.SetKO P w a M)) b (.lst (refs LE))) te (.tup (refs LE)) = H5 at *
  clear hp3 hp2 hp1 s3 s4 s5 key B2 B3 B4 k2 k3 hS2 
  refine ⟨_, rfl, p, C, dx, _, rfl, hp5, T.cl, T.n1, (fl_len n te te).1, ?_⟩
  have B6 : But p H (upd H5 p (.ins C dx (fl2 n te))) := but_own B5 _
  have hp6 : upd H5 p (.ins C dx (fl2 n te)) p = some (.ins C dx (fl2 n te)) := upd_same
  have pte : te ≠ p := ne_of hte hp5 (fun z => nomatch z)
  have hte6 : upd H5 p (.ins C dx (fl2 n te)) te = some (.tup (refs LE)) := by rw [upd_ne pte]; exact hte
  refine ⟨_, rfl, n, rfl, by omega, by omega, fun ll nll => lc_range (lo := 0) (n := n.toNat)
    (fun i H' => ∃ rows : List Addr, H' ll = some (.lst (rows.map V.ref)) ∧ rows.length = i ∧ rows.Nodup ∧ (∀ a ∈ rows, H' a = some (.lst []) ∧ H a = none) ∧ Same (upd H5 p (.ins C dx (fl2 n te))) H')
    ⟨[], upd_same, rfl, List.nodup_nil, fun a z => absurd z List.not_mem_nil, same_upd nll _⟩ ?_ ?_⟩
  · rintro i H' hi ⟨rows, hll, lenr, ndr, fr, sH⟩
    refine ⟨rfl, ?_⟩
    unfold tYes
    refine iteT ⟨Nat.zero_le _, fun q nq => ?_⟩
    have sq := same_upd nq (.lst [])
    have hll2 := sq _ _ hll
    have qll : q ≠ ll := (ne_of_none hll nq).symm
    have qH : H q = none := B6.none (ne_of_none (sH _ _ hp6) nq).symm (sH.free nq)
    have fr2 : ∀ a ∈ rows, a ≠ ll := fun a ha => fun z => by
      have h1 := (fr a ha).1
      rw [z, hll] at h1
      cases hr : rows with
      | nil => rw [hr] at ha; cases ha
      | cons x xs => rw [hr] at h1; cases h1
    refine ⟨_, hll2, by rw [List.length_map, lenr]; omega, rows ++ [q], by rw [upd_same, List.map_append] <;> rfl, by rw [List.length_append, lenr] <;> rfl, ?_, fun a ha => ?_, sameIn (sH.trans sq) nll⟩
    · exact List.nodup_append.mpr ⟨ndr, by simp, fun a ha b hb => by rw [List.mem_singleton.mp hb]; intro e; have h1 := (fr a ha).1; rw [e, nq] at h1; cases h1⟩
    · rcases List.mem_append.mp ha with z | z
      · exact ⟨by rw [upd_ne (fr2 a z)]; exact sq _ _ (fr a z).1, (fr a z).2⟩
      · rw [List.mem_singleton.mp z]
        exact ⟨by rw [upd_ne qll, upd_same], qH⟩
  · rintro H7 ⟨rows, hll, lenr, ndr, fr, sH⟩
    have llr : ll ∉ rows := fun z => by
      have h1 := (fr ll z).1
      rw [hll] at h1
      cases hr : rows with
      | nil => rw [hr] at z; cases z
      | cons x xs => rw [hr] at h1; cases h1
    have llH : H ll = none := B6.none (ne_of_none hp6 nll).symm nll
    have B7 := B6.trans (But.of sH)
    have hp7 := sH _ _ hp6
    refine ⟨_, rfl, p, C, dx, _, rfl, hp7, T.cl, T.n2, (fl_len n te te).2.1, ?_⟩
    intro td ntd
    have tdp : td ≠ p := fun z => by rw [z, upd_same] at ntd; cases ntd
    have ntd7 : H7 td = none := by rw [upd_ne tdp] at ntd; exact ntd
    refine ⟨_, rfl, p, C, dx, fl3 n te ll, rfl, (by rw [upd_ne tdp.symm, upd_same]), T.cl, T.n3, (fl_len n te ll).2.2, ?_⟩
    have tdH : H td = none := B7.none tdp ntd7
    have L0 : Lp K H p C dx te ll td n LE rows 0 0 (upd (upd (upd H7 p (.ins C dx (fl3 n te ll))) td (.dT [])) p (.ins C dx (fl4 n te ll td))) := by
      have other : ∀ (c : Addr) (o : HO), H7 c = some o → c ≠ p → (upd (upd (upd H7 p (.ins C dx (fl3 n te ll))) td (.dT [])) p (.ins C dx (fl4 n te ll td))) c = some o := fun c o e n1 => by rw [upd_ne n1, upd_ne (ne_of_none e ntd7), upd_ne n1]; exact e
      have hx : Kp H7 (upd (upd (upd H7 p (.ins C dx (fl3 n te ll))) td (.dT [])) p (.ins C dx (fl4 n te ll td))) := ⟨fun c xs e => other c _ e (ne_of e hp7 (fun z => nomatch z)), fun c o u e => other c _ e (ne_of e hp7 (fun z => nomatch z))⟩
      refine ⟨but_own (but_hide (but_own B7 _) tdH) _, upd_same, other _ _ (sH _ _ hte6) pte, (hLE.kp ?_), other _ _ hll (ne_of hll hp7 (fun z => nomatch z)), fun x a ha => ?_, ⟨[], Nat.le_refl _, (by rw [upd_ne tdp, upd_same]), (fun k v z => by rw [valV_nil] at z; cases z), (fun s x z => rfl), (fun k k' v z => by rw [valV_nil] at z; cases z)⟩⟩
      · exact (but_kp (but_own (But.refl p H5) _) hp5).trans ((Kp.of sH).trans hx)
      · have h1 := (fr a (List.mem_of_getElem? ha)).1
        exact ⟨[], other _ _ h1 (ne_of h1 hp7 (fun z => nomatch z)), fun y z => absurd z List.not_mem_nil, rfl, Nat.le_refl _⟩
    generalize upd (upd (upd H7 p (.ins C dx (fl3 n te ll))) td (.dT [])) p (.ins C dx (fl4 n te ll td)) = H8 at L0 ⊢
    refine ⟨_, rfl, p, C, dx, _, _, rfl, L0.hp, T.cl, T.n1, fl_edges n te ll td, te, rfl, ⟨_, .inl (.inl L0.ht)⟩, for_tup (K := K) (a := te) (xs := refs LE)
      (fun i σ H' => Lp K H p C dx te ll td n LE rows i i H' ∧ ∃ (r3 r4 r5 r6 : Option V), σ = [some (.ref p), some (.int n), some (.ref l), r3, r4, r5, r6])
      ⟨L0, none, none, none, none, rfl⟩ (fun i σ H' _ z => .inl (.inl z.1.ht)) ?_ ?_⟩
    · rintro i v σ H9 hv ⟨L9, r3, r4, r5, r6, rfl⟩
      obtain ⟨e, he, rfl⟩ := refs_at hv
      have ein := List.mem_of_getElem? he
      have lti : i < LE.length := (List.getElem?_eq_some_iff.mp he).1
      obtain ⟨o1, o2, o3, o4, o5⟩ := ok' e.2 (List.mem_map_of_mem ein)
      refine ⟨e.1, _, rfl, L9.hE e ein, rfl, .int e.2.1, _, rfl, .str e.2.2.1, _, rfl, .int e.2.2.2, _, rfl, rfl, ?_⟩
      have lts : e.2.1.toNat < rows.length := by omega
      have es : e.2.1 = ((e.2.1.toNat : Nat) : Int) := by omega
      have ha : rows[e.2.1.toNat]? = some rows[e.2.1.toNat] := List.getElem?_eq_getElem lts
      generalize rows[e.2.1.toNat] = a at ha
      obtain ⟨LP, h1, h2, h3, h4⟩ := L9.rw _ a ha
      have hat : atI (rows.map V.ref) e.2.1 = some (.ref a) := by rw [es]; exact atI_nat (by rw [List.getElem?_map, ha] <;> rfl)
      refine ⟨_, rfl, p, C, dx, _, _, rfl, L9.hp, T.cl, T.n2, fl_leav n te ll td, _, rfl, ll, _, _, _, rfl, rfl, SqL.of L9.hl, hat, .inl ⟨rfl, _, SqL.of h1⟩, _, rfl, _, rfl, (by show 2 ≤ sizeLine; omega), fun q nq => ?_⟩
      have sq := same_upd nq (.tup [.str e.2.2.1, .int e.2.2.2])
      refine ⟨a, _, _, rfl, rfl, sq _ _ h1, (by rw [refs_len]; omega), ?_⟩
      have L10 := (L9.same sq).row ndr (fun b hb => (fr b hb).2) llr he es ha (sq _ _ h1) (h2.kp (Kp.of sq)) h3 h4 (q := q) upd_same
      generalize upd (upd H9 q (.tup [.str e.2.2.1, .int e.2.2.2])) a (.lst (refs LP ++ [.ref q])) = H10 at L10 ⊢
      obtain ⟨kvs, d2, d0⟩ := L10.hd
      have d1 := d0.at_
      refine ⟨_, rfl, p, C, dx, _, _, rfl, L10.hp, T.cl, T.n3, fl_targ n te ll td, td, rfl, .inr ⟨_, .inl d1⟩, _, rfl, _, rfl, (by show 2 ≤ sizeLine; omega), fun k nk => ⟨Nat.zero_le _, fun z nz => ?_⟩⟩
      have sk := same_upd nk (.tup [.int e.2.1, .str e.2.2.1])
      have sz := same_upd nz (.lst [])
      have L12 := (L10.same sk).same sz
      have hz : upd (upd H10 k (.tup [.int e.2.1, .str e.2.2.1])) z (.lst []) z = some (.lst []) := upd_same
      have hk : upd (upd H10 k (.tup [.int e.2.1, .str e.2.2.1])) z (.lst []) k = some (.tup [.int e.2.1, .str e.2.2.1]) := sz _ _ upd_same
      have zp : z ≠ p := (ne_of_none (L10.same sk).hp nz).symm
      have zH : H z = none := (L10.same sk).but.none zp nz
      have zr : z ∉ rows := fun y => by
        obtain ⟨t, ht, et⟩ := List.getElem_of_mem y
        obtain ⟨LP2, g1, _⟩ := (L10.same sk).rw t z (by rw [List.getElem?_eq_getElem ht, et])
        rw [nz] at g1; cases g1
      have zl2 : z ≠ ll := (ne_of_none (L10.same sk).hl nz).symm
      have d1' := sz _ _ (sk _ _ d1)
      have skz := sk.trans sz
      generalize upd (upd H10 k (.tup [.int e.2.1, .str e.2.2.1])) z (.lst []) = H12 at L12 hz hk d1' skz ⊢
      have d12 : Tab H12 td ((LE.map (·.2)).take i) kvs fun b => H b = none ∧ b ∉ rows ∧ b ≠ ll := d0.mono d1' fun b xs h z => ⟨skz _ _ h, z⟩
      have fresh : ∀ k v, valV kvs k = some v → v ≠ .ref z := fun k v h e => by
        obtain ⟨b, _, _, _, ev, hb, _⟩ := d0.some_ k v h
        rw [ev] at e
        injection e with e
        rw [e] at hb
        rw [sk _ _ hb] at nz
        cases nz
      refine ⟨kvs, [.inl e.2.1, .inr e.2.2.1], k, d1', rfl, hk, by omega, fun v hv => ?_, fun hn => ?_⟩
      · obtain ⟨b, s0, x0, _, rfl, _⟩ := d12.some_ _ _ hv
        obtain ⟨g1, g2⟩ := L12.tgt he d2 d12 hv
        have tl : (tg ((LE.map (·.2)).take i) e.2.1 e.2.2.1).length ≤ i := by
          unfold tg
          rw [List.length_map]
          exact Nat.le_trans (List.length_filter_le _ _) (List.length_take_le _ _)
        refine ⟨.inl ⟨rfl, _, SqL.of g1⟩, _, rfl, b, _, _, rfl, rfl, g1, by rw [List.length_map]; omega, ?_⟩
        exact ⟨g2, _, _, _, _, rfl⟩
      · have zd : z ≠ td := ne_of hz d1' (fun y => nomatch y)
        refine ⟨.inl ⟨rfl, _, SqL.of (by rw [upd_ne zd]; exact hz)⟩, _, rfl, z, _, _, rfl, rfl, by rw [upd_ne zd]; exact hz, (by show 0 < sizeLine; omega), ?_⟩
        exact ⟨L12.new he d2 d12 tdH hz zH zr zl2 fresh hn, _, _, _, _, rfl⟩
    · rintro σ H9 ⟨L9, r3, r4, r5, r6, rfl⟩
      obtain ⟨kvs, _, T9⟩ := L9.hd
      rw [refs_len, List.take_of_length_le (by rw [List.length_map]; exact Nat.le_refl _)] at T9
      refine q (LE.map (·.2)) H9 L9.but ⟨⟨dx, te, ll, td, LE, rows, kvs, L9.hp, L9.ht, L9.hE, rfl, L9.hl, by omega, fun j a hj => ?_, T9.mono T9.at_ fun b xs h z => ⟨h, z.1⟩, llH⟩, ascLE, ok'⟩ memLE
      obtain ⟨LP, g1, g2, g3, _⟩ := L9.rw j a hj
      refine ⟨(fr a (List.mem_of_getElem? hj)).2, LP, g1, g2, ?_⟩
      rw [g3, refs_len, List.take_of_length_le (by rw [List.length_map]; exact Nat.le_refl _)]
end
end LW

set_option Elab.async false
set_option linter.all false
set_option maxRecDepth 100000
set_option maxHeartbeats 4000000
namespace LW
open PySem PySem.Spec PyProof.Rows L2 LamX NdefX VB VM VP VE VX
/-- the actions of a state, without tau -/
def acs (E : List Ed) (s : Int) : List Str := ((leav E s).filter fun p => decide (¬ p.1 = ("tau" : Str))).map (·.1)
def srtS (l : List Str) : List Str := (onceG [] l).mergeSort VS.leS
def evs (E : List Ed) : List Str := (E.map (·.2.1)).filter fun x => decide (¬ x ∈ [("tau" : Str), "tick"])
end LW

set_option Elab.async false
set_option linter.all false
set_option maxRecDepth 100000
set_option maxHeartbeats 4000000
namespace LW
open PySem PySem.Spec PyProof.Rows L2 LamX NdefX VB VM VP VE VX
section
variable {P : Program} {w : World} {K : PySem.W.Frag} {mg : Str → Option Value} {base : Heap}
theorem srt {α : Type} {lt : α → α → Prop} [DecidableRel lt] (tri : ∀ a b, ¬ lt a b → ¬ lt b a → a = b) (tr : ∀ a b c, lt a b → lt b c → lt a c) (ir : ∀ a, ¬ lt a a) {le : Addr × α → Addr × α → Bool} (hle : ∀ a b, le a b = !decide (lt b.2 a.2))
    {L : List (Addr × α)} (nd : (L.map (·.2)).Nodup) : ((L.mergeSort le).map (·.2)).Pairwise lt := by
  have z : (L.mergeSort le).map (·.2) = (L.map (·.2)).mergeSort fun a b => !decide (lt b a) := List.map_mergeSort fun a _ b _ => hle a b
  rw [z]
  exact asc_of_sorted tri (fun a b => rfl) tr ir nd
theorem srtE {L : List (Addr × Ed)} (nd : (L.map (·.2)).Nodup) : ((L.mergeSort (PySem.W.dataLe false encE)).map (·.2)).Pairwise ltE :=
  srt (fun a b h g => ltE_tri h g) (fun a b c => ltE_trans) ltE_irrefl (fun a b => by show (!PySem.W.dataLt (edD b.2) (edD a.2)) = _; rw [dataLt_ed]) nd
theorem mem_srt {α : Type} {le : Addr × α → Addr × α → Bool} {L : List (Addr × α)} {e : α} : e ∈ (L.mergeSort le).map (·.2) ↔ e ∈ L.map (·.2) := ((List.mergeSort_perm L le).map _).mem_iff
theorem alikeE (L : List (Addr × Ed)) : PySem.W.AllAlike (L.map encE) := fun d hd d' hd' => by
  obtain ⟨x, _, rfl⟩ := List.mem_map.mp hd
  obtain ⟨y, _, rfl⟩ := List.mem_map.mp hd'
  rfl
theorem sortableE (L : List (Addr × Ed)) : PySem.W.Sortable (L.map encE) := .inl fun d hd => by
  obtain ⟨x, _, rfl⟩ := List.mem_map.mp hd
  exact ⟨_, _, rfl⟩
theorem depthE (e : Addr × Ed) : (encE e).depth ≤ 8 := by
  show (edD e.2).depth ≤ 8
  simp [edD, PyData.depth, PyData.depthAll]
theorem strs_slim : ∀ ss : List Str, slimAll 100000 (ss.map PyData.str) = true
  | [] => rfl
  | s :: ss => by rw [List.map_cons]; unfold slimAll; rw [strs_slim ss] <;> rfl
theorem srtS_len (l : List Str) : (srtS l).length ≤ l.length := by
  unfold srtS
  rw [List.length_mergeSort]
  exact Nat.le_trans (onceG_len l []) (by rw [List.length_nil]; omega)
theorem atI_last (ys : List V) (v : V) : atI (ys ++ [v]) (-1) = some v := by
  unfold atI ixN
  rw [if_neg (by decide), List.length_append, List.length_singleton]
  rw [if_pos (by omega)]
  show (ys ++ [v])[((-1 : Int) + ((ys.length + 1 : Nat) : Int)).toNat]? = some v
  rw [show ((-1 : Int) + ((ys.length + 1 : Nat) : Int)).toNat = ys.length by omega, List.getElem?_append_right (Nat.le_refl _), Nat.sub_self] <;> rfl
theorem pickI {α : Type} (xs : List α) (f : α → V) {r : Int} (h0 : 0 ≤ r) (h1 : r < xs.length) : ∃ x ∈ xs, atI (xs.map f) r = some (f x) := by
  have lt : r.toNat < xs.length := by omega
  refine ⟨xs[r.toNat], List.getElem_mem lt, ?_⟩
  have e : r = ((r.toNat : Nat) : Int) := by omega
  generalize hj : r.toNat = j at lt e
  subst e
  exact atI_nat (by rw [List.getElem?_map, List.getElem?_eq_getElem (by omega)] <;> simp [hj])
section
variable {C pa : Addr} {φ : Addr → Prop} {x : Addr} {n : Int} {E : List Ed} {H H' : Hp}
theorem sys_but {ys : List V} (S : SysAt K φ C H x n E) (b : But pa H H') (hp : H pa = some (.lst ys)) (nf : ¬ φ pa) : SysAt K φ C H' x n E :=
  S.stay (Kp.ofBut b hp) (fun c c' d fs h => (b c _ (ne_of h hp (fun z => nomatch z)) h).trans h.symm) (fun c kvs h => (b c _ (ne_of h hp (fun z => nomatch z)) h).trans h.symm) fun c xs h z => ⟨(b c _ (fun e => nf (by rw [← e]; exact z)) h).trans h.symm, z⟩
end
end
end LW

set_option Elab.async false
set_option linter.all false
set_option maxRecDepth 100000
set_option maxHeartbeats 4000000
namespace LW
open PySem PySem.Spec PyProof.Rows L2 LamX NdefX VB VM VP VE VX
section
variable {P : Program} {w : World} {K : PySem.W.Frag} {mg : Str → Option Value} {base : Heap}
/-- each number once -/
def spOnceI (K : PySem.W.Frag) : Sp := fun vs H Q _ => ∃ (a : Addr) (ss : List Int), vs = [.ref a] ∧ SqL K H a (ss.map V.int) ∧ ss.length ≤ 100000 ∧
  ∀ (p : Addr), H p = none → Q (.ref p) (upd H p (.lst ((onceG [] ss).map V.int)))
theorem c_onceI (D : Df K mg "_law_once" s__law_once) : C8.Cal P w K mg base 1 "_law_once" (spOnceI K) [] := by
  refine D.cal sc__law_once (fun _ _ _ _ _ _ us hl => match us, hl with | [_], _ => rfl) (fun vs H Q E h => ?_) (fun f cdv A outer s H vs Q E hr h => ?_)
  · obtain ⟨a, ss, rfl, _⟩ := h
    rfl
  obtain ⟨a, ss, rfl, hS, hz, q⟩ := h
  refine ⟨_, (pss_cons (ps_set (i := 1) sc__law_once.nd rfl (Or.inl rfl) (pe_lst pa_nil))
    (pss_cons (ps_for PassesOwn.never rfl (pi_list (pv 0)) (pg_name (i := 2) sc__law_once.nd rfl (Or.inl rfl))
      (pss_one (ps_if (pt_cmpR (VK.notInQ (K := K) rfl) (pv 2) (pv 1) rfl)
        (pss_one (ps_expr (pe_bm PySem.F.plainAttrs_list PySem.F.slot_list_append PySem.F.type_list_append mt_append (pv 1) (pa_cons (pv 2) pa_nil))))
        pss_nil)))
    (pss_one (ps_ret (pv 1))))), ?_⟩
  have zl := sizeLine_eq
  refine ⟨Nat.zero_le _, fun l nl => ?_⟩
  have s0 : ∀ o, Same H (upd H l o) := fun o => same_upd nl o
  refine ⟨_, rfl, a, rfl, ⟨_, (s0 _).seq hS⟩, for_list (K := K) (a := a) (xs := ss.map V.int)
    (fun i σ H' => ∃ (rr : Option V), σ = [some (.ref a), some (.ref l), rr] ∧ H' = upd H l (.lst ((onceG [] (ss.take i)).map V.int)))
    ⟨none, rfl, rfl⟩ (fun i σ H' _ ⟨_, _, e⟩ => by rw [e]; exact (s0 _).seq hS) ?_ ?_⟩
  · rintro i x σ H' hi ⟨rr, rfl, rfl⟩
    have hi2 : i < ss.length := by
      have z := (List.getElem?_eq_some_iff.mp hi).1
      rw [List.length_map] at z
      exact z
    have ex : x = V.int ss[i] := by
      rw [List.getElem?_map, List.getElem?_eq_getElem hi2] at hi
      exact (Option.some.inj hi).symm
    subst ex
    have et : onceG [] (ss.take (i + 1)) = if ss[i] ∈ onceG [] (ss.take i) then onceG [] (ss.take i) else onceG [] (ss.take i) ++ [ss[i]] := by
      rw [List.take_add_one, List.getElem?_eq_getElem hi2]
      exact onceG_snoc _ _ _
    have lim : ((onceG [] (ss.take i)).map V.int).length < sizeLine := by
      rw [List.length_map]
      have z := onceG_len (ss.take i) []
      rw [List.length_take, List.length_nil] at z
      omega
    refine ⟨_, rfl, _, rfl, l, _, rfl, .inl (SqL.of upd_same), rfl, ?_, _, rfl, ?_⟩
    · rw [List.all_eq_true]
      intro v hv
      obtain ⟨x, _, rfl⟩ := List.mem_map.mp hv
      rfl
    · rw [inV_ints]
      refine iteMem (p := ss[i] ∈ onceG [] (ss.take i)) (fun h => ?_) (fun h => ?_)
      · refine ⟨_, rfl, ?_⟩
        rw [et, if_pos h]
      · refine ⟨_, rfl, .inl ⟨rfl, _, SqL.of upd_same⟩, _, rfl, l, _, _, rfl, rfl, upd_same, lim, ?_⟩
        refine ⟨_, rfl, ?_⟩
        rw [upd_upd, et, if_neg h, List.map_append] <;> rfl
  · rintro σ H' ⟨rr, rfl, rfl⟩
    rw [List.length_map, List.take_length]
    exact ⟨_, rfl, q l nl⟩
end
end LW

set_option Elab.async false
set_option linter.all false
set_option maxRecDepth 100000
set_option maxHeartbeats 4000000
namespace LW
open PySem PySem.Spec PyProof.Rows L2 LamX NdefX VB VM VP VE VX VQ
section
variable {P : Program} {w : World} {K : PySem.W.Frag} {mg : Str → Option Value} {base : Heap}
/-- each text once -/
def spOnceS (K : PySem.W.Frag) : Sp := fun vs H Q _ => ∃ (a : Addr) (ss : List Str), vs = [.ref a] ∧ SqL K H a (ss.map V.str) ∧ ss.length ≤ 100000 ∧
  ∀ (p : Addr), H p = none → Q (.ref p) (upd H p (.lst ((onceG [] ss).map V.str)))
theorem c_onceS (D : Df K mg "_law_once" s__law_once) : C8.Cal P w K mg base 1 "_law_once" (spOnceS K) [] := by
  refine D.cal sc__law_once (fun _ _ _ _ _ _ us hl => match us, hl with | [_], _ => rfl) (fun vs H Q E h => ?_) (fun f cdv A outer s H vs Q E hr h => ?_)
  · obtain ⟨a, ss, rfl, _⟩ := h
    rfl
  obtain ⟨a, ss, rfl, hS, hz, q⟩ := h
  refine ⟨_, (pss_cons (ps_set (i := 1) sc__law_once.nd rfl (Or.inl rfl) (pe_lst pa_nil))
    (pss_cons (ps_for PassesOwn.never rfl (pi_list (pv 0)) (pg_name (i := 2) sc__law_once.nd rfl (Or.inl rfl))
      (pss_one (ps_if (pt_cmpR (VK.notInQ (K := K) rfl) (pv 2) (pv 1) rfl)
        (pss_one (ps_expr (pe_bm PySem.F.plainAttrs_list PySem.F.slot_list_append PySem.F.type_list_append mt_append (pv 1) (pa_cons (pv 2) pa_nil))))
        pss_nil)))
    (pss_one (ps_ret (pv 1))))), ?_⟩
  have zl := sizeLine_eq
  refine ⟨Nat.zero_le _, fun l nl => ?_⟩
  have s0 : ∀ o, Same H (upd H l o) := fun o => same_upd nl o
  refine ⟨_, rfl, a, rfl, ⟨_, (s0 _).seq hS⟩, for_list (K := K) (a := a) (xs := ss.map V.str)
    (fun i σ H' => ∃ (rr : Option V), σ = [some (.ref a), some (.ref l), rr] ∧ H' = upd H l (.lst ((onceG [] (ss.take i)).map V.str)))
    ⟨none, rfl, rfl⟩ (fun i σ H' _ ⟨_, _, e⟩ => by rw [e]; exact (s0 _).seq hS) ?_ ?_⟩
  · rintro i x σ H' hi ⟨rr, rfl, rfl⟩
    have hi2 : i < ss.length := by
      have z := (List.getElem?_eq_some_iff.mp hi).1
      rw [List.length_map] at z
      exact z
    have ex : x = V.str ss[i] := by
      rw [List.getElem?_map, List.getElem?_eq_getElem hi2] at hi
      exact (Option.some.inj hi).symm
    subst ex
    have et : onceG [] (ss.take (i + 1)) = if ss[i] ∈ onceG [] (ss.take i) then onceG [] (ss.take i) else onceG [] (ss.take i) ++ [ss[i]] := by
      rw [List.take_add_one, List.getElem?_eq_getElem hi2]
      exact onceG_snoc _ _ _
    have lim : ((onceG [] (ss.take i)).map V.str).length < sizeLine := by
      rw [List.length_map]
      have z := onceG_len (ss.take i) []
      rw [List.length_take, List.length_nil] at z
      omega
    refine ⟨_, rfl, _, rfl, l, _, rfl, .inl (SqL.of upd_same), rfl, ?_, _, rfl, ?_⟩
    · rw [List.all_eq_true]
      intro v hv
      obtain ⟨x, _, rfl⟩ := List.mem_map.mp hv
      rfl
    · rw [inV_strs]
      refine iteMem (p := ss[i] ∈ onceG [] (ss.take i)) (fun h => ?_) (fun h => ?_)
      · refine ⟨_, rfl, ?_⟩
        rw [et, if_pos h]
      · refine ⟨_, rfl, .inl ⟨rfl, _, SqL.of upd_same⟩, _, rfl, l, _, _, rfl, rfl, upd_same, lim, ?_⟩
        refine ⟨_, rfl, ?_⟩
        rw [upd_upd, et, if_neg h, List.map_append] <;> rfl
  · rintro σ H' ⟨rr, rfl, rfl⟩
    rw [List.length_map, List.take_length]
    exact ⟨_, rfl, q l nl⟩
end
end LW

set_option Elab.async false
set_option linter.all false
set_option maxRecDepth 100000
set_option maxHeartbeats 4000000
namespace LW
open PySem PySem.Spec PyProof.Rows L2 LamX NdefX VB VM VP VE VX
theorem sc_System__check_state : FnScope ["self", "state"] ["self", "state"] (defScope s_System__check_state) := ⟨rfl, rfl, rfl, by decide +kernel, rfl, by decide +kernel, by decide +kernel⟩
section
variable {P : Program} {w : World} {K : PySem.W.Frag} {mg : Str → Option Value} {base : Heap}
/-- the state is there, or BadArgument -/
def spStX (K : PySem.W.Frag) (C CB : Addr) : Sp := fun vs H Q E => ∃ (φ : Addr → Prop) (p : Addr) (n : Int) (E0 : List Ed) (s : Int), vs = [.ref p, .int s] ∧ SysAt K φ C H p n E0 ∧ (0 ≤ s ∧ s < n → Q .non H) ∧ (¬ (0 ≤ s ∧ s < n) → E (.ref CB) none H)
theorem c_stateX {C CB f : Addr} {fd : FuncData} (T : SysTxt K C) (me : Meth K C "_check_state" f) (F : FunD K "_check_state" "System._check_state" (defArgs s_System__check_state) (defBody s_System__check_state) (defScope s_System__check_state) [] [] f fd)
    (e_BadArgument : VE.Own K mg "BadArgument" CB) : VE.MetX P w K mg base 1 C "_check_state" (spStX K C CB) := by
  refine metXOf T.cl me F sc_System__check_state (fun _ _ _ _ _ _ us hl => match us, hl with | [_, _], _ => rfl) (fun vs H Q E h => ?_) (fun cdv A outer s H vs Q E hr h => ?_)
  · obtain ⟨φ, p, n, E0, s, rfl, _⟩ := h
    rfl
  obtain ⟨φ, p, n, E0, s, rfl, ⟨⟨dx, te, ll, td, LE, rows, kvs, S⟩, _, _⟩, q, qe⟩ := h
  refine ⟨_, (pss_one (ps_if (pt_not (pt_chain op_le op_lt pe_int (pv 1) (pe_fld (pv 0) rfl)))
      (pss_one (ps_raise rfl (takes_of rfl rfl rfl rfl) (pmk_own PySem.F.excBase_ValueError e_BadArgument.xP e_BadArgument.at_ e_BadArgument.kP (raises_own e_BadArgument.bP e_BadArgument.tP) rfl)))
      pss_nil)), ?_⟩
  refine ⟨_, rfl, _, _, rfl, rfl, _, rfl, ?_⟩
  by_cases s0 : 0 ≤ s
  case neg => exact iteFe (decide_eq_false s0) ⟨_, rfl, iteT (qe fun z => s0 z.1)⟩
  refine iteTe (decide_eq_true s0) ⟨_, rfl, p, C, dx, _, _, rfl, S.hp, T.cl, T.n0, fl_count n te ll td, _, _, rfl, rfl, _, rfl, ?_⟩
  by_cases s1 : s < n
  case neg => exact iteTe (by rw [decide_eq_false s1] <;> rfl) (qe fun z => s1 z.2)
  exact iteNT s1 (q ⟨s0, s1⟩)
theorem SysIn.rowAt {φ : Addr → Prop} {C p : Addr} {H : Hp} {n : Int} {E : List Ed} {dx te ll td : Addr} {LE : List (Addr × Ed)} {rows : List Addr} {kvs : List (List Key × V)} (S : SysIn K φ C H p n E dx te ll td LE rows kvs) {s : Int} (s0 : 0 ≤ s) (s1 : s < n) :
    ∃ (a : Addr) (LP : List (Addr × Pr)), atI (rows.map V.ref) s = some (.ref a) ∧ H a = some (.lst (refs LP)) ∧ Pqs K H LP ∧ LP.map (·.2) = leav E s := by
  have lts : s.toNat < rows.length := by have := S.len; omega
  have es : s = ((s.toNat : Nat) : Int) := by omega
  have ha : rows[s.toNat]? = some rows[s.toNat] := List.getElem?_eq_getElem lts
  generalize rows[s.toNat] = a at ha
  obtain ⟨_, LP, g1, g2, g3⟩ := S.row _ _ ha
  exact ⟨a, LP, by rw [es]; exact atI_nat (by rw [List.getElem?_map, ha] <;> rfl), g1, g2, by rw [g3, ← es]⟩
end
end LW

set_option Elab.async false
set_option linter.all false
set_option maxRecDepth 100000
set_option maxHeartbeats 4000000
namespace LW
open PySem PySem.Spec PyProof.Rows L2 LamX NdefX VB VM VP VE VX
theorem sc_System_targets : FnScope ["self", "state", "action"] ["self", "state", "action"] (defScope s_System_targets) := ⟨rfl, rfl, rfl, by decide +kernel, rfl, by decide +kernel, by decide +kernel⟩
section
variable {P : Program} {w : World} {K : PySem.W.Frag} {mg : Str → Option Value} {base : Heap}
def spTargX (K : PySem.W.Frag) (C CB : Addr) : Sp := fun vs H Q E => ∃ (φ : Addr → Prop) (p : Addr) (n : Int) (E0 : List Ed) (s : Int) (x : Str), vs = [.ref p, .int s, .str x] ∧ SysAt K φ C H p n E0 ∧ (¬ (0 ≤ s ∧ s < n) → E (.ref CB) none H) ∧
  (0 ≤ s ∧ s < n → ∀ (q : Addr) (H' : Hp), Same H H' → H q = none → H' q = some (.lst ((tg E0 s x).map V.int)) → Q (.ref q) H')
theorem c_targetsX {C CB f : Addr} {fd : FuncData} (T : SysTxt K C) (me : Meth K C "targets" f) (F : FunD K "targets" "System.targets" (defArgs s_System_targets) (defBody s_System_targets) (defScope s_System_targets) [] [] f fd)
    (z_list : mg "list" = none) (c_System__check_state : VE.MetX P w K mg base 1 C "_check_state" (spStX K C CB)) : VE.MetX P w K mg base 2 C "targets" (spTargX K C CB) := by
  refine metXOf T.cl me F sc_System_targets (fun _ _ _ _ _ _ us hl => match us, hl with | [_, _, _], _ => rfl) (fun vs H Q E h => ?_) (fun cdv A outer s H vs Q E hr h => ?_)
  · obtain ⟨φ, p, n, E0, s, x, rfl, _⟩ := h
    rfl
  obtain ⟨φ, p, n, E0, s, x, rfl, SA, qe, q⟩ := h
  have SA' := SA
  obtain ⟨⟨dx, te, ll, td, LE, rows, kvs, S⟩, _, _⟩ := SA
  refine ⟨_, (pss_cons (ps_expr (VE.pe_mX c_System__check_state hr (by first | decide | omega) (takes_of rfl rfl rfl rfl) (pv 0) (pa_cons (pv 1) pa_nil)))
    (pss_one (ps_ret (pe_callTy (VK.listQ (K := K) rfl) (by rfl) z_list (by decide +kernel) (pa_cons (pe_dget2 (hu_of hr) (pe_fld (pv 0) rfl) (pe_tup (pa_cons (pv 1) (pa_cons (pv 2) pa_nil))) (pe_lst pa_nil) ⟨rfl, rfl, rfl, rfl⟩) pa_nil))))), ?_⟩
  refine ⟨_, rfl, p, dx, _, rfl, S.hp, fl_none n te ll td (by decide +kernel) (by decide +kernel) (by decide +kernel) (by decide +kernel), _, rfl, φ, p, n, E0, s, rfl, SA', fun hs => ?_, qe⟩
  refine ⟨_, rfl, p, C, dx, _, _, rfl, S.hp, T.cl, T.n3, fl_targ n te ll td, td, rfl, .inr ⟨_, .inl S.tab.at_⟩, _, rfl, _, rfl, (by show 2 ≤ sizeLine; decide), fun k nk => ⟨Nat.zero_le _, fun z nz => ?_⟩⟩
  have sk := same_upd nk (.tup [.int s, .str x])
  have sz := same_upd nz (.lst [])
  have skz := sk.trans sz
  have hz : upd (upd H k (.tup [.int s, .str x])) z (.lst []) z = some (.lst []) := upd_same
  have hk : upd (upd H k (.tup [.int s, .str x])) z (.lst []) k = some (.tup [.int s, .str x]) := sz _ _ upd_same
  generalize upd (upd H k (.tup [.int s, .str x])) z (.lst []) = H2 at hz hk skz ⊢
  refine ⟨_, DGet.t (k := kT s x) (skz _ _ S.tab.at_) hk, ?_⟩
  cases hv : valV kvs (kT s x) with
  | none =>
    have e := S.tab.none_ s x hv
    refine ⟨z, _, rfl, .inl (SqL.of hz), fun l nl => q hs l _ (skz.trans (same_upd nl _)) (skz.free nl) ?_⟩
    rw [e]
    exact upd_same
  | some v =>
    obtain ⟨b, s', x', e1, e2, e3, _⟩ := S.tab.some_ _ _ hv
    obtain ⟨rfl, rfl⟩ : s = s' ∧ x = x' := by
      injection e1 with a1 a2
      injection a2 with a2 _
      exact ⟨Sum.inl.inj a1, Sum.inr.inj a2⟩
    subst e2
    exact ⟨b, _, rfl, .inl (SqL.of (skz _ _ e3)), fun l nl => q hs l _ (skz.trans (same_upd nl _)) (skz.free nl) upd_same⟩
end
end LW

set_option Elab.async false
set_option linter.all false
set_option maxRecDepth 100000
set_option maxHeartbeats 4000000
namespace LW
open PySem PySem.Spec PyProof.Rows L2 LamX NdefX VB VM VP VE VX VQ
end LW

set_option Elab.async false
set_option linter.all false
set_option maxRecDepth 100000
set_option maxHeartbeats 4000000
namespace LW
open PySem PySem.Spec PyProof.Rows L2 LamX NdefX VB VM VP VE VX VQ
theorem sc_closure : FnScope ["system", "states", "found", "pending", "state"] ["system", "states"] (defScope s_closure) := ⟨rfl, rfl, rfl, by decide +kernel, rfl, by decide +kernel, by decide +kernel⟩
theorem tg_mem {E : List Ed} {s : Int} {x : Str} {y : Int} : y ∈ tg E s x ↔ (s, x, y) ∈ E := by
  unfold tg
  rw [List.mem_map]
  constructor
  · rintro ⟨e, he, rfl⟩
    obtain ⟨h1, h2⟩ := List.mem_filter.mp he
    obtain ⟨rfl, rfl⟩ := of_decide_eq_true h2
    exact h1
  · intro h
    exact ⟨_, List.mem_filter.mpr ⟨h, by simp⟩, rfl⟩
theorem tg_len (E : List Ed) (s : Int) (x : Str) : (tg E s x).length ≤ E.length := by
  unfold tg
  rw [List.length_map]
  exact List.length_filter_le _ _
theorem few_of {n : Int} {l : List Int} (nd : l.Nodup) (h : ∀ x ∈ l, 0 ≤ x ∧ x < n) : l.length ≤ n.toNat := by
  have z := nd_le l (rng n.toNat) nd fun x hx => rng_mem.2 ⟨(h x hx).1, by have := (h x hx).2; omega⟩
  rw [rng_len] at z
  exact z
theorem SysAt.rangeR {K : PySem.W.Frag} {φ : Addr → Prop} {C p : Addr} {H : Hp} {n : Int} {E : List Ed} (S : SysAt K φ C H p n E) {ss : List Int} (hs : ∀ x ∈ ss, 0 ≤ x ∧ x < n) {x : Int} (h : Rch E ss x) : 0 ≤ x ∧ x < n :=
  Rch.range (P := fun x => 0 ≤ x ∧ x < n) (fun e he => ⟨(S.ok e he).2.2.1, (S.ok e he).2.2.2.1⟩) hs h
section
variable {P : Program} {w : World} {K : PySem.W.Frag} {mg : Str → Option Value} {base : Heap}
def spClos (K : PySem.W.Frag) (C : Addr) : Sp := fun vs H Q _ => ∃ (φ : Addr → Prop) (p a : Addr) (n : Int) (E0 : List Ed) (ss : List Int), vs = [.ref p, .ref a] ∧ SysAt K φ C H p n E0 ∧ n ≤ 60 ∧ E0.length ≤ 1000 ∧
  (SqL K H a (ss.map V.int) ∨ SqT K H a (ss.map V.int)) ∧ (∀ x ∈ ss, 0 ≤ x ∧ x < n) ∧ ss.length ≤ 100000 ∧
  ∀ (q : Addr) (H' : Hp) (cs : List Int), Same H H' → H' q = some (.tup (cs.map V.int)) → IsClo E0 ss cs → Q (.ref q) H'
theorem c_closure {C CB : Addr} (D : Df K mg "closure" s_closure) (z_list : mg "list" = none) (z_set : mg "set" = none) (z_sorted : mg "sorted" = none) (z_tuple : mg "tuple" = none)
    (c_System_targets : C8.Met P w K mg base 2 C "targets" (calm (spTargX K C CB)) []) : C8.Cal P w K mg base 3 "closure" (spClos K C) [] := by
  refine D.cal sc_closure (fun _ _ _ _ _ _ us hl => match us, hl with | [_, _], _ => rfl) (fun vs H Q E h => ?_) (fun f cdv A outer s0 H vs Q E hr h => ?_)
  · obtain ⟨φ, p, a, n, E0, ss, rfl, _⟩ := h
    rfl
  obtain ⟨φ, p, a, n, E0, ss, rfl, SA, n60, lenE, hseq, hss, lens, q⟩ := h
  refine ⟨_, (pss_cons (ps_set (i := 2) sc_closure.nd rfl (Or.inl rfl) (pe_callTy0 (VQ.set0I (w := w) rfl) (by rfl) z_set (by decide +kernel)))
    (pss_cons (ps_set (i := 3) sc_closure.nd rfl (Or.inl rfl) (pe_callTy (VK.listQ (K := K) rfl) (by rfl) z_list (by decide +kernel) (pa_cons (pv 1) pa_nil)))
    (pss_cons (ps_while PassesOwn.never (pt_truth (pv 3) (by intro _; rfl))
      (pss_cons (ps_set (i := 4) sc_closure.nd rfl (Or.inl rfl) (pe_bm0 PySem.F.plainAttrs_list PySem.F.slot_list_pop PySem.F.type_list_pop mt_pop (pv 3)))
      (pss_one (ps_if (pt_cmpR (VQ.notInI (w := w) rfl) (pv 4) (pv 2) rfl)
        (pss_cons (ps_expr (VQ.saddI (w := w) rfl (pv 2) (pa_cons (pv 4) pa_nil)))
        (pss_one (ps_expr (pe_bm PySem.F.plainAttrs_list PySem.F.slot_list_extend PySem.F.type_list_extend mt_extend (pv 3) (pa_cons (C8.pe_mt c_System_targets hr (by first | decide | omega) (pv 0) (pa_cons (pv 4) (pa_cons pe_str pa_nil))) pa_nil)))))
        pss_nil))))
    (pss_one (ps_ret (pe_callTy (VK.tupQ (K := K) rfl) (by rfl) z_tuple (by decide +kernel) (pa_cons (pe_callB (VQ.sortedSI (w := w) rfl rfl) (by rfl) z_sorted (by decide +kernel) (pa_cons (pv 2) pa_nil)) pa_nil))))))), ?_⟩
  have zl := sizeLine_eq
  have zb : 100 < scanBound := by decide
  refine ⟨rfl, fun fl nfl => ?_⟩
  have s1 := same_upd nfl (SetO w fl (fun _ => false) 0)
  have hseq1 : SqL K (upd H fl (SetO w fl (fun _ => false) 0)) a (ss.map V.int) ∨ SqT K (upd H fl (SetO w fl (fun _ => false) 0)) a (ss.map V.int) := sqAny s1 hseq
  refine ⟨_, rfl, a, _, rfl, hseq1, fun pl npl => ?_⟩
  have npH : H pl = none := s1.free npl
  have nfp : fl ≠ pl := ne_of_none upd_same npl
  refine ⟨fun m σ H' => ∃ (stk : List Int) (S : Int → Bool) (k : Nat) (mem : List Int) (r4 : Option V), m = (n.toNat - k) * 1001 + stk.length ∧
      σ = [some (.ref p), some (.ref a), some (.ref fl), some (.ref pl), r4] ∧ Same H H' ∧ H' fl = some (SetO w fl S k) ∧ H' pl = some (.lst (stk.map V.int)) ∧
      mem.Nodup ∧ mem.length = k ∧ (∀ x, S x = true ↔ x ∈ mem) ∧ (∀ x, S x = true → Rch E0 ss x) ∧ (∀ x ∈ stk, Rch E0 ss x) ∧ (∀ x ∈ ss, S x = true ∨ x ∈ stk) ∧
      (∀ x y, S x = true → (x, ("tau" : Str), y) ∈ E0 → S y = true ∨ y ∈ stk) ∧ (n.toNat - k) * 1001 + stk.length ≤ 200000,
    ⟨_, ss, fun _ => false, 0, [], none, rfl, rfl, sameIn s1 npH, by rw [upd_ne nfp]; exact upd_same, upd_same, List.nodup_nil, rfl, fun x => by simp, fun x z => (by cases z), fun x hx => .base hx, fun x hx => .inr hx, fun x y z => (by cases z), by omega⟩, ?_⟩
  rintro m σ H1 ⟨stk, S, k, mem, r4, rfl, rfl, sH, hf, hp, nd, lenm, memS, rS, rK, cS, cT, bnd⟩
  have kn : k ≤ n.toNat := by
    rw [← lenm]
    exact few_of nd fun x hx => SA.rangeR hss (rS x ((memS x).2 hx))
  refine ⟨_, rfl, !(stk.map V.int).isEmpty, .inl ⟨_, SqL.of hp, rfl⟩, ?_⟩
  rcases List.eq_nil_or_concat stk with rfl | ⟨r, s, rfl⟩
  · refine iteF ?_
    refine ⟨_, rfl, fl, S, k, rfl, hf, by omega, fun ns b asc memN lenN nb => ?_⟩
    have s2 := same_upd nb (.lst (ns.map V.int))
    refine ⟨b, _, rfl, .inl ⟨SqL.of upd_same, fun l nl => q l _ ns ((sH.trans s2).trans (same_upd nl _)) upd_same ⟨asc, fun x => ?_⟩⟩⟩
    rw [memN]
    refine ⟨rS x, fun h => ?_⟩
    induction h with
    | base h => exact (cS _ h).elim id fun z => absurd z List.not_mem_nil
    | step _ h ih => exact (cT _ _ ih h).elim id fun z => absurd z List.not_mem_nil
  · rw [List.concat_eq_append] at *
    have e1 : (!((r ++ [s]).map V.int).isEmpty) = true := by cases r <;> rfl
    rw [e1]
    refine iteT ?_
    refine ⟨_, fun σ' H' z => z, ?_⟩
    have elast : ((r ++ [s]).map V.int)[((r ++ [s]).map V.int).length - 1]? = some (V.int s) := by
      rw [List.map_append, List.length_append, List.map_singleton, List.length_singleton, Nat.add_sub_cancel, List.getElem?_append_right (Nat.le_refl _), Nat.sub_self] <;> rfl
    have edrop : ((r ++ [s]).map V.int).dropLast = r.map V.int := by rw [List.map_append, List.map_singleton, List.dropLast_concat]
    have lr : (r ++ [s]).length = r.length + 1 := by rw [List.length_append, List.length_singleton]
    refine ⟨_, rfl, .inl ⟨rfl, _, SqL.of hp⟩, pl, _, _, rfl, rfl, hp, elast, ?_⟩
    rw [edrop]
    have sH2 : Same H (upd H1 pl (.lst (r.map V.int))) := sameIn sH npH
    have hp2 : upd H1 pl (.lst (r.map V.int)) pl = some (.lst (r.map V.int)) := upd_same
    have hf2 : upd H1 pl (.lst (r.map V.int)) fl = some (SetO w fl S k) := by rw [upd_ne nfp]; exact hf
    generalize upd H1 pl (.lst (r.map V.int)) = H2 at sH2 hp2 hf2 ⊢
    have rs := rK s (by simp)
    have ranS := SA.rangeR hss rs
    refine ⟨_, rfl, _, rfl, s, fl, S, k, rfl, rfl, hf2, _, rfl, ?_⟩
    cases hs : S s with
    | true =>
      refine iteF ?_
      refine ⟨_, by rw [lr]; exact Nat.lt_succ_self _, r, S, k, mem, _, rfl, rfl, sH2, hf2, hp2, nd, lenm, memS, rS, fun x hx => rK x (List.mem_append_left _ hx), fun x hx => ?_, fun x y h1 h2 => ?_, by omega⟩
      · rcases cS x hx with z | z
        · exact .inl z
        · rcases List.mem_append.mp z with z | z
          · exact .inr z
          · rw [List.mem_singleton.mp z]; exact .inl hs
      · rcases cT x y h1 h2 with z | z
        · exact .inl z
        · rcases List.mem_append.mp z with z | z
          · exact .inr z
          · rw [List.mem_singleton.mp z]; exact .inl hs
    | false =>
      refine iteT ?_
      refine ⟨_, rfl, ⟨fl, S, k, rfl, hf2⟩, _, rfl, fl, s, S, k, rfl, rfl, hf2, by omega, ?_⟩
      rw [hs]
      rw [show (if false = true then k else k + 1) = k + 1 from rfl]
      have sH3 : Same H (upd H2 fl (SetO w fl (fun j => S j || decide (j = s)) (k + 1))) := sameIn sH2 nfl
      have hp3 : upd H2 fl (SetO w fl (fun j => S j || decide (j = s)) (k + 1)) pl = some (.lst (r.map V.int)) := by rw [upd_ne (Ne.symm nfp)]; exact hp2
      have hf3 : upd H2 fl (SetO w fl (fun j => S j || decide (j = s)) (k + 1)) fl = some (SetO w fl (fun j => S j || decide (j = s)) (k + 1)) := upd_same
      generalize upd H2 fl (SetO w fl (fun j => S j || decide (j = s)) (k + 1)) = H3 at sH3 hp3 hf3 ⊢
      have SA3 := SA.same sH3
      obtain ⟨⟨dx, te, ll, td, LE, rows, kvs, S3⟩, _, _⟩ := SA3
      refine ⟨_, rfl, .inl ⟨rfl, _, SqL.of hp3⟩, _, rfl, p, dx, _, rfl, S3.hp, fl_none n te ll td (by decide +kernel) (by decide +kernel) (by decide +kernel) (by decide +kernel), _, rfl, φ, p, n, E0, s, "tau", rfl, SA.same sH3, fun z => z ranS, fun _ qa H4 s4 nqa hqa => ?_⟩
      have l2 := tg_len E0 s "tau"
      have inS : ∀ x, S x = true → (S x || decide (x = s)) = true := fun x z => by rw [z] <;> rfl
      have inE : (S s || decide (s = s)) = true := by simp
      have nin : ¬ s ∈ mem := fun z => by
        rw [(memS s).2 z] at hs
        cases hs
      have nd2 : (s :: mem).Nodup := List.nodup_cons.mpr ⟨nin, nd⟩
      have kn2 : k + 1 ≤ n.toNat := by
        have z := few_of nd2 (n := n) fun x hx => by
          rcases List.mem_cons.mp hx with z | z
          · rw [z]; exact ranS
          · exact SA.rangeR hss (rS x ((memS x).2 z))
        rw [List.length_cons, lenm] at z
        exact z
      refine ⟨pl, qa, _, _, rfl, rfl, s4 _ _ hp3, hqa, by rw [List.length_map, List.length_map]; omega, ?_⟩
      have lap : (r ++ tg E0 s "tau").length = r.length + (tg E0 s "tau").length := List.length_append
      refine ⟨_, ?_, r ++ tg E0 s "tau", fun j => S j || decide (j = s), k + 1, s :: mem, _, rfl, rfl, sameIn (sH3.trans s4) npH, by rw [upd_ne nfp]; exact s4 _ _ hf3, by rw [upd_same, List.map_append], nd2, by rw [List.length_cons, lenm], fun x => ?_, fun x hx => ?_, fun x hx => ?_, fun x hx => ?_, fun x y h1 h2 => ?_, ?_⟩
      · rw [lr, lap]
        omega
      · rw [Bool.or_eq_true, decide_eq_true_eq, memS, List.mem_cons]
        exact Or.comm
      · rcases Bool.or_eq_true_iff.mp hx with z | z
        · exact rS x z
        · rw [of_decide_eq_true z]; exact rs
      · rcases List.mem_append.mp hx with z | z
        · exact rK x (List.mem_append_left _ z)
        · exact .step rs (tg_mem.1 z)
      · rcases cS x hx with z | z
        · exact .inl (inS _ z)
        · rcases List.mem_append.mp z with z | z
          · exact .inr (List.mem_append_left _ z)
          · rw [List.mem_singleton.mp z]; exact .inl inE
      · rcases Bool.or_eq_true_iff.mp h1 with z | z
        · rcases cT x y z h2 with z | z
          · exact .inl (inS _ z)
          · rcases List.mem_append.mp z with z | z
            · exact .inr (List.mem_append_left _ z)
            · rw [List.mem_singleton.mp z]; exact .inl inE
        · rw [of_decide_eq_true z] at h2
          exact .inr (List.mem_append_right _ (tg_mem.2 h2))
      · rw [lap]
        omega
end
end LW

set_option Elab.async false
set_option linter.all false
set_option maxRecDepth 100000
set_option maxHeartbeats 4000000
namespace LW
open PySem PySem.Spec PyProof.Rows L2 LamX NdefX VB VM VP VE VX VQ
theorem sc_after : FnScope ["system", "states", "action", "targets", "state"] ["system", "states", "action"] (defScope s_after) := ⟨rfl, rfl, rfl, by decide +kernel, rfl, by decide +kernel, by decide +kernel⟩
/-- the states to which edges with an action lead -/
def aft (E : List Ed) (ss : List Int) (x : Str) : List Int := (ss.map fun s => tg E s x).flatten
theorem aft_snoc (E : List Ed) (ss : List Int) (s : Int) (x : Str) : aft E (ss ++ [s]) x = aft E ss x ++ tg E s x := by
  unfold aft
  rw [List.map_append, List.flatten_append, List.map_singleton, List.flatten_singleton]
theorem aft_mem {E : List Ed} {ss : List Int} {x : Str} {y : Int} : y ∈ aft E ss x ↔ ∃ s ∈ ss, (s, x, y) ∈ E := by
  unfold aft
  rw [List.mem_flatten]
  constructor
  · rintro ⟨l, hl, hy⟩
    obtain ⟨s, hs, rfl⟩ := List.mem_map.mp hl
    exact ⟨s, hs, tg_mem.1 hy⟩
  · rintro ⟨s, hs, h⟩
    exact ⟨_, List.mem_map_of_mem hs, tg_mem.2 h⟩
theorem aft_len (E : List Ed) (x : Str) : ∀ ss : List Int, (aft E ss x).length ≤ ss.length * E.length
  | [] => Nat.zero_le _
  | s :: ss => by
    have z := aft_len E x ss
    have y := tg_len E s x
    unfold aft at *
    rw [List.map_cons, List.flatten_cons, List.length_append, List.length_cons, Nat.add_mul, Nat.one_mul]
    omega
/-- the states after a trace, step by step -/
def Runs (E : List Ed) : List Int → List Str → List Int → Prop
  | ds, [], cs => cs = ds
  | ds, x :: r, cs => ∃ es, IsClo E (aft E ds x) es ∧ Runs E es r cs
theorem runs_snoc {E : List Ed} : ∀ {r : List Str} {ds cs : List Int} {x : Str}, Runs E ds (r ++ [x]) cs ↔ ∃ es, Runs E ds r es ∧ IsClo E (aft E es x) cs
  | [], ds, cs, x => ⟨fun ⟨es, h, e⟩ => ⟨ds, rfl, by rw [show cs = es from e]; exact h⟩, fun ⟨es, e, h⟩ => ⟨cs, by rw [← show es = ds from e]; exact h, rfl⟩⟩
  | y :: r, ds, cs, x => ⟨fun ⟨es, h, g⟩ => by
      obtain ⟨fs, h2, g2⟩ := runs_snoc.1 g
      exact ⟨fs, ⟨es, h, h2⟩, g2⟩, fun ⟨fs, ⟨es, h, h2⟩, g⟩ => ⟨es, h, runs_snoc.2 ⟨fs, h2, g⟩⟩⟩
theorem aft_range {n : Int} {E : List Ed} (ok : ∀ e ∈ E, okE n e) {ss : List Int} {x : Str} : ∀ y ∈ aft E ss x, 0 ≤ y ∧ y < n := fun y hy => by
  obtain ⟨s, _, h⟩ := aft_mem.1 hy
  exact ⟨(ok _ h).2.2.1, (ok _ h).2.2.2.1⟩
theorem clo_range {n : Int} {E : List Ed} (ok : ∀ e ∈ E, okE n e) {ss cs : List Int} (h : IsClo E ss cs) (hs : ∀ x ∈ ss, 0 ≤ x ∧ x < n) : ∀ x ∈ cs, 0 ≤ x ∧ x < n := fun x hx =>
  Rch.range (P := fun x => 0 ≤ x ∧ x < n) (fun e he => ⟨(ok e he).2.2.1, (ok e he).2.2.2.1⟩) hs ((h.mem x).1 hx)
theorem clo_len {n : Int} {E : List Ed} (ok : ∀ e ∈ E, okE n e) {ss cs : List Int} (h : IsClo E ss cs) (hs : ∀ x ∈ ss, 0 ≤ x ∧ x < n) : cs.length ≤ n.toNat :=
  few_of (ascI_nodup h.asc) (clo_range ok h hs)
section
variable {P : Program} {w : World} {K : PySem.W.Frag} {mg : Str → Option Value} {base : Heap}
def spAft (K : PySem.W.Frag) (C : Addr) : Sp := fun vs H Q _ => ∃ (φ : Addr → Prop) (p a : Addr) (n : Int) (E0 : List Ed) (ss : List Int) (x : Str), vs = [.ref p, .ref a, .str x] ∧ SysAt K φ C H p n E0 ∧ n ≤ 60 ∧ E0.length ≤ 1000 ∧
  SqT K H a (ss.map V.int) ∧ (∀ x ∈ ss, 0 ≤ x ∧ x < n) ∧ ss.length ≤ 60 ∧
  ∀ (q : Addr) (H' : Hp) (cs : List Int), Same H H' → H' q = some (.tup (cs.map V.int)) → IsClo E0 (aft E0 ss x) cs → Q (.ref q) H'
theorem c_after {C CB : Addr} (TX : SysTxt K C) (D : Df K mg "after" s_after) (c_closure : C8.Cal P w K mg base 3 "closure" (spClos K C) [])
    (c_System_targets : C8.Met P w K mg base 2 C "targets" (calm (spTargX K C CB)) []) : C8.Cal P w K mg base 4 "after" (spAft K C) [] := by
  refine D.cal sc_after (fun _ _ _ _ _ _ us hl => match us, hl with | [_, _, _], _ => rfl) (fun vs H Q E h => ?_) (fun f cdv A outer s0 H vs Q E hr h => ?_)
  · obtain ⟨φ, p, a, n, E0, ss, x, rfl, _⟩ := h
    rfl
  obtain ⟨φ, p, a, n, E0, ss, x, rfl, SA, n60, lenE, hT, hss, lens, q⟩ := h
  refine ⟨_, (pss_cons (ps_set (i := 3) sc_after.nd rfl (Or.inl rfl) (pe_lst pa_nil))
    (pss_cons (ps_for PassesOwn.never rfl (pi_tup (pv 1)) (pg_name (i := 4) sc_after.nd rfl (Or.inl rfl))
      (pss_one (ps_expr (pe_bm PySem.F.plainAttrs_list PySem.F.slot_list_extend PySem.F.type_list_extend mt_extend (pv 3) (pa_cons (C8.pe_mt c_System_targets hr (by first | decide | omega) (pv 0) (pa_cons (pv 4) (pa_cons (pv 2) pa_nil))) pa_nil)))))
    (pss_one (ps_ret (C8.pe_c c_closure hr (by first | decide | omega) rfl (pa_cons (pv 0) (pa_cons (pv 3) pa_nil))))))), ?_⟩
  have zl := sizeLine_eq
  refine ⟨Nat.zero_le _, fun l nl => ?_⟩
  refine ⟨_, rfl, a, rfl, ⟨_, VB.Same.sqT (same_upd nl _) hT⟩, for_tup (K := K) (a := a) (xs := ss.map V.int)
    (fun i σ H' => ∃ (r4 : Option V), σ = [some (.ref p), some (.ref a), some (.str x), some (.ref l), r4] ∧ Same H H' ∧ H' l = some (.lst ((aft E0 (ss.take i) x).map V.int)))
    ⟨none, rfl, same_upd nl _, upd_same⟩ (fun i σ H' _ ⟨_, _, s, _⟩ => VB.Same.sqT s hT) ?_ ?_⟩
  · rintro i v σ H1 hv ⟨r4, rfl, sH, hl⟩
    rw [List.getElem?_map] at hv
    obtain ⟨s, hs, rfl⟩ := Option.map_eq_some_iff.mp hv
    have lti : i < ss.length := (List.getElem?_eq_some_iff.mp hs).1
    have ran := hss s (List.mem_of_getElem? hs)
    have SA1 := SA.same sH
    obtain ⟨⟨dx, te, ll, td, LE, rows, kvs, S1⟩, _, _⟩ := SA1
    refine ⟨_, rfl, .inl ⟨rfl, _, SqL.of hl⟩, _, rfl, p, dx, _, rfl, S1.hp, fl_none n te ll td (by decide +kernel) (by decide +kernel) (by decide +kernel) (by decide +kernel), _, rfl, _, rfl, φ, p, n, E0, s, x, rfl, SA.same sH, fun z => z ran, fun _ qa H2 s2 nqa hqa => ?_⟩
    have l1 := aft_len E0 x (ss.take i)
    have l2 := tg_len E0 s x
    have l3 : (ss.take i).length ≤ 60 := by rw [List.length_take]; omega
    have l4 : (ss.take i).length * E0.length ≤ 60 * 1000 := Nat.mul_le_mul l3 lenE
    refine ⟨l, qa, _, _, rfl, rfl, s2 _ _ hl, hqa, by rw [List.length_map, List.length_map]; omega, ?_⟩
    refine ⟨_, rfl, sameIn (sH.trans s2) nl, ?_⟩
    rw [upd_same, List.take_add_one, hs, Option.toList_some, aft_snoc, List.map_append]
  · rintro σ H1 ⟨r4, rfl, sH, hl⟩
    rw [List.length_map, List.take_length] at hl
    have l1 := aft_len E0 x ss
    have l4 : ss.length * E0.length ≤ 60 * 1000 := Nat.mul_le_mul lens lenE
    exact ⟨_, rfl, _, rfl, φ, p, l, n, E0, aft E0 ss x, rfl, SA.same sH, n60, lenE, .inl (SqL.of hl), aft_range SA.ok, by omega, fun q' H' cs s' hq hc => q q' H' cs (sH.trans s') hq hc⟩
end
end LW

set_option Elab.async false
set_option linter.all false
set_option maxRecDepth 100000
set_option maxHeartbeats 4000000
namespace LW
open PySem PySem.Spec PyProof.Rows L2 LamX NdefX VB VM VP
theorem sc__law_pool : FnScope ["script", "draws", "k"] ["script"] (defScope s__law_pool) := ⟨rfl, rfl, rfl, by decide +kernel, rfl, by decide +kernel, by decide +kernel⟩
theorem sc__law_pick : FnScope ["pool", "many", "at", "turn"] ["pool", "many"] (defScope s__law_pick) := ⟨rfl, rfl, rfl, by decide +kernel, rfl, by decide +kernel, by decide +kernel⟩
section
variable {P : Program} {w : World} {K : PySem.W.Frag} {mg : Str → Option Value} {base : Heap}
/-- the pool of draws: a list of the draws and the place -/
def PoolAt (H : Hp) (a d : Addr) (at_ : Int) : Prop := ∃ (ns : List Int), d ≠ a ∧ H a = some (.lst [.ref d, .int at_]) ∧ H d = some (.lst (ns.map V.int)) ∧
  ns.length = 160 ∧ (∀ x ∈ ns, 0 ≤ x ∧ x < 4096) ∧ 0 ≤ at_
theorem PoolAt.but {H H' : Hp} {a b d : Addr} {i : Int} (p : PoolAt H a d i) (h : Same H H') : PoolAt H' a d i := by
  obtain ⟨ns, n, h1, h2, r⟩ := p
  exact ⟨ns, n, h _ _ h1, h _ _ h2, r⟩
protected theorem PoolAt.upd {a b d : Addr} {H : Hp} {i : Int} (p : PoolAt H a d i) (h1 : b ≠ a) (h2 : b ≠ d) (o : HO) : PoolAt (upd H b o) a d i := by
  obtain ⟨ns, n, e1, e2, r⟩ := p
  exact ⟨ns, n, by rw [upd_ne h1.symm]; exact e1, by rw [upd_ne h2.symm]; exact e2, r⟩
theorem PoolAt.ne {a b d : Addr} {H : Hp} {i : Int} (p : PoolAt H a d i) (h : H b = none) : b ≠ a ∧ b ≠ d := by
  obtain ⟨ns, n, e1, e2, r⟩ := p
  exact ⟨fun z => (by rw [z, e1] at h; cases h), fun z => (by rw [z, e2] at h; cases h)⟩
def spPool (K : PySem.W.Frag) : Sp := fun vs H Q _ => ∃ (a : Addr) (ns : List Int), vs = [.ref a] ∧ SqL K H a (ns.map V.int) ∧
  ∀ (p d : Addr) (H' : Hp), Same H H' → H p = none → PoolAt H' p d 0 → Q (.ref p) H'
theorem c_pool (D : Df K mg "_law_pool" s__law_pool) (z_range : mg "range" = none) (c__law_cell : C8.Cal P w K mg base 1 "_law_cell" (spCell K) [])
    (c__law_draws : C8.Cal P w K mg base 1 "_law_draws" spDraws []) : C8.Cal P w K mg base 2 "_law_pool" (spPool K) [] := by
  refine D.cal sc__law_pool (fun _ _ _ _ _ _ us hl => match us, hl with | [_], _ => rfl) (fun vs H Q E h => ?_) (fun f cdv A outer s H vs Q E hr h => ?_)
  · obtain ⟨a, ns, rfl, _⟩ := h
    rfl
  obtain ⟨a, ns, rfl, hS, q⟩ := h
  refine ⟨_, (pss_cons (ps_set (i := 1) sc__law_pool.nd rfl (Or.inl rfl) (pe_lst pa_nil))
    (pss_cons (ps_for PassesOwn.never rfl (pi_range1 rfl z_range (pa_cons pe_int pa_nil)) (pg_name (i := 2) sc__law_pool.nd rfl (Or.inl rfl))
      (pss_one (ps_set (i := 1) sc__law_pool.nd rfl (Or.inl rfl) (pe_op op_cat (pv 1) (C8.pe_c c__law_draws hr (by first | decide | omega) rfl (pa_cons (C8.pe_c c__law_cell hr (by first | decide | omega) rfl (pa_cons (pv 0) (pa_cons (pv 2) pa_nil))) (pa_cons pe_int pa_nil)))))))
    (pss_one (ps_ret (pe_lst (pa_cons (pv 1) (pa_cons pe_int pa_nil))))))), ?_⟩
  refine ⟨Nat.zero_le _, fun l nl => ?_⟩
  refine ⟨4, rfl, by decide, by decide, for_range (lo := 0) (n := 4)
    (fun i σ H' => ∃ (d : Addr) (ds : List Int) (kk : Option V), σ = [some (.ref a), some (.ref d), kk] ∧ Same H H' ∧ H' d = some (.lst (ds.map V.int)) ∧ H d = none ∧
      ds.length = 40 * i ∧ ∀ x ∈ ds, 0 ≤ x ∧ x < 4096) ⟨l, [], none, rfl, same_upd nl _, upd_same, nl, rfl, fun x hx => by cases hx⟩ ?_ ?_⟩
  · rintro i σ H' hi ⟨d, ds, kk, rfl, s0, hd, nd, hlen, hb⟩
    refine ⟨_, rfl, _, rfl, _, rfl, a, ns, 0 + (i : Int), rfl, s0.seq hS, by omega, fun r hr0 => ?_⟩
    refine ⟨r, 40, rfl, by decide, by decide, fun p ms np hml hmb => ?_⟩
    have s1 : Same H' (upd H' p (.lst (ms.map V.int))) := same_upd np _
    have hz : (ds.map V.int).length + (ms.map V.int).length ≤ sizeLine := by
      rw [List.length_map, List.length_map, hlen, hml]
      exact Nat.le_of_lt (small1000 (by show 40 * i + 40 ≤ 1000; omega))
    refine ⟨d, p, _, _, rfl, rfl, s1 _ _ hd, upd_same, hz, fun t nt => ?_⟩
    have s2 := s0.trans (s1.trans (same_upd nt (.lst (ds.map V.int ++ ms.map V.int))))
    refine ⟨t, ds ++ ms, _, rfl, s2, by rw [upd_same, List.map_append], (s0.trans s1).free nt, ?_, fun x hx => ?_⟩
    · rw [List.length_append, hlen, hml]
      show 40 * i + 40 = 40 * (i + 1)
      omega
    · rcases List.mem_append.mp hx with z | z
      · exact hb x z
      · exact hmb x z
  · rintro σ H' ⟨d, ds, kk, rfl, s0, hd, nd, hlen, hb⟩
    refine ⟨_, rfl, (by show 2 ≤ sizeLine; decide), fun p np => ?_⟩
    have s1 : Same H' (upd H' p (.lst [.ref d, .int 0])) := same_upd np _
    exact q p d _ (s0.trans s1) (s0.free np) ⟨ds, ne_of_none hd np, upd_same, s1 _ _ hd, hlen, hb, Int.le_refl 0⟩
/-- one draw below many -/
def spPick : Sp := fun vs H Q _ => ∃ (a d : Addr) (at_ m : Int), vs = [.ref a, .int m] ∧ PoolAt H a d at_ ∧ at_ < 1000000 ∧ 0 < m ∧
  ∀ (r : Int) (H' : Hp), 0 ≤ r → r < m → But a H H' → PoolAt H' a d (at_ + 1) → Q (.int r) H'
theorem c_pick (D : Df K mg "_law_pick" s__law_pick) (z_len : mg "len" = none) : C8.Cal P w K mg base 1 "_law_pick" spPick [] := by
  refine D.cal sc__law_pick (fun _ _ _ _ _ _ us hl => match us, hl with | [_, _], _ => rfl) (fun vs H Q E h => ?_) (fun f cdv A outer s H vs Q E hr h => ?_)
  · obtain ⟨a, d, at_, m, rfl, _⟩ := h
    rfl
  obtain ⟨a, d, at_, m, rfl, ⟨ns, nda, ha, hd, hlen, hb, h0⟩, hlim, hm, q⟩ := h
  refine ⟨_, (pss_cons (ps_set (i := 2) sc__law_pick.nd rfl (Or.inl rfl) (pe_ix (VK.ixL (K := K) rfl) (pv 0) pe_int (fun _ _ => rfl)))
    (pss_cons (ps_asg (pe_op op_add (pv 2) pe_int) (pg_sub (pv 0) pe_int set_list))
    (pss_cons (ps_set (i := 3) sc__law_pick.nd rfl (Or.inl rfl) (pe_op op_fdivN (pv 2) (pe_callB (VK.lenQ (K := K) rfl) (by rfl) z_len PySem.boot_len (pa_cons (pe_ix (VK.ixL (K := K) rfl) (pv 0) pe_int (fun _ _ => rfl)) pa_nil))))
    (pss_one (ps_ret (pe_op op_modN (pe_op op_add (pe_op op_add (pe_ix (VK.ixL (K := K) rfl) (pe_ix (VK.ixL (K := K) rfl) (pv 0) pe_int (fun _ _ => rfl)) (pe_op op_modN (pv 2) (pe_callB (VK.lenQ (K := K) rfl) (by rfl) z_len PySem.boot_len (pa_cons (pe_ix (VK.ixL (K := K) rfl) (pv 0) pe_int (fun _ _ => rfl)) pa_nil))) (fun _ _ => rfl)) (pe_op op_mul (pv 3) pe_int)) (pe_op op_mul (pv 3) (pv 2))) (pv 1))))))), ?_⟩
  have e0 : atI [V.ref d, V.int at_] 0 = some (.ref d) := rfl
  have e1 : atI [V.ref d, V.int at_] 1 = some (.int at_) := rfl
  have hl2 : ((ns.map V.int).length : Int) = 160 := by rw [List.length_map, hlen] <;> rfl
  refine ⟨_, rfl, a, _, _, _, rfl, rfl, SqL.of ha, e1, ?_⟩
  refine ⟨_, rfl, _, _, rfl, rfl, _, rfl, a, _, _, 1, rfl, rfl, ha, rfl, ?_⟩
  have ha2 : upd H a (.lst ([V.ref d, V.int at_].set 1 (V.int (at_ + 1)))) a = some (.lst [V.ref d, V.int (at_ + 1)]) := upd_same
  have hd2 : upd H a (.lst ([V.ref d, V.int at_].set 1 (V.int (at_ + 1)))) d = some (.lst (ns.map V.int)) := by rw [upd_ne nda]; exact hd
  have hj : ((ns.map V.int).length : Int) ≠ 0 := by omega
  have h01 : 0 ≤ at_.fmod ((ns.map V.int).length : Int) := by rw [hl2]; exact Int.fmod_nonneg h0 (by decide)
  have h02 : at_.fmod ((ns.map V.int).length : Int) < 160 := by rw [hl2]; exact Int.fmod_lt_of_pos _ (by decide)
  obtain ⟨k, ek⟩ := Int.eq_ofNat_of_zero_le h01
  have hk : k < ns.length := by omega
  have hat : atI (ns.map V.int) (at_.fmod ((ns.map V.int).length : Int)) = some (.int ns[k]) := by
    rw [ek]
    exact atI_nat (by rw [List.getElem?_map, List.getElem?_eq_getElem hk] <;> rfl)
  refine ⟨_, rfl, _, rfl, a, _, _, _, rfl, rfl, SqL.of ha2, rfl, d, _, rfl, .inl (SqL.of hd2), _, _, rfl, rfl, ⟨hj, by omega⟩, ?_⟩
  refine ⟨_, rfl, a, _, _, _, rfl, rfl, SqL.of ha2, rfl, _, rfl, _, rfl, a, _, _, _, rfl, rfl, SqL.of ha2, rfl, d, _, rfl, .inl (SqL.of hd2), _, _, rfl, rfl, hj, d, _, _, _, rfl, rfl, SqL.of hd2, hat, ?_⟩
  refine ⟨_, rfl, _, _, rfl, rfl, .inr ⟨by decide, by decide⟩, _, _, rfl, rfl, _, rfl, _, rfl, _, _, rfl, rfl, .inr ⟨by omega, by omega⟩, _, _, rfl, rfl, _, rfl, _, _, rfl, rfl, (by omega), ?_⟩
  exact q _ _ (Int.fmod_nonneg_of_pos _ hm) (Int.fmod_lt_of_pos _ hm) (But.upd _) ⟨ns, nda, ha2, hd2, hlen, hb, by omega⟩
end
end LW


set_option Elab.async false
set_option linter.all false
set_option maxRecDepth 100000
set_option maxHeartbeats 4000000
namespace LW
open PySem PySem.Spec PyProof.Rows L2 LamX NdefX VB VM VP VE VX VQ
theorem sc__law_closed : FnScope ["edges", "states", "found", "k", "state", "action", "target"] ["edges", "states"] (defScope s__law_closed) := ⟨rfl, rfl, rfl, by decide +kernel, rfl, by decide +kernel, by decide +kernel⟩
theorem flat_ints (o : List Int) : (o.map V.int).all flatV = true := by
  induction o with
  | nil => rfl
  | cons x o ih => rw [List.map_cons, List.all_cons, ih] <;> rfl
/-- one edge of the law's closing -/
def cls1 (s : Int) (acc : List Int) (e : Ed) : List Int := if e.1 = s ∧ e.2.1 = ("tau" : Str) ∧ ¬ e.2.2 ∈ acc then acc ++ [e.2.2] else acc
theorem cls_mem (s : Int) : ∀ (L : List Ed) (acc : List Int) (x : Int), x ∈ L.foldl (cls1 s) acc ↔ x ∈ acc ∨ (s, ("tau" : Str), x) ∈ L
  | [], acc, x => by simp
  | e :: L, acc, x => by
    rw [List.foldl_cons, cls_mem s L, List.mem_cons]
    unfold cls1
    by_cases h : e.1 = s ∧ e.2.1 = ("tau" : Str) ∧ ¬ e.2.2 ∈ acc
    · rw [if_pos h, List.mem_append, List.mem_singleton, or_assoc]
      have q : (x = e.2.2) ↔ (s, ("tau" : Str), x) = e := by
        obtain ⟨h1, h2, _⟩ := h
        constructor
        · rintro rfl; rw [← h1, ← h2]
        · intro z; rw [← z]
      rw [q]
    · rw [if_neg h]
      constructor
      · rintro (z | z)
        · exact .inl z
        · exact .inr (.inr z)
      · rintro (z | z | z)
        · exact .inl z
        · refine .inl (Classical.byContradiction fun n => h ?_)
          rw [← z]
          exact ⟨rfl, rfl, n⟩
        · exact .inr z
theorem cls_nd (s : Int) : ∀ (L : List Ed) (acc : List Int), acc.Nodup → (L.foldl (cls1 s) acc).Nodup
  | [], acc, h => h
  | e :: L, acc, h => by
    rw [List.foldl_cons]
    refine cls_nd s L _ ?_
    unfold cls1
    split
    · rename_i q
      exact List.nodup_append.mpr ⟨h, by simp, fun a ha b hb => by rw [List.mem_singleton.mp hb]; intro e; exact q.2.2 (e ▸ ha)⟩
    · exact h
theorem cls_pre (s : Int) : ∀ (L : List Ed) (acc : List Int), ∃ r, L.foldl (cls1 s) acc = acc ++ r
  | [], acc => ⟨[], by simp⟩
  | e :: L, acc => by
    rw [List.foldl_cons]
    obtain ⟨r, h⟩ := cls_pre s L (cls1 s acc e)
    rw [h]
    unfold cls1
    split
    · exact ⟨[e.2.2] ++ r, by rw [List.append_assoc]⟩
    · exact ⟨r, rfl⟩
theorem cls_len (s : Int) : ∀ (L : List Ed) (acc : List Int), (L.foldl (cls1 s) acc).length ≤ acc.length + L.length
  | [], acc => Nat.le_refl _
  | e :: L, acc => by
    rw [List.foldl_cons, List.length_cons]
    have z := cls_len s L (cls1 s acc e)
    have y : (cls1 s acc e).length ≤ acc.length + 1 := by
      unfold cls1
      split
      · rw [List.length_append, List.length_singleton]; exact Nat.le_refl _
      · omega
    omega
/-- the law's rounds -/
def clsG (L : List Ed) : Nat → List Int → List Int
  | 0, F => F
  | k + 1, F => match (clsG L k F)[k]? with
    | some s => L.foldl (cls1 s) (clsG L k F)
    | none => clsG L k F
theorem clsG_some {L : List Ed} {k : Nat} {F : List Int} {s : Int} (h : (clsG L k F)[k]? = some s) : clsG L (k + 1) F = L.foldl (cls1 s) (clsG L k F) := by
  show (match (clsG L k F)[k]? with
    | some s => L.foldl (cls1 s) (clsG L k F)
    | none => clsG L k F) = _
  rw [h]
theorem clsG_none {L : List Ed} {k : Nat} {F : List Int} (h : (clsG L k F)[k]? = none) : clsG L (k + 1) F = clsG L k F := by
  show (match (clsG L k F)[k]? with
    | some s => L.foldl (cls1 s) (clsG L k F)
    | none => clsG L k F) = _
  rw [h]
structure ClsOk (L : List Ed) (S : List Int) (k : Nat) (F : List Int) : Prop where
  nd : F.Nodup
  pre : ∃ r, F = S ++ r
  rch : ∀ x ∈ F, Rch L S x
  cl : ∀ i s, i < k → F[i]? = some s → ∀ y, (s, ("tau" : Str), y) ∈ L → y ∈ F
theorem clsOk (L : List Ed) {S : List Int} (nd : S.Nodup) : ∀ k, ClsOk L S k (clsG L k S)
  | 0 => ⟨nd, ⟨[], by simp [clsG]⟩, fun x hx => .base hx, fun i s h => absurd h (Nat.not_lt_zero _)⟩
  | k + 1 => by
    have ih := clsOk L nd k
    cases hs : (clsG L k S)[k]? with
    | none =>
      rw [clsG_none hs]
      exact ⟨ih.nd, ih.pre, ih.rch, fun i s hi h => ih.cl i s (by
        have z := (List.getElem?_eq_some_iff.mp h).1
        have y := List.getElem?_eq_none_iff.mp hs
        omega) h⟩
    | some s =>
      rw [clsG_some hs]
      obtain ⟨r, hr⟩ := cls_pre s L (clsG L k S)
      refine ⟨cls_nd s L _ ih.nd, ?_, fun x hx => ?_, fun i t hi h y hy => ?_⟩
      · obtain ⟨q, hq⟩ := ih.pre
        exact ⟨q ++ r, by rw [hr, ← List.append_assoc, ← hq]⟩
      · rcases (cls_mem s L _ x).1 hx with z | z
        · exact ih.rch x z
        · exact .step (ih.rch s (List.mem_of_getElem? hs)) z
      · rw [cls_mem]
        have lt : i < (clsG L k S).length := by
          have z := (List.getElem?_eq_some_iff.mp hs).1
          omega
        have h' : (clsG L k S)[i]? = some t := by
          rw [hr, List.getElem?_append_left lt] at h
          exact h
        rcases Nat.lt_succ_iff_lt_or_eq.mp hi with z | rfl
        · exact .inl (ih.cl i t z h' y hy)
        · rw [hs] at h'
          rw [← Option.some.inj h'] at hy
          exact .inr hy
theorem clsG_len (L : List Ed) {S : List Int} (nd : S.Nodup) (k : Nat) : (clsG L k S).length ≤ S.length + L.length := by
  have o := clsOk L nd k
  obtain ⟨r, hr⟩ := o.pre
  have nr : r.Nodup := by
    have z := o.nd
    rw [hr] at z
    exact (List.nodup_append.mp z).2.1
  have sub : ∀ x ∈ r, x ∈ L.map (·.2.2) := fun x hx => by
    have z := o.rch x (by rw [hr]; exact List.mem_append_right _ hx)
    cases z with
    | base z =>
      have y := o.nd
      rw [hr] at y
      exact absurd rfl ((List.nodup_append.mp y).2.2 x z x hx)
    | step _ z => exact List.mem_map_of_mem (f := fun e : Ed => e.2.2) z
  have z := nd_le r _ nr sub
  rw [List.length_map] at z
  rw [hr, List.length_append]
  omega
theorem clsG_clo (L : List Ed) {S : List Int} (nd : S.Nodup) {k : Nat} (h : S.length + L.length ≤ k) : IsClo L S (srtI (clsG L k S)) := by
  have o := clsOk L nd k
  refine ⟨srtI_asc o.nd, fun x => ?_⟩
  rw [srtI_mem]
  refine ⟨o.rch x, fun z => ?_⟩
  induction z with
  | base z =>
    obtain ⟨r, hr⟩ := o.pre
    rw [hr]
    exact List.mem_append_left _ z
  | step _ z ih =>
    obtain ⟨i, hi, e⟩ := List.mem_iff_getElem.mp ih
    have l := clsG_len L nd k
    exact o.cl i _ (by omega) (by rw [List.getElem?_eq_getElem hi, e]) _ z
section
variable {P : Program} {w : World} {K : PySem.W.Frag} {mg : Str → Option Value} {base : Heap}
/-- the closure, by the law -/
def spCls (K : PySem.W.Frag) : Sp := fun vs H Q _ => ∃ (a b : Addr) (L : List (Addr × Ed)) (ss : List Int), vs = [.ref a, .ref b] ∧ SqL K H a (refs L) ∧ Eds K H L ∧ L.length ≤ 1000 ∧ (SqL K H b (ss.map V.int) ∨ SqT K H b (ss.map V.int)) ∧ ss.Nodup ∧ ss.length ≤ 1000 ∧
  ∀ (q : Addr) (H' : Hp) (cs : List Int), Same H H' → H' q = some (.tup (cs.map V.int)) → IsClo (L.map (·.2)) ss cs → Q (.ref q) H'
theorem c_cls (D : Df K mg "_law_closed" s__law_closed) (z_list : mg "list" = none) (z_len : mg "len" = none) (z_range : mg "range" = none) (z_sorted : mg "sorted" = none) (z_tuple : mg "tuple" = none) : C8.Cal P w K mg base 1 "_law_closed" (spCls K) [] := by
  refine D.cal sc__law_closed (fun _ _ _ _ _ _ us hl => match us, hl with | [_, _], _ => rfl) (fun vs H Q E h => ?_) (fun f cdv A outer s0 H vs Q E hr h => ?_)
  · obtain ⟨a, b, L, ss, rfl, _⟩ := h
    rfl
  obtain ⟨a, b, L, ss, rfl, hS, hE, len, hss, nd, lens, q⟩ := h
  refine ⟨_, (pss_cons (ps_set (i := 2) sc__law_closed.nd rfl (Or.inl rfl) (pe_callTy (VK.listQ (K := K) rfl) (by rfl) z_list (by decide +kernel) (pa_cons (pv 1) pa_nil)))
    (pss_cons (ps_for PassesOwn.never rfl (pi_range1 rfl z_range (pa_cons (pe_op op_add (pe_op op_add (pe_callB (VK.lenQ (K := K) rfl) (by rfl) z_len PySem.boot_len (pa_cons (pv 0) pa_nil)) (pe_callB (VK.lenQ (K := K) rfl) (by rfl) z_len PySem.boot_len (pa_cons (pv 2) pa_nil))) pe_int) pa_nil)) (pg_name (i := 3) sc__law_closed.nd rfl (Or.inl rfl))
      (pss_one (ps_if (pt_cmpR op_lt (pv 3) (pe_callB (VK.lenQ (K := K) rfl) (by rfl) z_len PySem.boot_len (pa_cons (pv 2) pa_nil)) (nomark _))
        (pss_one (ps_for PassesOwn.never rfl (pi_list (pv 0)) (pg_tup rfl (pgs_cons (pg_name (i := 4) sc__law_closed.nd rfl (Or.inl rfl)) (pgs_cons (pg_name (i := 5) sc__law_closed.nd rfl (Or.inl rfl)) (pgs_cons (pg_name (i := 6) sc__law_closed.nd rfl (Or.inl rfl)) pgs_nil))))
          (pss_one (ps_if (PW.pt (pw_and (pt_cmpR op_eq (pv 4) (pe_ix (VK.ixL (K := K) rfl) (pv 2) (pv 3) (fun _ _ => rfl)) (nomark _)) (pw_and (pt_cmpR op_eq (pv 5) pe_str (nomark _)) (pw_and1 (pt_cmpR (VK.notInQ (K := K) rfl) (pv 6) (pv 2) rfl)))))
            (pss_one (ps_expr (pe_bm PySem.F.plainAttrs_list PySem.F.slot_list_append PySem.F.type_list_append mt_append (pv 2) (pa_cons (pv 6) pa_nil))))
            pss_nil))))
        pss_nil)))
    (pss_one (ps_ret (pe_callTy (VK.tupQ (K := K) rfl) (by rfl) z_tuple (by decide +kernel) (pa_cons (pe_callB (VQ.sortedI (K := K) rfl hr) (by rfl) z_sorted (by decide +kernel) (pa_cons (pv 2) pa_nil)) pa_nil)))))), ?_⟩
  have zl := sizeLine_eq
  refine ⟨_, rfl, b, _, rfl, hss, fun fl nfl => ?_⟩
  have s1 := same_upd nfl (.lst (ss.map V.int))
  have s1a : ∀ b o, H b = some o → b ≠ fl := fun b o e => ne_of_none e nfl
  refine ⟨_, rfl, a, _, rfl, .inl (s1.seq hS), _, rfl, fl, _, rfl, .inl (SqL.of upd_same), _, _, rfl, rfl, _, _, rfl, rfl, ?_⟩
  have eN : (((refs L).length : Nat) : Int) + (((ss.map V.int).length : Nat) : Int) + 1 = ((L.length + ss.length + 1 : Nat) : Int) := by
    rw [refs_len, List.length_map]
    omega
  have bnd := clsG_len (L.map (·.2)) nd
  rw [List.length_map] at bnd
  refine ⟨_, congrArg (fun z => [V.int z]) eN, by omega, by omega, for_range (lo := 0) (n := L.length + ss.length + 1)
    (fun k σ H' => ∃ (r3 r4 r5 r6 : Option V), σ = [some (.ref a), some (.ref b), some (.ref fl), r3, r4, r5, r6] ∧ Same H H' ∧ H' fl = some (.lst ((clsG (L.map (·.2)) k ss).map V.int)))
    ⟨none, none, none, none, rfl, s1, upd_same⟩ ?_ ?_⟩
  · rintro k σ H1 hk ⟨r3, r4, r5, r6, rfl, sH, ho⟩
    have bk := bnd k
    refine ⟨_, rfl, _, rfl, fl, _, rfl, .inl (SqL.of ho), _, _, rfl, rfl, _, rfl, ?_⟩
    rw [List.length_map]
    refine ite2 (fun c => ?_) (fun c => ?_)
    · have lt : k < (clsG (L.map (·.2)) k ss).length := by have := of_decide_eq_true c; omega
      have hs : (clsG (L.map (·.2)) k ss)[k]? = some (clsG (L.map (·.2)) k ss)[k] := List.getElem?_eq_getElem lt
      generalize (clsG (L.map (·.2)) k ss)[k] = s at hs
      rw [clsG_some hs]
      have hS1 := sH.seq hS
      refine ⟨_, rfl, a, rfl, ⟨_, hS1⟩, for_list (K := K) (a := a) (xs := refs L)
        (fun i σ H' => ∃ (r4 r5 r6 : Option V), σ = [some (.ref a), some (.ref b), some (.ref fl), some (.int ((0 : Int) + (k : Nat))), r4, r5, r6] ∧ Same H H' ∧ H' fl = some (.lst ((((L.map (·.2)).take i).foldl (cls1 s) (clsG (L.map (·.2)) k ss)).map V.int)))
        ⟨_, _, _, rfl, sH, ho⟩ (fun i σ H' _ ⟨_, _, _, _, s, _⟩ => s.seq hS) ?_ ?_⟩
      · rintro i v σ H2 hv ⟨r4, r5, r6, rfl, sH2, ho2⟩
        obtain ⟨p, hp, rfl⟩ := refs_at hv
        have hp2 := (hE.kp (Kp.of sH2)) p (List.mem_of_getElem? hp)
        have tk := tk_at hp
        obtain ⟨r, er⟩ := cls_pre s ((L.map (·.2)).take i) (clsG (L.map (·.2)) k ss)
        have hat : atI ((((L.map (·.2)).take i).foldl (cls1 s) (clsG (L.map (·.2)) k ss)).map V.int) ((0 : Int) + (k : Nat)) = some (.int s) := by
          rw [Int.zero_add]
          refine atI_nat ?_
          rw [er, List.getElem?_map, List.getElem?_append_left lt, hs] <;> rfl
        have lim : (((L.map (·.2)).take i).foldl (cls1 s) (clsG (L.map (·.2)) k ss)).length ≤ 10000 := by
          have z := cls_len s ((L.map (·.2)).take i) (clsG (L.map (·.2)) k ss)
          have y := List.length_take_le i (L.map (·.2))
          have lti := (List.getElem?_eq_some_iff.mp hp).1
          omega
        rw [tk, List.foldl_append, List.foldl_cons, List.foldl_nil]
        generalize ((L.map (·.2)).take i).foldl (cls1 s) (clsG (L.map (·.2)) k ss) = acc at ho2 hat lim ⊢
        refine ⟨p.1, _, rfl, hp2, rfl, .int p.2.1, _, rfl, .str p.2.2.1, _, rfl, .int p.2.2.2, _, rfl, rfl, ?_⟩
        refine ⟨_, rfl, _, rfl, _, rfl, fl, _, _, _, rfl, rfl, SqL.of ho2, hat, rfl, _, rfl, ?_⟩
        have no : ¬ (p.2.1 = s ∧ p.2.2.1 = ("tau" : Str) ∧ ¬ p.2.2.2 ∈ acc) → ∃ (q4 q5 q6 : Option V), [some (V.ref a), some (.ref b), some (.ref fl), some (.int ((0 : Int) + (k : Nat))), some (.int p.2.1), some (.str p.2.2.1), some (.int p.2.2.2)] = [some (V.ref a), some (.ref b), some (.ref fl), some (.int ((0 : Int) + (k : Nat))), q4, q5, q6] ∧ Same H H2 ∧ H2 fl = some (.lst ((cls1 s acc p.2).map V.int)) := fun c => by
          refine ⟨_, _, _, rfl, sH2, ?_⟩
          unfold cls1
          rw [if_neg c]
          exact ho2
        refine ite2 (fun c1 => ?_) (fun c1 => ?_)
        · have e1 : p.2.1 = s := by
            have z := of_decide_eq_true c1
            injection z
          refine ⟨_, rfl, rfl, _, rfl, ?_⟩
          refine ite2 (fun c2 => ?_) (fun c2 => ?_)
          · have e2 : p.2.2.1 = ("tau" : Str) := by
              have z := of_decide_eq_true c2
              injection z
            refine ⟨_, rfl, _, rfl, fl, _, rfl, .inl (SqL.of ho2), rfl, flat_ints _, _, rfl, ?_⟩
            rw [inV_ints]
            refine iteMem (p := p.2.2.2 ∈ acc) (fun h => ?_) (fun h => ?_)
            · exact no fun z => z.2.2 h
            · refine ⟨_, rfl, .inl ⟨rfl, _, SqL.of ho2⟩, _, rfl, fl, _, _, rfl, rfl, ho2, by rw [List.length_map]; omega, ?_⟩
              refine ⟨_, _, _, rfl, sameIn sH2 nfl, ?_⟩
              unfold cls1
              rw [if_pos ⟨e1, e2, h⟩, upd_same, List.map_append] <;> rfl
          · exact no fun z => c2 (decide_eq_true (by rw [z.2.1]))
        · exact no fun z => c1 (decide_eq_true (by rw [z.1]))
      · rintro σ H2 ⟨r4, r5, r6, rfl, sH2, ho2⟩
        rw [refs_len, List.take_of_length_le (by rw [List.length_map]; exact Nat.le_refl _)] at ho2
        exact ⟨_, _, _, _, rfl, sH2, ho2⟩
    · have ge : (clsG (L.map (·.2)) k ss)[k]? = none := List.getElem?_eq_none (by
        have z : ¬ k < (clsG (L.map (·.2)) k ss).length := fun z => c (decide_eq_true (by omega))
        omega)
      rw [clsG_none ge]
      exact ⟨_, _, _, _, rfl, sH, ho⟩
  · rintro σ H1 ⟨r3, r4, r5, r6, rfl, sH, ho⟩
    have cl := clsG_clo (L.map (·.2)) nd (k := L.length + ss.length + 1) (by rw [List.length_map]; omega)
    refine ⟨_, rfl, fl, _, rfl, SqL.of ho, fun c nc => ?_⟩
    have s2 := same_upd nc (.lst ((srtI (clsG (L.map (·.2)) (L.length + ss.length + 1) ss)).map V.int))
    exact ⟨c, _, rfl, .inl ⟨SqL.of upd_same, fun l nl => q l _ _ ((sH.trans s2).trans (same_upd nl _)) upd_same cl⟩⟩
end
end LW

set_option Elab.async false
set_option linter.all false
set_option maxRecDepth 100000
set_option maxHeartbeats 4000000
namespace LW
open PySem PySem.Spec PyProof.Rows L2 LamX NdefX VB VM VP VE VX VQ
theorem sc__law_after : FnScope ["edges", "states", "action", "edge"] ["edges", "states", "action"] (defScope s__law_after) := ⟨rfl, rfl, rfl, by decide +kernel, rfl, by decide +kernel, by decide +kernel⟩
theorem sc__law_actions : FnScope ["edges", "states", "edge"] ["edges", "states"] (defScope s__law_actions) := ⟨rfl, rfl, rfl, by decide +kernel, rfl, by decide +kernel, by decide +kernel⟩
theorem iteIn {p : Prop} [Decidable p] {A B : Prop} (h1 : p → A) (h2 : ¬ p → B) : if (if false = true then !decide p else decide p) = true then A else B := by
  show (if decide p = true then A else B)
  by_cases h : p
  · rw [decide_eq_true h]; exact iteT (h1 h)
  · rw [decide_eq_false h]; exact iteF (h2 h)
/-- the targets, by the law -/
def aftL (L : List Ed) (ss : List Int) (x : Str) : List Int := (L.filter fun e => decide (e.1 ∈ ss ∧ e.2.1 = x)).map (·.2.2)
theorem aftL_mem {L : List Ed} {ss : List Int} {x : Str} {y : Int} : y ∈ aftL L ss x ↔ y ∈ aft L ss x := by
  rw [aft_mem]
  unfold aftL
  rw [List.mem_map]
  constructor
  · rintro ⟨e, he, rfl⟩
    obtain ⟨h1, h2⟩ := List.mem_filter.mp he
    obtain ⟨g1, g2⟩ := of_decide_eq_true h2
    refine ⟨e.1, g1, ?_⟩
    rw [← g2]
    exact h1
  · rintro ⟨s, hs, h⟩
    exact ⟨_, List.mem_filter.mpr ⟨h, by simpa using hs⟩, rfl⟩
theorem aftL_len (L : List Ed) (ss : List Int) (x : Str) : (aftL L ss x).length ≤ L.length := by
  unfold aftL
  rw [List.length_map]
  exact List.length_filter_le _ _
/-- the actions of states, by the law -/
def acsL (L : List Ed) (ss : List Int) : List Str := (L.filter fun e => decide (e.1 ∈ ss ∧ ¬ e.2.1 = ("tau" : Str))).map (·.2.1)
section
variable {P : Program} {w : World} {K : PySem.W.Frag} {mg : Str → Option Value} {base : Heap}
def spAftL (K : PySem.W.Frag) : Sp := fun vs H Q _ => ∃ (a b : Addr) (L : List (Addr × Ed)) (ss : List Int) (x : Str), vs = [.ref a, .ref b, .str x] ∧ SqL K H a (refs L) ∧ Eds K H L ∧ L.length ≤ 1000 ∧ SqT K H b (ss.map V.int) ∧
  ∀ (q : Addr) (H' : Hp) (cs : List Int), Same H H' → H' q = some (.tup (cs.map V.int)) → IsClo (L.map (·.2)) (aft (L.map (·.2)) ss x) cs → Q (.ref q) H'
theorem c_aftL (D : Df K mg "_law_after" s__law_after) (z_sorted : mg "sorted" = none) (c__law_closed : C8.Cal P w K mg base 1 "_law_closed" (spCls K) []) (c__law_once : C8.Cal P w K mg base 1 "_law_once" (spOnceI K) []) : C8.Cal P w K mg base 2 "_law_after" (spAftL K) [] := by
  refine D.cal sc__law_after (fun _ _ _ _ _ _ us hl => match us, hl with | [_, _, _], _ => rfl) (fun vs H Q E h => ?_) (fun f cdv A outer s0 H vs Q E hr h => ?_)
  · obtain ⟨a, b, L, ss, x, rfl, _⟩ := h
    rfl
  obtain ⟨a, b, L, ss, x, rfl, hS, hE, len, hT, q⟩ := h
  refine ⟨_, (pss_one (ps_ret (C8.pe_c c__law_closed hr (by first | decide | omega) rfl (pa_cons (pv 0) (pa_cons (pe_callB (VQ.sortedI (K := K) rfl hr) (by rfl) z_sorted (by decide +kernel) (pa_cons (C8.pe_c c__law_once hr (by first | decide | omega) rfl (pa_cons (pe_lc (own := [("edge", 3)]) rfl sc__law_after.nd (pi_list (pv 0)) (blkOk_by (N := ["edges", "states", "action", "edge"]) (sc := defScope s__law_after) (by decide +kernel)) (fun _ _ _ _ _ => (pg_name (i := 3) sc__law_after.nd rfl (Or.inl rfl) (hf := Or.inr rfl))) (fun _ _ _ _ _ => (pts_one (PW.pt (pw_and (pt_cmpR (VK.inQ (K := K) rfl) (pe_ix (VK.ixT (K := K) rfl) (pv 3) pe_int (fun _ _ => rfl)) (pv 1) rfl) (pw_and1 (pt_cmpR op_eq (pe_ix (VK.ixT (K := K) rfl) (pv 3) pe_int (fun _ _ => rfl)) (pv 2) (nomark _))))))) (fun _ _ _ _ _ => (pe_ix (VK.ixT (K := K) rfl) (pv 3) pe_int (fun _ _ => rfl)))) pa_nil)) pa_nil)) pa_nil))))), ?_⟩
  have zl := sizeLine_eq
  refine ⟨_, rfl, _, rfl, a, rfl, ⟨_, hS⟩, fun D1 nD => ?_⟩
  refine lc_list (K := K) (a := a) (xs := refs L) (fun i H2 => Same H H2 ∧ H2 D1 = some (.lst ((aftL ((L.map (·.2)).take i) ss x).map V.int))) ⟨same_upd nD _, upd_same⟩ (fun i H2 _ z => z.1.seq hS) ?_ ?_
  · rintro i v H2 hv ⟨s2, hD⟩
    obtain ⟨r, hr2, rfl⟩ := refs_at hv
    have hp2 := (hE.kp (Kp.of s2)) r (List.mem_of_getElem? hr2)
    have tk := tk_at hr2
    have lti := (List.getElem?_eq_some_iff.mp hr2).1
    have no : ¬ (r.2.1 ∈ ss ∧ r.2.2.1 = x) → Same H H2 ∧ H2 D1 = some (.lst ((aftL ((L.map (·.2)).take (i + 1)) ss x).map V.int)) := fun c => by
      refine ⟨s2, ?_⟩
      unfold aftL at hD ⊢
      rw [hD, tk, List.filter_append, List.filter_cons_of_neg (by rw [decide_eq_true_eq]; exact c), List.filter_nil, List.append_nil]
    refine ⟨rfl, ?_⟩
    refine ⟨_, rfl, r.1, _, _, _, rfl, rfl, hp2, rfl, _, rfl, b, _, rfl, .inr (VB.Same.sqT s2 hT), rfl, flat_ints _, _, rfl, ?_⟩
    rw [inV_ints]
    refine iteIn (p := r.2.1 ∈ ss) (fun h => ?_) (fun h => ?_)
    · refine ⟨_, rfl, r.1, _, _, _, rfl, rfl, hp2, rfl, _, rfl, rfl, _, rfl, ?_⟩
      refine ite2 (fun c2 => ?_) (fun c2 => ?_)
      · have e2 : r.2.2.1 = x := by
          have z := of_decide_eq_true c2
          injection z
        refine ⟨_, rfl, r.1, _, _, _, rfl, rfl, hp2, rfl, _, hD, ?_, sameIn s2 nD, ?_⟩
        · have z := aftL_len ((L.map (·.2)).take i) ss x
          have y := List.length_take_le i (L.map (·.2))
          rw [List.length_map]
          omega
        · unfold aftL
          rw [upd_same, tk, List.filter_append, List.filter_cons_of_pos (by rw [decide_eq_true_eq]; exact ⟨h, e2⟩), List.filter_nil, List.map_append, List.map_append] <;> rfl
      · exact no fun z => c2 (decide_eq_true (by rw [z.2]))
    · exact no fun z => h z.1
  · rintro H2 ⟨s2, hD⟩
    rw [refs_len, List.take_of_length_le (by rw [List.length_map]; exact Nat.le_refl _)] at hD
    have lenA := aftL_len (L.map (·.2)) ss x
    rw [List.length_map] at lenA
    refine ⟨D1, _, rfl, SqL.of hD, by omega, fun b1 nb1 => ?_⟩
    have s3 := same_upd nb1 (.lst ((onceG [] (aftL (L.map (·.2)) ss x)).map V.int))
    refine ⟨b1, _, rfl, SqL.of upd_same, fun c nc => ?_⟩
    have s4 := same_upd nc (.lst ((srtI (onceG [] (aftL (L.map (·.2)) ss x))).map V.int))
    have s24 := (s2.trans s3).trans s4
    have nd : (onceG [] (aftL (L.map (·.2)) ss x)).Nodup := onceG_nodup _ _ List.nodup_nil
    have lo := onceG_len (aftL (L.map (·.2)) ss x) []
    refine ⟨a, c, L, _, rfl, s24.seq hS, hE.kp (Kp.of s24), len, .inl (SqL.of upd_same), ascI_nodup (srtI_asc nd), by unfold srtI; rw [List.length_mergeSort]; rw [List.length_nil] at lo; omega, fun q1 H1 cs s1 hq hc => q q1 H1 cs (s24.trans s1) hq (hc.congr (fun _ => Iff.rfl) fun y => ?_)⟩
    rw [srtI_mem, onceG_mem, aftL_mem]
    simp
/-- the actions of states -/
def spActL (K : PySem.W.Frag) : Sp := fun vs H Q _ => ∃ (a b : Addr) (L : List (Addr × Ed)) (ss : List Int), vs = [.ref a, .ref b] ∧ SqL K H a (refs L) ∧ Eds K H L ∧ L.length ≤ 1000 ∧ SqT K H b (ss.map V.int) ∧
  ∀ (q : Addr) (H' : Hp), Same H H' → H' q = some (.lst ((srtS (acsL (L.map (·.2)) ss)).map V.str)) → H q = none → Q (.ref q) H'
theorem c_actL (D : Df K mg "_law_actions" s__law_actions) (z_sorted : mg "sorted" = none) (c__law_once : C8.Cal P w K mg base 1 "_law_once" (spOnceS K) []) : C8.Cal P w K mg base 2 "_law_actions" (spActL K) [] := by
  refine D.cal sc__law_actions (fun _ _ _ _ _ _ us hl => match us, hl with | [_, _], _ => rfl) (fun vs H Q E h => ?_) (fun f cdv A outer s0 H vs Q E hr h => ?_)
  · obtain ⟨a, b, L, ss, rfl, _⟩ := h
    rfl
  obtain ⟨a, b, L, ss, rfl, hS, hE, len, hT, q⟩ := h
  refine ⟨_, (pss_one (ps_ret (pe_callB (VK.sortedS (K := K) rfl hr) (by rfl) z_sorted (by decide +kernel) (pa_cons (C8.pe_c c__law_once hr (by first | decide | omega) rfl (pa_cons (pe_lc (own := [("edge", 2)]) rfl sc__law_actions.nd (pi_list (pv 0)) (blkOk_by (N := ["edges", "states", "edge"]) (sc := defScope s__law_actions) (by decide +kernel)) (fun _ _ _ _ _ => (pg_name (i := 2) sc__law_actions.nd rfl (Or.inl rfl) (hf := Or.inr rfl))) (fun _ _ _ _ _ => (pts_one (PW.pt (pw_and (pt_cmpR (VK.inQ (K := K) rfl) (pe_ix (VK.ixT (K := K) rfl) (pv 2) pe_int (fun _ _ => rfl)) (pv 1) rfl) (pw_and1 (pt_cmpR op_ne (pe_ix (VK.ixT (K := K) rfl) (pv 2) pe_int (fun _ _ => rfl)) pe_str (nomark _))))))) (fun _ _ _ _ _ => (pe_ix (VK.ixT (K := K) rfl) (pv 2) pe_int (fun _ _ => rfl)))) pa_nil)) pa_nil)))), ?_⟩
  have zl := sizeLine_eq
  have al : ∀ L : List Ed, (acsL L ss).length ≤ L.length := fun L => by
    unfold acsL
    rw [List.length_map]
    exact List.length_filter_le _ _
  refine ⟨_, rfl, a, rfl, ⟨_, hS⟩, fun D1 nD => ?_⟩
  refine lc_list (K := K) (a := a) (xs := refs L) (fun i H2 => Same H H2 ∧ H2 D1 = some (.lst ((acsL ((L.map (·.2)).take i) ss).map V.str))) ⟨same_upd nD _, upd_same⟩ (fun i H2 _ z => z.1.seq hS) ?_ ?_
  · rintro i v H2 hv ⟨s2, hD⟩
    obtain ⟨r, hr2, rfl⟩ := refs_at hv
    have hp2 := (hE.kp (Kp.of s2)) r (List.mem_of_getElem? hr2)
    have tk := tk_at hr2
    have lti := (List.getElem?_eq_some_iff.mp hr2).1
    have no : ¬ (r.2.1 ∈ ss ∧ ¬ r.2.2.1 = ("tau" : Str)) → Same H H2 ∧ H2 D1 = some (.lst ((acsL ((L.map (·.2)).take (i + 1)) ss).map V.str)) := fun c => by
      refine ⟨s2, ?_⟩
      unfold acsL at hD ⊢
      rw [hD, tk, List.filter_append, List.filter_cons_of_neg (by rw [decide_eq_true_eq]; exact c), List.filter_nil, List.append_nil]
    refine ⟨rfl, ?_⟩
    refine ⟨_, rfl, r.1, _, _, _, rfl, rfl, hp2, rfl, _, rfl, b, _, rfl, .inr (VB.Same.sqT s2 hT), rfl, flat_ints _, _, rfl, ?_⟩
    rw [inV_ints]
    refine iteIn (p := r.2.1 ∈ ss) (fun h => ?_) (fun h => ?_)
    · refine ⟨_, rfl, r.1, _, _, _, rfl, rfl, hp2, rfl, rfl, _, rfl, ?_⟩
      refine ite2 (fun c2 => ?_) (fun c2 => ?_)
      · have ne : ¬ r.2.2.1 = ("tau" : Str) := by simpa using c2
        refine ⟨_, rfl, r.1, _, _, _, rfl, rfl, hp2, rfl, _, hD, ?_, sameIn s2 nD, ?_⟩
        · have z := al ((L.map (·.2)).take i)
          have y := List.length_take_le i (L.map (·.2))
          rw [List.length_map]
          omega
        · unfold acsL
          rw [upd_same, tk, List.filter_append, List.filter_cons_of_pos (by rw [decide_eq_true_eq]; exact ⟨h, ne⟩), List.filter_nil, List.map_append, List.map_append] <;> rfl
      · exact no fun z => c2 (by simpa using z.2)
    · exact no fun z => h z.1
  · rintro H2 ⟨s2, hD⟩
    rw [refs_len, List.take_of_length_le (by rw [List.length_map]; exact Nat.le_refl _)] at hD
    have lenA := al (L.map (·.2))
    rw [List.length_map] at lenA
    refine ⟨D1, _, rfl, SqL.of hD, by omega, fun b1 nb1 => ?_⟩
    have s3 := same_upd nb1 (.lst ((onceG [] (acsL (L.map (·.2)) ss)).map V.str))
    refine ⟨b1, _, rfl, SqL.of upd_same, fun c nc => ?_⟩
    have s4 := same_upd nc (.lst (((onceG [] (acsL (L.map (·.2)) ss)).mergeSort VS.leS).map V.str))
    exact q c _ ((s2.trans s3).trans s4) upd_same ((s2.trans s3).free nc)
end
end LW

set_option Elab.async false
set_option linter.all false
set_option maxRecDepth 100000
set_option maxHeartbeats 4000000
namespace LW
open PySem PySem.Spec PyProof.Rows L2 LamX NdefX VB VM VP VE VX VQ
section
variable {P : Program} {w : World} {K : PySem.W.Frag} {mg : Str → Option Value} {base : Heap}
/-- what stands while a turn of the law goes on -/
structure Ts (K : PySem.W.Frag) (C pa pd : Addr) (k : Int) (φ : Addr → Prop) (x : Addr) (n : Int) (E : List Ed) (l : Addr) (L : List (Addr × Ed)) (H : Hp) : Prop where
  pool : PoolAt H pa pd k
  sys : SysAt K φ C H x n E
  hl : H l = some (.lst (refs L))
  eL : Eds K H L
section
variable {C pa pd : Addr} {k : Int} {φ : Addr → Prop} {x : Addr} {n : Int} {E : List Ed} {l : Addr} {L : List (Addr × Ed)} {H H' : Hp}
theorem Ts.same (T : Ts K C pa pd k φ x n E l L H) (s : Same H H') : Ts K C pa pd k φ x n E l L H' :=
  ⟨T.pool.but (b := pa) s, T.sys.same s, s _ _ T.hl, T.eL.kp (Kp.of s)⟩
theorem Ts.kp (T : Ts K C pa pd k φ x n E l L H) (b : But pa H H') : Kp H H' := by
  obtain ⟨ns, _, hp, _⟩ := T.pool
  exact Kp.ofBut b hp
theorem Ts.pick (T : Ts K C pa pd k φ x n E l L H) (b : But pa H H') {k' : Int} (p : PoolAt H' pa pd k') (nf : ¬ φ pa) (nl : l ≠ pa) : Ts K C pa pd k' φ x n E l L H' := by
  obtain ⟨ns, _, hp, _⟩ := T.pool
  exact ⟨p, sys_but T.sys b hp nf, b _ _ nl T.hl, T.eL.kp (Kp.ofBut b hp)⟩
end
end
end LW

set_option Elab.async false
set_option linter.all false
set_option maxRecDepth 100000
set_option maxHeartbeats 4000000
namespace LW
open PySem PySem.Spec PyProof.Rows L2 LamX NdefX VB VM VP VE VX
section
variable {P : Program} {w : World} {K : PySem.W.Frag} {mg : Str → Option Value} {base : Heap}
/-- some of few words, ascending -/
def spFew (K : PySem.W.Frag) : Sp := fun vs H Q _ => ∃ (d : Int) (a : Addr) (ws : List Str), vs = [.int d, .ref a] ∧ SqL K H a (ws.map V.str) ∧ ws.length ≤ 6 ∧ 0 ≤ d ∧
  ∀ (q : Addr) (H' : Hp) (ss : List Str), Same H H' → H' q = some (.tup (ss.map V.str)) → (∀ x ∈ ss, x ∈ ws) → ss.length ≤ ws.length → Q (.ref q) H'
end
end LW

set_option Elab.async false
set_option linter.all false
set_option maxRecDepth 100000
set_option maxHeartbeats 4000000
namespace LW
open PySem PySem.Spec PyProof.Rows L2 LamX NdefX VB VM VP VE VX
section
variable {P : Program} {w : World} {K : PySem.W.Frag} {mg : Str → Option Value} {base : Heap}
def spOffX (K : PySem.W.Frag) (C CB : Addr) : Sp := fun vs H Q E => ∃ (φ : Addr → Prop) (p : Addr) (n : Int) (E0 : List Ed) (s : Int), vs = [.ref p, .int s] ∧ SysAt K φ C H p n E0 ∧ E0.length ≤ 1000 ∧ (¬ (0 ≤ s ∧ s < n) → E (.ref CB) none H) ∧
  (0 ≤ s ∧ s < n → ∀ (q : Addr) (H' : Hp), Same H H' → H' q = some (.tup ((srtS (acs E0 s)).map V.str)) → Q (.ref q) H')
end
end LW

set_option Elab.async false
set_option linter.all false
set_option maxRecDepth 100000
set_option maxHeartbeats 4000000
namespace LW
open PySem PySem.Spec PyProof.Rows L2 LamX NdefX VB VM VP VE VX VQ VZ VD
end LW

set_option Elab.async false
set_option linter.all false
set_option maxRecDepth 100000
set_option maxHeartbeats 4000000
namespace LW
open PySem PySem.Spec PyProof.Rows L2 LamX NdefX VB VM VP VE VX
section
variable {P : Program} {w : World} {K : PySem.W.Frag} {mg : Str → Option Value} {base : Heap}
def spStabX (K : PySem.W.Frag) (C CB : Addr) : Sp := fun vs H Q E => ∃ (φ : Addr → Prop) (p : Addr) (n : Int) (E0 : List Ed) (s : Int), vs = [.ref p, .int s] ∧ SysAt K φ C H p n E0 ∧ (¬ (0 ≤ s ∧ s < n) → E (.ref CB) none H) ∧
  (0 ≤ s ∧ s < n → ∀ (H' : Hp), Same H H' → Q (.bl (decide (tg E0 s "tau" = []))) H')
end
end LW

set_option Elab.async false
set_option linter.all false
set_option maxRecDepth 100000
set_option maxHeartbeats 4000000
namespace LW
open PySem PySem.Spec PyProof.Rows L2 LamX NdefX VB VM VP VE VX VQ VZ VD
end LW

set_option Elab.async false
set_option linter.all false
set_option maxRecDepth 100000
set_option maxHeartbeats 4000000
namespace LW
open PySem PySem.Spec PyProof.Rows L2 LamX NdefX VB VM VP VE VX VQ
theorem sc_states_after : FnScope ["system", "trace", "states", "action"] ["system", "trace"] (defScope s_states_after) := ⟨rfl, rfl, rfl, by decide +kernel, rfl, by decide +kernel, by decide +kernel⟩
section
variable {P : Program} {w : World} {K : PySem.W.Frag} {mg : Str → Option Value} {base : Heap}
/-- the states after a trace -/
def spStA (K : PySem.W.Frag) (C : Addr) : Sp := fun vs H Q _ => ∃ (φ : Addr → Prop) (p a : Addr) (n : Int) (E0 : List Ed) (xs : List Str), vs = [.ref p, .ref a] ∧ SysAt K φ C H p n E0 ∧ 1 ≤ n ∧ n ≤ 60 ∧ E0.length ≤ 1000 ∧ SqT K H a (xs.map V.str) ∧
  ∀ (q : Addr) (H' : Hp) (c0 cs : List Int), Same H H' → H' q = some (.tup (cs.map V.int)) → IsClo E0 [0] c0 → Runs E0 c0 xs cs → (∀ x ∈ cs, 0 ≤ x ∧ x < n) → cs.length ≤ 60 → Q (.ref q) H'
theorem c_states {C : Addr} (D : Df K mg "states_after" s_states_after) (c_closure : C8.Cal P w K mg base 3 "closure" (spClos K C) []) (c_after : C8.Cal P w K mg base 4 "after" (spAft K C) []) : C8.Cal P w K mg base 5 "states_after" (spStA K C) [] := by
  refine D.cal sc_states_after (fun _ _ _ _ _ _ us hl => match us, hl with | [_, _], _ => rfl) (fun vs H Q E h => ?_) (fun f cdv A outer s0 H vs Q E hr h => ?_)
  · obtain ⟨φ, p, a, n, E0, xs, rfl, _⟩ := h
    rfl
  obtain ⟨φ, p, a, n, E0, xs, rfl, SA, n1, n60, lenE, hT, q⟩ := h
  refine ⟨_, (pss_cons (ps_set (i := 2) sc_states_after.nd rfl (Or.inl rfl) (C8.pe_c c_closure hr (by first | decide | omega) rfl (pa_cons (pv 0) (pa_cons (pe_lst (pa_cons pe_int pa_nil)) pa_nil))))
    (pss_cons (ps_for PassesOwn.never rfl (pi_tup (pv 1)) (pg_name (i := 3) sc_states_after.nd rfl (Or.inl rfl))
      (pss_one (ps_set (i := 2) sc_states_after.nd rfl (Or.inl rfl) (C8.pe_c c_after hr (by first | decide | omega) rfl (pa_cons (pv 0) (pa_cons (pv 2) (pa_cons (pv 3) pa_nil)))))))
    (pss_one (ps_ret (pv 2))))), ?_⟩
  have zl := sizeLine_eq
  refine ⟨_, rfl, (by show 1 ≤ sizeLine; omega), fun l nl => ?_⟩
  have s1 := same_upd nl (.lst [.int 0])
  have r0 : ∀ x ∈ [(0 : Int)], 0 ≤ x ∧ x < n := fun x hx => by rw [List.mem_singleton.mp hx]; omega
  refine ⟨φ, p, l, n, E0, [0], rfl, SA.same s1, n60, lenE, .inl (SqL.of upd_same), r0, by decide, fun q0 H1 c0 s2 hq0 hc0 => ?_⟩
  have s12 := s1.trans s2
  refine ⟨_, rfl, a, rfl, ⟨_, VB.Same.sqT s12 hT⟩, for_tup (K := K) (a := a) (xs := xs.map V.str)
    (fun i σ H' => ∃ (qi : Addr) (ci : List Int) (r3 : Option V), σ = [some (.ref p), some (.ref a), some (.ref qi), r3] ∧ Same H H' ∧ H' qi = some (.tup (ci.map V.int)) ∧ Runs E0 c0 (xs.take i) ci ∧ (∀ x ∈ ci, 0 ≤ x ∧ x < n) ∧ ci.length ≤ 60)
    ⟨q0, c0, none, rfl, s12, hq0, rfl, clo_range SA.ok hc0 r0, by have := clo_len SA.ok hc0 r0; omega⟩ (fun i σ H' _ ⟨_, _, _, _, s, _⟩ => VB.Same.sqT s hT) ?_ ?_⟩
  · rintro i v σ H2 hv ⟨qi, ci, r3, rfl, sH, hqi, hr1, hrng, hlen⟩
    rw [List.getElem?_map] at hv
    obtain ⟨x, hx, rfl⟩ := Option.map_eq_some_iff.mp hv
    refine ⟨_, rfl, _, rfl, _, rfl, φ, p, qi, n, E0, ci, x, rfl, SA.same sH, n60, lenE, .inl (.inl hqi), hrng, hlen, fun qn H3 cn s3 hqn hcn => ?_⟩
    refine ⟨qn, cn, _, rfl, sH.trans s3, hqn, ?_, clo_range SA.ok hcn (aft_range SA.ok), by have := clo_len SA.ok hcn (aft_range SA.ok); omega⟩
    rw [List.take_add_one, hx, Option.toList_some]
    exact runs_snoc.2 ⟨ci, hr1, hcn⟩
  · rintro σ H2 ⟨qi, ci, r3, rfl, sH, hqi, hr1, hrng, hlen⟩
    rw [List.length_map, List.take_length] at hr1
    exact ⟨_, rfl, q qi H2 c0 ci sH hqi hc0 hr1 hrng hlen⟩
end
end LW

set_option Elab.async false
set_option linter.all false
set_option maxRecDepth 100000
set_option maxHeartbeats 4000000
namespace LW
open PySem PySem.Spec PyProof.Rows L2 LamX NdefX VB VM VP VE VX VQ VZ VD
/-- a tuple of texts -/
def rowD (x : List Str) : PyData := .tuple (x.map PyData.str)
def ltR (a b : List Str) : Prop := PySem.W.dataLt (rowD a) (rowD b) = true
instance : DecidableRel ltR := fun a b => inferInstanceAs (Decidable (PySem.W.dataLt (rowD a) (rowD b) = true))
theorem toks_inj : ∀ xs ys : List Str, PySem.W.keyToksAll (xs.map PyData.str) = PySem.W.keyToksAll (ys.map PyData.str) → xs = ys
  | [], [], _ => rfl
  | [], y :: ys, h => by
    rw [List.map_nil, List.map_cons, PySem.W.toks_all_cons] at h
    simp [PySem.W.keyToksAll] at h
  | x :: xs, [], h => by
    rw [List.map_nil, List.map_cons, PySem.W.toks_all_cons] at h
    simp [PySem.W.keyToksAll] at h
  | x :: xs, y :: ys, h => by
    rw [List.map_cons, List.map_cons, PySem.W.toks_all_cons, PySem.W.toks_all_cons] at h
    injection h with _ h
    simp only [PySem.W.keyToks, List.cons_append, List.nil_append] at h
    injection h with h1 h2
    injection h1 with h1
    rw [PyProof.Rows.ext_toList h1, toks_inj xs ys h2]
theorem ltR_irrefl (a : List Str) : ¬ ltR a a := by
  intro h
  have z : PySem.W.dataLt (rowD a) (rowD a) = false := (PyProof.Rows.listOrd PyProof.Rows.itemOrd).irrefl (PySem.W.keyToks (rowD a))
  unfold ltR at h
  rw [z] at h
  cases h
theorem ltR_trans {a b c : List Str} (h : ltR a b) (g : ltR b c) : ltR a c := (PyProof.Rows.listOrd PyProof.Rows.itemOrd).trans _ _ _ h g
theorem ltR_tri {a b : List Str} (h : ¬ ltR a b) (g : ¬ ltR b a) : a = b :=
  toks_inj a b ((PyProof.Rows.listOrd PyProof.Rows.itemOrd).total _ _ (Bool.eq_false_iff.mpr h) (Bool.eq_false_iff.mpr g))
theorem strs_alike : ∀ xs ys : List Str, PySem.W.alikeAll (xs.map PyData.str) (ys.map PyData.str) = true
  | [], _ => by rw [List.map_nil]; unfold PySem.W.alikeAll; rfl
  | _ :: _, [] => by rw [List.map_cons, List.map_nil]; unfold PySem.W.alikeAll; rfl
  | x :: xs, y :: ys => by
    rw [List.map_cons, List.map_cons]
    unfold PySem.W.alikeAll
    rw [strs_alike xs ys]
    rfl
theorem row_alike (a b : List Str) : PySem.W.alike (rowD a) (rowD b) = true := strs_alike a b
def Rows (K : PySem.W.Frag) (H : Hp) (L : List (Addr × List Str)) : Prop := ∀ p ∈ L, SqT K H p.1 (p.2.map V.str)
theorem Rows.kp {K : PySem.W.Frag} {H H' : Hp} {L : List (Addr × List Str)} (h : Rows K H L) (x : Kp H H') : Rows K H' L := fun p hp => x.sqT (h p hp)
def rowK (x : List Str) : List Key := x.map Sum.inr
section
variable {P : Program} {w : World} {K : PySem.W.Frag} {mg : Str → Option Value} {base : Heap}
def spAmo (K : PySem.W.Frag) (C : Addr) : Sp := fun vs H Q _ => ∃ (φ : Addr → Prop) (p a : Addr) (n : Int) (E0 : List Ed) (ss : List Int), vs = [.ref p, .ref a] ∧ SysAt K φ C H p n E0 ∧ E0.length ≤ 1000 ∧ SqT K H a (ss.map V.int) ∧ (∀ x ∈ ss, 0 ≤ x ∧ x < n) ∧ ss.length ≤ 60 ∧
  ∀ (q : Addr) (H' : Hp) (RL : List (Addr × List Str)), Same H H' → H' q = some (.lst (refs RL)) → Rows K H' RL → (RL.map (·.2)).Pairwise ltR → (∀ x, x ∈ RL.map (·.2) ↔ ∃ s ∈ ss, tg E0 s "tau" = [] ∧ x = srtS (acs E0 s)) → RL.length ≤ 60 → Q (.ref q) H'
end
end LW

set_option Elab.async false
set_option linter.all false
set_option maxRecDepth 100000
set_option maxHeartbeats 4000000
namespace LW
open PySem PySem.Spec PyProof.Rows L2 LamX NdefX VB VM VP VE VX VQ
section
variable {P : Program} {w : World} {K : PySem.W.Frag} {mg : Str → Option Value} {base : Heap}
def spIsT (K : PySem.W.Frag) (C : Addr) : Sp := fun vs H Q _ => ∃ (φ : Addr → Prop) (p a : Addr) (n : Int) (E0 : List Ed) (xs : List Str), vs = [.ref p, .ref a] ∧ SysAt K φ C H p n E0 ∧ 1 ≤ n ∧ n ≤ 60 ∧ E0.length ≤ 1000 ∧ SqT K H a (xs.map V.str) ∧
  ∀ (H' : Hp) (c0 cs : List Int), Same H H' → IsClo E0 [0] c0 → Runs E0 c0 xs cs → Q (.bl (decide (cs ≠ []))) H'
end
end LW

set_option Elab.async false
set_option linter.all false
set_option maxRecDepth 100000
set_option maxHeartbeats 4000000
namespace LW
open PySem PySem.Spec PyProof.Rows L2 LamX NdefX VB VM VP VE VX VQ VZ
theorem sc_diverging_among : FnScope ["system", "states", "many", "state", "sources", "target", "ending", "source"] ["system", "states"] (defScope s_diverging_among) := ⟨rfl, rfl, rfl, by decide +kernel, rfl, by decide +kernel, by decide +kernel⟩
/-- no chain of silent edges without an end -/
inductive Halt (E : List Ed) : Int → Prop
  | mk {s : Int} : (∀ t, t ∈ tg E s ("tau" : Str) → Halt E t) → Halt E s
/-- silent edges to states that are not taken out -/
def cnt (E : List Ed) (R : List Int) (s : Int) : Nat := ((tg E s "tau").filter fun t => decide (¬ t ∈ R)).length
theorem filter_cons_len {t : Int} {R : List Int} (nR : t ∉ R) : ∀ l : List Int, l.Nodup → (l.filter fun x => decide (¬ x ∈ R)).length = (l.filter fun x => decide (¬ x ∈ t :: R)).length + (if t ∈ l then 1 else 0)
  | [], _ => by simp
  | x :: l, nd => by
    obtain ⟨n1, n2⟩ := List.nodup_cons.mp nd
    have ih := filter_cons_len nR l n2
    by_cases h : x = t
    · subst h
      rw [List.filter_cons_of_pos (by simpa using nR), List.filter_cons_of_neg (by simp), List.length_cons, ih, if_neg n1, if_pos List.mem_cons_self]
    · have ht : ¬ t = x := fun z => h z.symm
      by_cases g : x ∈ R
      · rw [List.filter_cons_of_neg (by simpa using g), List.filter_cons_of_neg (by simp [g]), ih]
        simp [ht]
      · rw [List.filter_cons_of_pos (by simpa using g), List.filter_cons_of_pos (by simp [g, h]), List.length_cons, List.length_cons, ih]
        simp only [List.mem_cons, ht, false_or]
        omega
theorem tg_nodup {E : List Ed} (nd : E.Nodup) (s : Int) (x : Str) : (tg E s x).Nodup := by
  unfold tg
  have z : (E.filter fun e => decide (e.1 = s ∧ e.2.1 = x)).Nodup := List.Nodup.sublist List.filter_sublist nd
  refine List.pairwise_map.mpr (List.Pairwise.imp_of_mem (R := fun a b => a ≠ b) (fun {a b} ha hb ne e => ne ?_) z)
  obtain ⟨_, h1⟩ := List.mem_filter.mp ha
  obtain ⟨_, h2⟩ := List.mem_filter.mp hb
  obtain ⟨a1, a2⟩ := of_decide_eq_true h1
  obtain ⟨b1, b2⟩ := of_decide_eq_true h2
  exact Prod.ext (a1.trans b1.symm) (Prod.ext (a2.trans b2.symm) e)
theorem cnt_cons {E : List Ed} (nd : E.Nodup) {t : Int} {R : List Int} (nR : t ∉ R) (s : Int) : cnt E R s = cnt E (t :: R) s + (if t ∈ tg E s "tau" then 1 else 0) :=
  filter_cons_len nR _ (tg_nodup nd s _)
theorem cnt_zero {E : List Ed} {R : List Int} {s : Int} : cnt E R s = 0 ↔ ∀ t, t ∈ tg E s ("tau" : Str) → t ∈ R := by
  unfold cnt
  rw [List.length_eq_zero_iff, List.filter_eq_nil_iff]
  constructor
  · intro h t ht
    have z := h t ht
    simpa using z
  · intro h t ht
    simpa using h t ht
theorem cnt_nil (E : List Ed) (s : Int) : cnt E [] s = (tg E s "tau").length := by
  unfold cnt
  rw [List.filter_eq_self.mpr fun t _ => by simp]
theorem cnt_halt {E : List Ed} {R ss : List Int} (cl : ∀ s ∈ ss, ∀ t, t ∈ tg E s ("tau" : Str) → t ∈ ss) (iff : ∀ s ∈ ss, cnt E R s = 0 ↔ s ∈ R) (hR : ∀ r ∈ R, Halt E r) {s : Int} (hs : s ∈ ss) : cnt E R s = 0 ↔ Halt E s := by
  constructor
  · intro h
    exact hR s ((iff s hs).1 h)
  · intro h
    induction h with
    | mk h ih => exact cnt_zero.2 fun t ht => (iff t (cl _ hs t ht)).1 (ih t ht (cl _ hs t ht))
theorem putK_has {κ : Type} [DecidableEq κ] {kvs : List (κ × V)} {k : κ} {v x : V} (h : valV kvs k = some v) : (putK kvs k x).length = kvs.length := by
  unfold putK
  rw [valV_any, h]
  rw [if_pos (by rfl), List.length_map]
/-- the two dicts: how many, and whence -/
structure DS (H0 H : Hp) (dm ds : Addr) (ss : List Int) (f : Int → Addr) (c : Int → Nat) (p : Int → List Int) : Prop where
  same : Same H0 H
  m : ∃ kvs : List (Key × V), H dm = some (.dK kvs) ∧ kvs.length ≤ 100 ∧ ∀ s ∈ ss, valV kvs (Sum.inl s) = some (.int (c s : Nat))
  s : ∃ kvs : List (Key × V), H ds = some (.dK kvs) ∧ ∀ s ∈ ss, valV kvs (Sum.inl s) = some (.ref (f s))
  l : ∀ s ∈ ss, H (f s) = some (.lst ((p s).map V.int)) ∧ H0 (f s) = none
  inj : ∀ s ∈ ss, ∀ t ∈ ss, f s = f t → s = t
  dm0 : H0 dm = none
  ne : dm ≠ ds
section
variable {H0 H H' : Hp} {dm ds : Addr} {ss : List Int} {f : Int → Addr} {c : Int → Nat} {p : Int → List Int}
theorem DS.go (D : DS H0 H dm ds ss f c p) (s : Same H H') : DS H0 H' dm ds ss f c p := by
  refine ⟨D.same.trans s, ?_, ?_, fun x hx => ⟨s _ _ (D.l x hx).1, (D.l x hx).2⟩, D.inj, D.dm0, D.ne⟩
  · obtain ⟨kvs, h, r⟩ := D.m
    exact ⟨kvs, s _ _ h, r⟩
  · obtain ⟨kvs, h, r⟩ := D.s
    exact ⟨kvs, s _ _ h, r⟩
theorem DS.setM (D : DS H0 H dm ds ss f c p) {kvs : List (Key × V)} (hd : H dm = some (.dK kvs)) (hl : kvs.length ≤ 100) (hv : ∀ s ∈ ss, valV kvs (Sum.inl s) = some (.int (c s : Nat))) {x : Int} (hx : x ∈ ss) (v : Nat) :
    DS H0 (upd H dm (.dK (putK kvs (Sum.inl x) (.int (v : Nat))))) dm ds ss f (fun y => if y = x then v else c y) p := by
  refine ⟨sameIn D.same D.dm0, ⟨_, upd_same, by rw [putK_has (hv x hx)]; exact hl, fun y hy => ?_⟩, ?_, fun y hy => ⟨?_, (D.l y hy).2⟩, D.inj, D.dm0, D.ne⟩
  · rw [valV_put]
    by_cases e : y = x
    · subst e; rw [if_pos rfl]; simp
    · rw [if_neg (fun z => e (Sum.inl.inj z)), hv y hy]; simp [e]
  · obtain ⟨k2, h, r⟩ := D.s
    exact ⟨k2, by rw [upd_ne D.ne.symm]; exact h, r⟩
  · rw [upd_ne (ne_of (D.l y hy).1 hd (fun z => nomatch z))]
    exact (D.l y hy).1
theorem DS.push (D : DS H0 H dm ds ss f c p) {t : Int} (ht : t ∈ ss) (x : Int) :
    DS H0 (upd H (f t) (.lst ((p t).map V.int ++ [.int x]))) dm ds ss f c (fun y => if y = t then p t ++ [x] else p y) := by
  refine ⟨sameIn D.same (D.l t ht).2, ?_, ?_, fun y hy => ⟨?_, (D.l y hy).2⟩, D.inj, D.dm0, D.ne⟩
  · obtain ⟨k2, h, r⟩ := D.m
    exact ⟨k2, by rw [upd_ne (ne_of h (D.l t ht).1 (fun z => nomatch z))]; exact h, r⟩
  · obtain ⟨k2, h, r⟩ := D.s
    exact ⟨k2, by rw [upd_ne (ne_of h (D.l t ht).1 (fun z => nomatch z))]; exact h, r⟩
  · by_cases e : y = t
    · subst e
      rw [if_pos rfl, upd_same, List.map_append] <;> rfl
    · rw [if_neg e, upd_ne (fun z => e (D.inj y hy t ht z))]
      exact (D.l y hy).1
theorem DS.lst (D : DS H0 H dm ds ss f c p) {e : Addr} (h0 : H0 e = none) {zs : List V} (he : H e = some (.lst zs)) (nf : ∀ s ∈ ss, f s ≠ e) (ys : List V) : DS H0 (upd H e (.lst ys)) dm ds ss f c p := by
  refine ⟨sameIn D.same h0, ?_, ?_, fun y hy => ⟨by rw [upd_ne (nf y hy)]; exact (D.l y hy).1, (D.l y hy).2⟩, D.inj, D.dm0, D.ne⟩
  · obtain ⟨k2, h, r⟩ := D.m
    exact ⟨k2, by rw [upd_ne (ne_of h he (fun z => nomatch z))]; exact h, r⟩
  · obtain ⟨k2, h, r⟩ := D.s
    exact ⟨k2, by rw [upd_ne (ne_of h he (fun z => nomatch z))]; exact h, r⟩
theorem DS.cast {c' : Int → Nat} {p' : Int → List Int} (D : DS H0 H dm ds ss f c p) (hc : ∀ s ∈ ss, c s = c' s) (hp : ∀ s ∈ ss, p s = p' s) : DS H0 H dm ds ss f c' p' := by
  refine ⟨D.same, ?_, D.s, fun x hx => ⟨by rw [← hp x hx]; exact (D.l x hx).1, (D.l x hx).2⟩, D.inj, D.dm0, D.ne⟩
  obtain ⟨k2, h, r, z⟩ := D.m
  exact ⟨k2, h, r, fun x hx => by rw [← hc x hx]; exact z x hx⟩
end
section
variable {P : Program} {w : World} {K : PySem.W.Frag} {mg : Str → Option Value} {base : Heap}
def spDiv (K : PySem.W.Frag) (C : Addr) : Sp := fun vs H Q _ => ∃ (φ : Addr → Prop) (p a : Addr) (n : Int) (E0 : List Ed) (ss : List Int), vs = [.ref p, .ref a] ∧ SysAt K φ C H p n E0 ∧ E0.length ≤ 1000 ∧
  SqA K H a (ss.map V.int) ∧ ss.Pairwise (· < ·) ∧ (∀ x ∈ ss, 0 ≤ x ∧ x < n) ∧ ss.length ≤ 60 ∧ (∀ s ∈ ss, ∀ t, t ∈ tg E0 s ("tau" : Str) → t ∈ ss) ∧
  ∀ (q : Addr) (H' : Hp) (cs : List Int), Same H H' → H' q = some (.tup (cs.map V.int)) → cs.Pairwise (· < ·) → (∀ s, s ∈ cs ↔ s ∈ ss ∧ ¬ Halt E0 s) → Q (.ref q) H'
theorem c_among {C CB : Addr} (D : Df K mg "diverging_among" s_diverging_among) (z_tuple : mg "tuple" = none)
    (c_System_targets : C8.Met P w K mg base 2 C "targets" (calm (spTargX K C CB)) []) : C8.Cal P w K mg base 3 "diverging_among" (spDiv K C) [] := by
  refine D.cal sc_diverging_among (fun _ _ _ _ _ _ us hl => match us, hl with | [_, _], _ => rfl) (fun vs H Q E h => ?_) (fun f cdv A outer s0 H vs Q E hr h => ?_)
  · obtain ⟨φ, p, a, n, E0, ss, rfl, _⟩ := h
    rfl
  obtain ⟨φ, p, a, n, E0, ss, rfl, SA, lenE, hseq, asc, hss, lens, hcl, q⟩ := h
  refine ⟨_, (pss_cons (ps_set (i := 2) sc_diverging_among.nd rfl (Or.inr rfl) (pe_dc (own := [("state", 3)]) (tt := tYes) rfl sc_diverging_among.nd (VZ.pi_seq (K := K) rfl (pv 1)) (blkOk_by (N := ["system", "states", "many", "state", "sources", "target", "ending", "source"]) (sc := defScope s_diverging_among) (by decide +kernel)) (fun _ _ _ _ _ => (pg_name (i := 3) sc_diverging_among.nd rfl (Or.inl rfl) (hf := Or.inr rfl))) (fun _ _ _ _ _ => pts_nil) (fun _ _ _ _ _ => (pv 3)) (fun _ _ _ _ _ => pe_int)))
    (pss_cons (VZ.ps_setDc (i := 4) (own := [("state", 3)]) (tt := tYes) rfl sc_diverging_among.nd rfl rfl (VZ.sw_trueD rfl rfl rfl (by decide +kernel)) (VZ.pi_seq (K := K) rfl (pv 1)) (blkOk_by (N := ["system", "states", "many", "state", "sources", "target", "ending", "source"]) (sc := defScope s_diverging_among) (by decide +kernel)) (fun _ _ _ _ _ => (pg_name (i := 3) sc_diverging_among.nd rfl (Or.inl rfl) (hf := Or.inr rfl))) (fun _ _ _ _ _ => pts_nil) (fun _ _ _ _ _ => (pv 3)) (fun _ _ _ _ _ => (pe_lst pa_nil)))
    (pss_cons (ps_for PassesOwn.never rfl (VZ.pi_seq (K := K) rfl (pv 1)) (pg_name (i := 3) sc_diverging_among.nd rfl (Or.inl rfl))
      (pss_one (ps_for PassesOwn.never rfl (pi_list (C8.pe_mt c_System_targets hr (by first | decide | omega) (pv 0) (pa_cons (pv 3) (pa_cons pe_str pa_nil)))) (pg_name (i := 5) sc_diverging_among.nd rfl (Or.inl rfl))
        (pss_cons (ps_daug (hu_of hr) (pv 2) (pv 3) pe_int in_add (fun _ _ _ => rfl))
        (pss_one (ps_expr (pe_bm PySem.F.plainAttrs_list PySem.F.slot_list_append PySem.F.type_list_append mt_append (pe_dget (hu_of hr) (pv 4) (pv 5) (fun _ _ => rfl)) (pa_cons (pv 3) pa_nil))))))))
    (pss_cons (ps_setLc (i := 6) (own := [("state", 3)]) rfl sc_diverging_among.nd rfl rfl (sw_true rfl rfl rfl (by decide +kernel)) (VZ.pi_seq (K := K) rfl (pv 1)) (blkOk_by (N := ["system", "states", "many", "state", "sources", "target", "ending", "source"]) (sc := defScope s_diverging_among) (by decide +kernel)) (fun _ _ _ _ _ => (pg_name (i := 3) sc_diverging_among.nd rfl (Or.inl rfl) (hf := Or.inr rfl))) (fun _ _ _ _ _ => (pts_one (pt_cmpR op_eq (pe_dget (hu_of hr) (pv 2) (pv 3) (fun _ _ => rfl)) pe_int (nomark _)))) (fun _ _ _ _ _ => (pv 3)))
    (pss_cons (ps_while PassesOwn.never (pt_truth (pv 6) (by intro _; rfl))
      (pss_cons (ps_set (i := 3) sc_diverging_among.nd rfl (Or.inl rfl) (pe_bm0 PySem.F.plainAttrs_list PySem.F.slot_list_pop PySem.F.type_list_pop mt_pop (pv 6)))
      (pss_one (ps_for PassesOwn.never rfl (pi_list (pe_dget (hu_of hr) (pv 4) (pv 3) (fun _ _ => rfl))) (pg_name (i := 7) sc_diverging_among.nd rfl (Or.inl rfl))
        (pss_cons (ps_daug (hu_of hr) (pv 2) (pv 7) pe_int in_sub (fun _ _ _ => rfl))
        (pss_one (ps_if (pt_cmpR op_eq (pe_dget (hu_of hr) (pv 2) (pv 7) (fun _ _ => rfl)) pe_int (nomark _))
          (pss_one (ps_expr (pe_bm PySem.F.plainAttrs_list PySem.F.slot_list_append PySem.F.type_list_append mt_append (pv 6) (pa_cons (pv 7) pa_nil))))
          pss_nil)))))))
    (pss_one (ps_ret (pe_callTy (VK.tupQ (K := K) rfl) (by rfl) z_tuple (by decide +kernel) (pa_cons (pe_lc (own := [("state", 3)]) rfl sc_diverging_among.nd (VZ.pi_seq (K := K) rfl (pv 1)) (blkOk_by (N := ["system", "states", "many", "state", "sources", "target", "ending", "source"]) (sc := defScope s_diverging_among) (by decide +kernel)) (fun _ _ _ _ _ => (pg_name (i := 3) sc_diverging_among.nd rfl (Or.inl rfl) (hf := Or.inr rfl))) (fun _ _ _ _ _ => (pts_one (pt_cmpR op_gt (pe_dget (hu_of hr) (pv 2) (pv 3) (fun _ _ => rfl)) pe_int (nomark _)))) (fun _ _ _ _ _ => (pv 3))) pa_nil))))))))), ?_⟩
  have zl := sizeLine_eq
  have ndS := ascI_nodup asc
  have at_ss : ∀ {i : Nat} {v : V}, (ss.map V.int)[i]? = some v → ∃ s, ss[i]? = some s ∧ v = .int s := fun {i v} h => by
    rw [List.getElem?_map] at h
    obtain ⟨s, h1, h2⟩ := Option.map_eq_some_iff.mp h
    exact ⟨s, h1, h2.symm⟩
  have tkS : ∀ {i : Nat} {s : Int}, ss[i]? = some s → ss.take (i + 1) = ss.take i ++ [s] := fun {i s} h => by rw [List.take_add_one, h, Option.toList_some]
  have ninS : ∀ {i : Nat} {s : Int}, ss[i]? = some s → s ∉ ss.take i := fun {i s} h z => by
    obtain ⟨j, hj, e⟩ := List.mem_iff_getElem.mp z
    rw [List.length_take] at hj
    rw [List.getElem_take] at e
    obtain ⟨lt, e2⟩ := List.getElem?_eq_some_iff.mp h
    have := (List.getElem_inj ndS).mp (e.trans e2.symm)
    omega
  refine ⟨_, rfl, a, rfl, dc_seq (K := K) (xs := ss.map V.int) hseq (Same.refl H) (fun D i H' => Same H H' ∧ ∃ kvs : List (Key × V), H' D = some (.dK kvs) ∧ kvs.length ≤ i ∧ ∀ s ∈ ss.take i, valV kvs (Sum.inl s) = some (.int 0))
    (fun D nD => ⟨same_upd nD _, [], upd_same, Nat.le_refl _, fun s hs => absurd hs (by simp)⟩) (fun D i H' z => z.1) ?_ ?_⟩
  · rintro D nD i v H1 hv ⟨s1, kvs, hD, lk, hk⟩
    obtain ⟨s, hs, rfl⟩ := at_ss hv
    have lti := (List.getElem?_eq_some_iff.mp hs).1
    refine ⟨rfl, ?_⟩
    refine ⟨_, rfl, kvs, Sum.inl s, rfl, hD, by omega, sameIn s1 nD, _, upd_same, Nat.le_trans (putK_len _ _ _) (by omega), fun x hx => ?_⟩
    rw [valV_put]
    rw [tkS hs] at hx
    by_cases e : x = s
    · subst e; rw [if_pos rfl]
    · rw [if_neg (fun z => e (Sum.inl.inj z))]
      rcases List.mem_append.mp hx with z | z
      · exact hk x z
      · exact absurd (List.mem_singleton.mp z) e
  rintro dm ndm H1 ⟨s1, mk, hm, lm, hmk⟩
  rw [List.length_map] at lm hmk
  rw [List.take_length] at hmk
  have dmH : H dm = none := ndm
  refine ⟨_, rfl, a, rfl, dc_seq (K := K) (xs := ss.map V.int) (sqA_same s1 hseq) (Same.refl H1) (fun D i H' => Same H1 H' ∧ ∃ (kvs : List (Key × V)) (f : Int → Addr), H' D = some (.dK kvs) ∧ kvs.length ≤ i ∧
      (∀ s ∈ ss.take i, valV kvs (Sum.inl s) = some (.ref (f s)) ∧ H' (f s) = some (.lst []) ∧ H1 (f s) = none) ∧ ∀ s ∈ ss.take i, ∀ t ∈ ss.take i, f s = f t → s = t)
    (fun D nD => ⟨same_upd nD _, [], fun _ => 0, upd_same, Nat.le_refl _, fun s hs => absurd hs (by simp), fun s hs => absurd hs (by simp)⟩) (fun D i H' z => z.1) ?_ ?_⟩
  · rintro D nD i v H2 hv ⟨s2, kvs, f, hD, lk, hk, inj⟩
    obtain ⟨s, hs, rfl⟩ := at_ss hv
    have lti := (List.getElem?_eq_some_iff.mp hs).1
    refine ⟨rfl, ?_⟩
    refine ⟨_, rfl, Nat.zero_le _, fun l nl => ?_⟩
    have s3 := same_upd nl (.lst [])
    have hD3 := s3 _ _ hD
    have lD : l ≠ D := fun z => by rw [z, hD] at nl; cases nl
    refine ⟨kvs, Sum.inl s, rfl, hD3, by omega, sameIn (s2.trans s3) nD, _, fun x => if x = s then l else f x, upd_same, Nat.le_trans (putK_len _ _ _) (by omega), fun x hx => ?_, fun x hx y hy e => ?_⟩
    · rw [valV_put]
      rw [tkS hs] at hx
      by_cases e : x = s
      · subst e
        simp only [↓reduceIte]
        exact ⟨trivial, by rw [upd_ne lD]; exact upd_same, s2.free nl⟩
      · rw [if_neg (fun z => e (Sum.inl.inj z))]
        simp only [if_neg e]
        rcases List.mem_append.mp hx with z | z
        · obtain ⟨h1, h2, h3⟩ := hk x z
          exact ⟨h1, by rw [upd_ne (ne_of h2 hD (fun z => nomatch z)), upd_ne (ne_of_none h2 nl)]; exact h2, h3⟩
        · exact absurd (List.mem_singleton.mp z) e
    · rw [tkS hs] at hx hy
      have old : ∀ z ∈ ss.take i ++ [s], z ≠ s → z ∈ ss.take i := fun z hz ne => (List.mem_append.mp hz).elim id fun y => absurd (List.mem_singleton.mp y) ne
      have fl : ∀ z ∈ ss.take i, f z ≠ l := fun z hz e => by
        have y := (hk z hz).2.1
        rw [e, nl] at y
        cases y
      by_cases e1 : x = s
      · by_cases e2 : y = s
        · rw [e1, e2]
        · simp only [if_pos e1, if_neg e2] at e
          exact absurd e.symm (fl y (old y hy e2))
      · by_cases e2 : y = s
        · simp only [if_neg e1, if_pos e2] at e
          exact absurd e (fl x (old x hx e1))
        · simp only [if_neg e1, if_neg e2] at e
          exact inj x (old x hx e1) y (old y hy e2) e
  rintro ds nds H2 ⟨s2, sk, f, hs2, lk, hk, inj⟩
  rw [List.length_map, List.take_length] at hk inj
  have s12 := s1.trans s2
  have D0 : DS H H2 dm ds ss f (fun _ => 0) (fun _ => []) := by
    refine ⟨s12, ⟨mk, s2 _ _ hm, by omega, hmk⟩, ⟨sk, hs2, fun s hs => (hk s hs).1⟩, fun s hs => ⟨(hk s hs).2.1, s1.free (hk s hs).2.2⟩, inj, dmH, ne_of_none hm nds⟩
  clear hm lm hmk hs2 hk inj s2 s1 nds ndm
  have fmem : ∀ {l : List Int} {s t : Int}, (l ++ [s]).filter (fun s => decide (t ∈ tg E0 s ("tau" : Str))) = l.filter (fun s => decide (t ∈ tg E0 s ("tau" : Str))) ++ (if t ∈ tg E0 s ("tau" : Str) then [s] else []) := fun {l s t} => by
    rw [List.filter_append]
    by_cases h : t ∈ tg E0 s ("tau" : Str)
    · rw [if_pos h, List.filter_cons_of_pos (by simpa using h), List.filter_nil]
    · rw [if_neg h, List.filter_cons_of_neg (by simpa using h), List.filter_nil]
  refine ⟨_, rfl, a, rfl, for_seq (K := K) (xs := ss.map V.int) hseq
    (fun i σ H' => ∃ (q3 q5 : Option V) (c : Int → Nat) (ps : Int → List Int), σ = [some (.ref p), some (.ref a), some (.ref dm), q3, some (.ref ds), q5, none, none] ∧ DS H H' dm ds ss f c ps ∧
      (∀ s ∈ ss, c s = if s ∈ ss.take i then (tg E0 s "tau").length else 0) ∧ ∀ t ∈ ss, ps t = (ss.take i).filter fun s => decide (t ∈ tg E0 s ("tau" : Str)))
    ⟨_, _, _, _, rfl, D0, fun s _ => by simp, fun t _ => by simp⟩ s12 (fun i σ H' z => by
      obtain ⟨_, _, _, _, _, D, _⟩ := z
      exact D.same) ?_ ?_⟩
  · rintro i v σ H3 hv ⟨q3, q5, c, ps, rfl, D3, hc, hp⟩
    obtain ⟨s, hs, rfl⟩ := at_ss hv
    have sin := List.mem_of_getElem? hs
    have ran := hss s sin
    have SA3 := SA.same D3.same
    obtain ⟨⟨dx, te, ll, td, LE, rows, kvs, S3⟩, _, _⟩ := SA3
    refine ⟨_, rfl, p, dx, _, rfl, S3.hp, fl_none n te ll td (by decide +kernel) (by decide +kernel) (by decide +kernel) (by decide +kernel), _, rfl, φ, p, n, E0, s, "tau", rfl, SA.same D3.same, fun z => z ran, fun _ qa H4 s4 nqa hqa => ?_⟩
    have D4 := D3.go s4
    have lT := tg_len E0 s "tau"
    have nfq : ∀ x ∈ ss, f x ≠ qa := fun x hx e => by
      have z := (D3.l x hx).1
      rw [e, nqa] at z
      cases z
    refine ⟨qa, rfl, ⟨_, SqL.of hqa⟩, for_list (K := K) (a := qa) (xs := (tg E0 s "tau").map V.int)
      (fun j σ H' => ∃ (q5 : Option V) (c' : Int → Nat) (ps' : Int → List Int), σ = [some (.ref p), some (.ref a), some (.ref dm), some (.int s), some (.ref ds), q5, none, none] ∧ DS H H' dm ds ss f c' ps' ∧ H' qa = some (.lst ((tg E0 s "tau").map V.int)) ∧
        (∀ x ∈ ss, c' x = if x = s then j else c x) ∧ ∀ t ∈ ss, ps' t = ps t ++ (if t ∈ (tg E0 s "tau").take j then [s] else []))
      ⟨_, c, ps, rfl, D4, hqa, fun x hx => ?_, fun t ht => by simp⟩ (fun j σ H' _ ⟨_, _, _, _, _, z, _⟩ => SqL.of z) ?_ ?_⟩
    · by_cases e : x = s
      · rw [if_pos e, e, hc s sin, if_neg (ninS hs)]
      · rw [if_neg e]
    · rintro j v σ H5 hv2 ⟨q5', c', ps', rfl, D5, hqa5, hc', hp'⟩
      rw [List.getElem?_map] at hv2
      obtain ⟨t, ht, rfl⟩ := Option.map_eq_some_iff.mp hv2
      have tin := hcl s sin t (List.mem_of_getElem? ht)
      have ltj := (List.getElem?_eq_some_iff.mp ht).1
      obtain ⟨mk5, hm5, lm5, hk5⟩ := D5.m
      have g5 : DGet H5 dm (.int s) (some (.int (c' s : Nat))) := by
        have z := DGet.k (k := Sum.inl s) hm5
        rw [hk5 s sin] at z
        exact z
      refine ⟨_, rfl, _, rfl, dm, _, rfl, g5, _, _, rfl, rfl, _, DPut.k (k := Sum.inl s) hm5 (by omega), ?_⟩
      have D6 := D5.setM hm5 lm5 hk5 sin (c' s + 1)
      have hqa6 : upd H5 dm (.dK (putK mk5 (Sum.inl s) (.int ((c' s + 1 : Nat) : Int)))) qa = some (.lst ((tg E0 s "tau").map V.int)) := by
        rw [upd_ne (ne_of hqa5 hm5 (fun z => nomatch z))]; exact hqa5
      have eI : ((c' s : Nat) : Int) + 1 = ((c' s + 1 : Nat) : Int) := rfl
      rw [eI]
      generalize upd H5 dm (.dK (putK mk5 (Sum.inl s) (.int ((c' s + 1 : Nat) : Int)))) = H6 at D6 hqa6 ⊢
      obtain ⟨sk6, hs6, hk6⟩ := D6.s
      have g6 : DGet H6 ds (.int t) (some (.ref (f t))) := by
        have z := DGet.k (k := Sum.inl t) hs6
        rw [hk6 t tin] at z
        exact z
      have lps : (ps' t).length ≤ 61 := by
        rw [hp' t tin, hp t tin, List.length_append]
        have z := List.length_filter_le (fun s => decide (t ∈ tg E0 s ("tau" : Str))) (ss.take i)
        have y := List.length_take_le i ss
        have y2 : (ss.take i).length ≤ ss.length := by rw [List.length_take]; omega
        split <;> simp <;> omega
      refine ⟨_, rfl, _, rfl, ds, _, rfl, g6, .inl ⟨rfl, _, SqL.of (D6.l t tin).1⟩, _, rfl, f t, _, _, rfl, rfl, (D6.l t tin).1, by rw [List.length_map]; omega, ?_⟩
      have D7 := D6.push tin s
      refine ⟨_, _, _, rfl, D7, by rw [upd_ne (nfq t tin).symm]; exact hqa6, fun x hx => ?_, fun y hy => ?_⟩
      · by_cases e : x = s
        · simp only [if_pos e]
          rw [hc' s sin, if_pos rfl]
        · simp only [if_neg e]
          rw [hc' x hx, if_neg e]
      · have ndE : E0.Nodup := List.nodup_iff_pairwise_ne.mpr (SA.asc.imp fun h e => by rw [e] at h; exact ltE_irrefl _ h)
        have nt : t ∉ (tg E0 s ("tau" : Str)).take j := fun z => by
          obtain ⟨i2, hi2, e⟩ := List.mem_iff_getElem.mp z
          rw [List.length_take] at hi2
          rw [List.getElem_take] at e
          obtain ⟨lt, e2⟩ := List.getElem?_eq_some_iff.mp ht
          have := (List.getElem_inj (tg_nodup ndE s _)).mp (e.trans e2.symm)
          omega
        rw [List.take_succ, ht, Option.toList_some]
        by_cases e : y = t
        · subst e
          simp only [↓reduceIte]
          rw [hp' y hy, if_neg nt, if_pos (by simp), List.append_nil]
        · simp only [if_neg e]
          rw [hp' y hy]
          simp [e]
    · rintro σ H5 ⟨q5', c', ps', rfl, D5, hqa5, hc', hp'⟩
      rw [List.length_map] at hc' hp'
      refine ⟨_, _, c', ps', rfl, D5, fun x hx => ?_, fun t ht => ?_⟩
      · rw [hc' x hx, tkS hs]
        by_cases e : x = s
        · rw [if_pos e, e, if_pos (by simp)]
        · rw [if_neg e, hc x hx]
          simp [e]
      · rw [hp' t ht, hp t ht, tkS hs, fmem, List.take_length]
  rintro σ H3 ⟨q3, q5, c, ps, rfl, D3, hc, hp⟩
  rw [List.length_map] at hc hp
  rw [List.take_length] at hc hp
  have D3' : DS H H3 dm ds ss f (cnt E0 []) (fun t => ss.filter fun s => decide (t ∈ tg E0 s ("tau" : Str))) := D3.cast (fun s hs => by rw [hc s hs, if_pos hs, cnt_nil]) hp
  clear D3 hc hp
  have ndE : E0.Nodup := List.nodup_iff_pairwise_ne.mpr (SA.asc.imp fun h e => by rw [e] at h; exact ltE_irrefl _ h)
  have look : ∀ {H' : Hp} {c : Int → Nat} {p : Int → List Int}, DS H H' dm ds ss f c p → ∀ {s : Int}, s ∈ ss → DGet H' dm (.int s) (some (.int (c s : Nat))) := fun {H' c p} D {s} hs => by
    obtain ⟨mk5, hm5, lm5, hk5⟩ := D.m
    have z := DGet.k (k := Sum.inl s) hm5
    rw [hk5 s hs] at z
    exact z
  -- ending
  refine ⟨_, rfl, a, rfl, lc_seq (K := K) (xs := ss.map V.int) hseq D3'.same (fun D i H' => Same H3 H' ∧ H' D = some (.lst (((ss.take i).filter fun s => decide (cnt E0 [] s = 0)).map V.int)))
    (fun D nD => ⟨same_upd nD _, by rw [upd_same]; simp⟩) (fun D i H' z => D3'.same.trans z.1) ?_ ?_⟩
  · rintro D nD i v H4 hv ⟨s4, hD⟩
    obtain ⟨s, hs, rfl⟩ := at_ss hv
    have sin := List.mem_of_getElem? hs
    refine ⟨rfl, ?_⟩
    refine ⟨_, rfl, _, rfl, dm, _, rfl, look (D3'.go s4) sin, rfl, _, rfl, ?_⟩
    have fl := List.length_filter_le (fun s => decide (cnt E0 [] s = 0)) (ss.take i)
    have tl : (ss.take i).length ≤ ss.length := by rw [List.length_take]; omega
    refine ite2 (fun c => ?_) (fun c => ?_)
    · have z : cnt E0 [] s = 0 := by
        have y := of_decide_eq_true c
        injection y with y
        omega
      refine ⟨_, rfl, _, hD, by rw [List.length_map]; omega, sameIn s4 nD, ?_⟩
      rw [upd_same, tkS hs, List.filter_append, List.filter_cons_of_pos (by simpa using z), List.filter_nil, List.map_append] <;> rfl
    · have z : ¬ cnt E0 [] s = 0 := fun y => c (decide_eq_true (by rw [y] <;> rfl))
      refine ⟨s4, ?_⟩
      rw [hD, tkS hs, List.filter_append, List.filter_cons_of_neg (by simpa using z), List.filter_nil, List.append_nil]
  rintro en nen H4 ⟨s4, hen⟩
  rw [List.length_map, List.take_length] at hen
  have D4 := D3'.go s4
  have nfe : ∀ x ∈ ss, f x ≠ en := fun x hx e => by
    have z := (D3'.l x hx).1
    rw [e, nen] at z
    cases z
  have enH : H en = none := D3'.same.free nen
  clear s4 nen D3'
  refine ⟨fun m σ H' => ∃ (R enl : List Int) (c : Int → Nat) (r3 r5 r7 : Option V), m = ss.length - R.length ∧ σ = [some (.ref p), some (.ref a), some (.ref dm), r3, some (.ref ds), r5, some (.ref en), r7] ∧
      DS H H' dm ds ss f c (fun t => ss.filter fun s => decide (t ∈ tg E0 s ("tau" : Str))) ∧ H' en = some (.lst (enl.map V.int)) ∧ (∀ s ∈ ss, c s = cnt E0 R s) ∧ R.Nodup ∧ enl.Nodup ∧ (∀ x ∈ R, x ∉ enl) ∧ (∀ x ∈ R, x ∈ ss) ∧ (∀ x ∈ enl, x ∈ ss) ∧
      (∀ s ∈ ss, cnt E0 R s = 0 ↔ s ∈ R ∨ s ∈ enl) ∧ ∀ r ∈ R, Halt E0 r,
    ⟨_, [], ss.filter fun s => decide (cnt E0 [] s = 0), cnt E0 [], _, _, _, rfl, rfl, D4, hen, fun _ _ => rfl, List.nodup_nil, List.Nodup.sublist List.filter_sublist ndS, fun x hx => absurd hx List.not_mem_nil, fun x hx => absurd hx List.not_mem_nil, fun x hx => (List.mem_filter.mp hx).1, fun s hs => ?_, fun r hr => absurd hr List.not_mem_nil⟩, ?_⟩
  · rw [List.mem_filter]
    simp [hs]
  rintro m σ H5 ⟨R, enl, c, r3, r5, r7, rfl, rfl, D5, hen5, hc, ndR, ndE', dis, Rss, Ess, iff, hal⟩
  refine ⟨_, rfl, !(enl.map V.int).isEmpty, .inl ⟨_, SqL.of hen5, rfl⟩, ?_⟩
  have lenE' : enl.length ≤ ss.length := nd_le _ _ ndE' Ess
  rcases List.eq_nil_or_concat enl with rfl | ⟨r, t, rfl⟩
  · refine iteF ?_
    have iff' : ∀ s ∈ ss, cnt E0 R s = 0 ↔ s ∈ R := fun s hs => (iff s hs).trans ⟨fun z => z.elim id fun y => absurd y List.not_mem_nil, .inl⟩
    refine ⟨_, rfl, a, rfl, lc_seq (K := K) (xs := ss.map V.int) hseq D5.same (fun D i H' => Same H5 H' ∧ H' D = some (.lst (((ss.take i).filter fun s => decide (0 < cnt E0 R s)).map V.int)))
      (fun D nD => ⟨same_upd nD _, by rw [upd_same]; simp⟩) (fun D i H' z => D5.same.trans z.1) ?_ ?_⟩
    · rintro D nD i v H6 hv ⟨s6, hD⟩
      obtain ⟨s, hs, rfl⟩ := at_ss hv
      have sin := List.mem_of_getElem? hs
      refine ⟨rfl, ?_⟩
      refine ⟨_, rfl, _, rfl, dm, _, rfl, look (D5.go s6) sin, _, _, rfl, rfl, _, rfl, ?_⟩
      rw [hc s sin]
      have fl := List.length_filter_le (fun s => decide (0 < cnt E0 R s)) (ss.take i)
      have tl : (ss.take i).length ≤ ss.length := by rw [List.length_take]; omega
      refine ite2 (fun c => ?_) (fun c => ?_)
      · have z : 0 < cnt E0 R s := by
          have y := of_decide_eq_true c
          omega
        refine ⟨_, rfl, _, hD, by rw [List.length_map]; omega, sameIn s6 nD, ?_⟩
        rw [upd_same, tkS hs, List.filter_append, List.filter_cons_of_pos (by simpa using z), List.filter_nil, List.map_append] <;> rfl
      · have z : ¬ 0 < cnt E0 R s := fun y => c (decide_eq_true (by omega))
        refine ⟨s6, ?_⟩
        rw [hD, tkS hs, List.filter_append, List.filter_cons_of_neg (by simpa using z), List.filter_nil, List.append_nil]
    · rintro D nD H6 ⟨s6, hD⟩
      rw [List.length_map, List.take_length] at hD
      refine ⟨D, _, rfl, .inl ⟨SqL.of hD, fun l nl => q l _ _ ((D5.same.trans s6).trans (same_upd nl _)) upd_same (asc.sublist List.filter_sublist) fun s => ?_⟩⟩
      rw [List.mem_filter, decide_eq_true_eq]
      constructor
      · rintro ⟨h1, h2⟩
        exact ⟨h1, fun z => by
          have y := (cnt_halt hcl iff' hal h1).2 z
          omega⟩
      · rintro ⟨h1, h2⟩
        exact ⟨h1, Nat.pos_of_ne_zero fun z => h2 ((cnt_halt hcl iff' hal h1).1 z)⟩
  · rw [List.concat_eq_append] at *
    have e1 : (!((r ++ [t]).map V.int).isEmpty) = true := by cases r <;> rfl
    rw [e1]
    refine iteT ?_
    refine ⟨_, fun σ' H' z => z, ?_⟩
    have elast : ((r ++ [t]).map V.int)[((r ++ [t]).map V.int).length - 1]? = some (V.int t) := by
      rw [List.map_append, List.length_append, List.map_singleton, List.length_singleton, Nat.add_sub_cancel, List.getElem?_append_right (Nat.le_refl _), Nat.sub_self] <;> rfl
    have edrop : ((r ++ [t]).map V.int).dropLast = r.map V.int := by rw [List.map_append, List.map_singleton, List.dropLast_concat]
    have tin : t ∈ ss := Ess t (by simp)
    have tR : t ∉ R := fun z => dis t z (by simp)
    have ndr : r.Nodup := (List.nodup_append.mp ndE').1
    have tr : t ∉ r := fun z => (List.nodup_append.mp ndE').2.2 t z t (by simp) rfl
    have lenR : R.length + 1 ≤ ss.length := by
      have z := nd_le (t :: R) ss (List.nodup_cons.mpr ⟨tR, ndR⟩) fun x hx => (List.mem_cons.mp hx).elim (fun e => e ▸ tin) (Rss x)
      rw [List.length_cons] at z
      exact z
    have tH : Halt E0 t := ⟨fun u hu => hal u (cnt_zero.1 ((iff t tin).2 (.inr (by simp))) u hu)⟩
    refine ⟨_, rfl, .inl ⟨rfl, _, SqL.of hen5⟩, en, _, _, rfl, rfl, hen5, elast, ?_⟩
    rw [edrop]
    have D6 := D5.lst enH hen5 nfe (r.map V.int)
    have hen6 : upd H5 en (.lst (r.map V.int)) en = some (.lst (r.map V.int)) := upd_same
    generalize upd H5 en (.lst (r.map V.int)) = H6 at D6 hen6 ⊢
    obtain ⟨sk6, hs6, hk6⟩ := D6.s
    have g6 : DGet H6 ds (.int t) (some (.ref (f t))) := by
      have z := DGet.k (k := Sum.inl t) hs6
      rw [hk6 t tin] at z
      exact z
    refine ⟨_, rfl, _, rfl, ds, _, rfl, g6, f t, rfl, ⟨_, SqL.of (D6.l t tin).1⟩, ?_⟩
    obtain ⟨P0, eP⟩ : ∃ P0, P0 = ss.filter fun s => decide (t ∈ tg E0 s ("tau" : Str)) := ⟨_, rfl⟩
    have ndP : P0.Nodup := by rw [eP]; exact List.Nodup.sublist List.filter_sublist ndS
    have memP : ∀ s, s ∈ P0 ↔ s ∈ ss ∧ t ∈ tg E0 s ("tau" : Str) := fun s => by rw [eP, List.mem_filter, decide_eq_true_eq]
    refine for_list (K := K) (a := f t) (xs := P0.map V.int)
      (fun j σ H' => ∃ (enl' : List Int) (c' : Int → Nat) (r7 : Option V), σ = [some (.ref p), some (.ref a), some (.ref dm), some (.int t), some (.ref ds), r5, some (.ref en), r7] ∧
        DS H H' dm ds ss f c' (fun t => ss.filter fun s => decide (t ∈ tg E0 s ("tau" : Str))) ∧ H' en = some (.lst (enl'.map V.int)) ∧ (∀ s ∈ ss, c' s + (if s ∈ P0.take j then 1 else 0) = cnt E0 R s) ∧ enl'.Nodup ∧ (∀ x ∈ enl', x ∈ ss) ∧
        (∀ s ∈ ss, c' s = 0 ↔ s ∈ t :: R ∨ s ∈ enl') ∧ ∀ x ∈ t :: R, x ∉ enl')
      ⟨r, c, _, rfl, D6, hen6, fun s hs => by rw [hc s hs]; simp, ndr, fun x hx => Ess x (List.mem_append_left _ hx), fun s hs => ?_, fun x hx => ?_⟩
      (fun j σ H' _ ⟨_, _, _, _, D, _⟩ => by rw [eP]; exact SqL.of (D.l t tin).1) ?_ ?_
    · rw [hc s hs, iff s hs]
      simp only [List.mem_cons, List.mem_append, List.mem_singleton, List.not_mem_nil, or_false]
      constructor
      · rintro (z | z | z)
        · exact .inl (.inr z)
        · exact .inr z
        · exact .inl (.inl z)
      · rintro ((z | z) | z)
        · exact .inr (.inr z)
        · exact .inl z
        · exact .inr (.inl z)
    · rcases List.mem_cons.mp hx with rfl | z
      · exact tr
      · exact fun y => dis x z (List.mem_append_left _ y)
    · rintro j v σ H7 hv ⟨enl', c', r7', rfl, D7, hen7, hc', nd', sub', iff', dis'⟩
      rw [List.getElem?_map] at hv
      obtain ⟨s, hs, rfl⟩ := Option.map_eq_some_iff.mp hv
      have sP := List.mem_of_getElem? hs
      obtain ⟨sin, sT⟩ := (memP s).1 sP
      have sNot : s ∉ P0.take j := fun z => by
        obtain ⟨i2, hi2, e⟩ := List.mem_iff_getElem.mp z
        rw [List.length_take] at hi2
        rw [List.getElem_take] at e
        obtain ⟨lt, e2⟩ := List.getElem?_eq_some_iff.mp hs
        have := (List.getElem_inj ndP).mp (e.trans e2.symm)
        omega
      have cs := hc' s sin
      rw [if_neg sNot, Nat.add_zero] at cs
      have c1 : 1 ≤ c' s := by
        rw [cs, cnt_cons ndE tR s, if_pos sT]
        omega
      obtain ⟨mk7, hm7, lm7, hk7⟩ := D7.m
      refine ⟨_, rfl, _, rfl, dm, _, rfl, look D7 sin, _, _, rfl, rfl, _, DPut.k (k := Sum.inl s) hm7 (by omega), ?_⟩
      have D8 := D7.setM hm7 lm7 hk7 sin (c' s - 1)
      have hen8 : upd H7 dm (.dK (putK mk7 (Sum.inl s) (.int ((c' s - 1 : Nat) : Int)))) en = some (.lst (enl'.map V.int)) := by
        rw [upd_ne (ne_of hen7 hm7 (fun z => nomatch z))]; exact hen7
      have eI : ((c' s : Nat) : Int) - 1 = ((c' s - 1 : Nat) : Int) := by omega
      rw [eI]
      generalize upd H7 dm (.dK (putK mk7 (Sum.inl s) (.int ((c' s - 1 : Nat) : Int)))) = H8 at D8 hen8 ⊢
      have tkP : P0.take (j + 1) = P0.take j ++ [s] := by rw [List.take_add_one, hs, Option.toList_some]
      have hc8 : ∀ x ∈ ss, (if x = s then c' s - 1 else c' x) + (if x ∈ P0.take (j + 1) then 1 else 0) = cnt E0 R x := fun x hx => by
        rw [tkP]
        by_cases e : x = s
        · subst e
          simp only [↓reduceIte]
          rw [if_pos (by simp), ← cs]
          omega
        · rw [if_neg e, ← hc' x hx]
          simp [e]
      have snot : s ∉ t :: R ∧ s ∉ enl' := by
        have z : ¬ (s ∈ t :: R ∨ s ∈ enl') := fun z => by
          have := (iff' s sin).2 z
          omega
        exact ⟨fun y => z (.inl y), fun y => z (.inr y)⟩
      have lenE2 : enl'.length ≤ ss.length := nd_le _ _ nd' sub'
      refine ⟨_, rfl, _, rfl, dm, _, rfl, look D8 sin, rfl, _, rfl, ?_⟩
      simp only [↓reduceIte]
      refine ite2 (fun cc => ?_) (fun cc => ?_)
      · have z0 : c' s - 1 = 0 := by
          have y := of_decide_eq_true cc
          injection y with y
          omega
        refine ⟨_, rfl, .inl ⟨rfl, _, SqL.of hen8⟩, _, rfl, en, _, _, rfl, rfl, hen8, by rw [List.length_map]; omega, ?_⟩
        have D9 := D8.lst enH hen8 nfe (enl'.map V.int ++ [.int s])
        refine ⟨enl' ++ [s], _, _, rfl, D9, by rw [upd_same, List.map_append] <;> rfl, hc8, List.nodup_append.mpr ⟨nd', by simp, fun x hx y hy e => snot.2 (by rw [List.mem_singleton.mp hy] at e; rw [← e]; exact hx)⟩, fun x hx => ?_, fun x hx => ?_, fun x hx y => ?_⟩
        · rcases List.mem_append.mp hx with z | z
          · exact sub' x z
          · rw [List.mem_singleton.mp z]; exact sin
        · by_cases e : x = s
          · subst e
            simp only [↓reduceIte]
            exact ⟨fun _ => .inr (by simp), fun _ => z0⟩
          · simp only [if_neg e]
            rw [iff' x hx]
            simp [e]
        · rcases List.mem_append.mp y with z | z
          · exact dis' x hx z
          · rw [List.mem_singleton.mp z] at hx
            exact snot.1 hx
      · have z0 : ¬ c' s - 1 = 0 := fun y => cc (decide_eq_true (by rw [y] <;> rfl))
        refine ⟨enl', _, _, rfl, D8, hen8, hc8, nd', sub', fun x hx => ?_, dis'⟩
        by_cases e : x = s
        · subst e
          simp only [↓reduceIte]
          exact ⟨fun z => absurd z z0, fun z => absurd z (fun y => y.elim snot.1 snot.2)⟩
        · simp only [if_neg e]
          exact iff' x hx
    · rintro σ H7 ⟨enl', c', r7', rfl, D7, hen7, hc', nd', sub', iff', dis'⟩
      rw [List.length_map, List.take_length] at hc'
      have cR : ∀ s ∈ ss, c' s = cnt E0 (t :: R) s := fun s hs => by
        have z := hc' s hs
        rw [cnt_cons ndE tR s] at z
        by_cases y : t ∈ tg E0 s ("tau" : Str)
        · rw [if_pos y, if_pos ((memP s).2 ⟨hs, y⟩)] at z
          omega
        · rw [if_neg y, if_neg (fun w => y ((memP s).1 w).2)] at z
          exact z
      refine ⟨_, ?_, t :: R, enl', c', _, _, _, rfl, rfl, D7, hen7, cR, List.nodup_cons.mpr ⟨tR, ndR⟩, nd', dis', fun x hx => ?_, sub', fun s hs => ?_, fun x hx => ?_⟩
      · rw [List.length_cons]
        omega
      · exact (List.mem_cons.mp hx).elim (fun e => e ▸ tin) (Rss x)
      · rw [← cR s hs]
        exact iff' s hs
      · exact (List.mem_cons.mp hx).elim (fun e => e ▸ tH) (hal x)
end
end LW

set_option Elab.async false
set_option linter.all false
set_option maxRecDepth 100000
set_option maxHeartbeats 4000000
namespace LW
open PySem PySem.Spec PyProof.Rows L2 LamX NdefX VB VM VP VE VX VQ VZ
section
variable {P : Program} {w : World} {K : PySem.W.Frag} {mg : Str → Option Value} {base : Heap}
def spIsD (K : PySem.W.Frag) (C : Addr) : Sp := fun vs H Q _ => ∃ (φ : Addr → Prop) (p a : Addr) (n : Int) (E0 : List Ed) (xs : List Str), vs = [.ref p, .ref a] ∧ SysAt K φ C H p n E0 ∧ 1 ≤ n ∧ n ≤ 60 ∧ E0.length ≤ 1000 ∧ SqT K H a (xs.map V.str) ∧
  ∀ (H' : Hp) (c0 cs : List Int) (b : Bool), Same H H' → IsClo E0 [0] c0 → Runs E0 c0 xs cs → (b = true ↔ ∃ s ∈ cs, ¬ Halt E0 s) → Q (.bl b) H'
end
end LW

set_option Elab.async false
set_option linter.all false
set_option maxRecDepth 100000
set_option maxHeartbeats 4000000
namespace LW
open PySem PySem.Spec PyProof.Rows L2 LamX NdefX VB VM VP VE VX VQ VZ VD
theorem strs_can {xs : List Str} (h : ∀ x ∈ xs, PyData.strOk x = true) : PyData.canLayAll0 (xs.map PyData.str) = true := by
  induction xs with
  | nil => rfl
  | cons x xs ih => rw [List.map_cons]; simp [PyData.canLayAll0, PyData.canLay0, h x List.mem_cons_self, ih fun y hy => h y (List.mem_cons_of_mem _ hy)]
theorem strs_dep : ∀ ss : List Str, PyData.depthAll (ss.map PyData.str) = 0
  | [] => rfl
  | s :: ss => by rw [List.map_cons]; unfold PyData.depthAll; rw [strs_dep ss] <;> rfl
theorem strs_eqv : ∀ xs ys : List Str, PyData.eqvAll (xs.map PyData.str) (ys.map PyData.str) = decide (xs = ys)
  | [], [] => rfl
  | [], _ :: _ => rfl
  | _ :: _, [] => rfl
  | x :: xs, y :: ys => by
    rw [List.map_cons, List.map_cons]
    unfold PyData.eqvAll
    rw [strs_eqv xs ys]
    by_cases h : x = y <;> simp [PyData.eqv, h]
theorem row_eqv (a b : List Str) : PyData.eqv (rowD a) (rowD b) = decide (a = b) := by
  unfold rowD
  rw [show PyData.eqv (.tuple (a.map PyData.str)) (.tuple (b.map PyData.str)) = PyData.eqvAll (a.map PyData.str) (b.map PyData.str) by simp [PyData.eqv]]
  exact strs_eqv a b
theorem row_depth (a : List Str) : (rowD a).depth = 1 := by
  unfold rowD PyData.depth
  rw [strs_dep]
abbrev OkR (a : List Str) : Prop := ∀ x ∈ a, PyData.strOk x = true
theorem row_can {a : List Str} (h : OkR a) : (rowD a).canLay0 = true := by
  unfold rowD
  rw [PyData.canLay0]
  exact strs_can h
theorem rows_can {L : List (List Str)} (h : ∀ a ∈ L, OkR a) : PyData.canLayAll0 (L.map rowD) = true := by
  induction L with
  | nil => rfl
  | cons x xs ih => rw [List.map_cons]; simp [PyData.canLayAll0, row_can (h x List.mem_cons_self), ih fun y hy => h y (List.mem_cons_of_mem _ hy)]
theorem rows_depth : ∀ L : List (List Str), PyData.depthAll (L.map rowD) ≤ 1
  | [] => Nat.zero_le _
  | x :: L => by
    rw [List.map_cons]
    unfold PyData.depthAll
    have z := rows_depth L
    have y := row_depth x
    omega
theorem rows_shaped {L : List (List Str)} (h : ∀ a ∈ L, OkR a) : SeqAt.shaped (.list (L.map rowD)) = true := by
  have z := rows_depth L
  unfold SeqAt.shaped
  rw [show (PyData.list (L.map rowD)).canLay0 = PyData.canLayAll0 (L.map rowD) by rw [PyData.canLay0], rows_can h, Bool.true_and, decide_eq_true_eq]
  unfold PyData.depth
  omega
/-- what a behaviour of a kind says -/
def BehP (E : List Ed) (cs : List Int) (k : Nat) (os : List Str) : Prop :=
  match k with
  | 0 => cs ≠ []
  | 1 => ∃ s ∈ cs, ¬ Halt E s
  | _ => ∃ s ∈ cs, tg E s ("tau" : Str) = [] ∧ os = srtS (acs E s)
def BhS (K : PySem.W.Frag) (H : Hp) (b t : Addr) (k : Nat) (os : List Str) : Prop :=
  (k = 0 ∧ SqT K H b [.str "trace", .ref t]) ∨ (k = 1 ∧ SqT K H b [.str "divergence", .ref t]) ∨ (k = 2 ∧ ∃ o : Addr, SqT K H b [.str "failure", .ref t, .ref o] ∧ SqT K H o (os.map V.str))
section
variable {P : Program} {w : World} {K : PySem.W.Frag} {mg : Str → Option Value} {base : Heap}
def spSto (K : PySem.W.Frag) (C : Addr) : Sp := fun vs H Q _ => ∃ (φ : Addr → Prop) (p a : Addr) (n : Int) (E0 : List Ed) (xs : List Str), vs = [.ref p, .ref a] ∧ SysAt K φ C H p n E0 ∧ 1 ≤ n ∧ n ≤ 60 ∧ E0.length ≤ 1000 ∧ SqT K H a (xs.map V.str) ∧
  ∀ (q : Addr) (H' : Hp) (RL : List (Addr × List Str)) (c0 cs : List Int), Same H H' → H' q = some (.lst (refs RL)) → Rows K H' RL → (RL.map (·.2)).Pairwise ltR → (∀ x, x ∈ RL.map (·.2) ↔ ∃ s ∈ cs, tg E0 s "tau" = [] ∧ x = srtS (acs E0 s)) → RL.length ≤ 60 → IsClo E0 [0] c0 → Runs E0 c0 xs cs → Q (.ref q) H'
def spBeh (K : PySem.W.Frag) (C : Addr) : Sp := fun vs H Q _ => ∃ (φ : Addr → Prop) (p b t : Addr) (n : Int) (E0 : List Ed) (xs os : List Str) (k : Nat), vs = [.ref p, .ref b] ∧ SysAt K φ C H p n E0 ∧ 1 ≤ n ∧ n ≤ 60 ∧ E0.length ≤ 1000 ∧ SqT K H t (xs.map V.str) ∧
  BhS K H b t k os ∧ OkR os ∧ ∀ (H' : Hp) (r : Bool) (c0 cs : List Int), Same H H' → IsClo E0 [0] c0 → Runs E0 c0 xs cs → (r = true ↔ BehP E0 cs k os) → Q (.bl r) H'
end
end LW

set_option Elab.async false
set_option linter.all false
set_option maxRecDepth 100000
set_option maxHeartbeats 4000000
namespace LW
open PySem PySem.Spec PyProof.Rows L2 LamX NdefX VB VM VP VE VX VQ VZ
/-- a chain of k silent edges -/
def Ch (E : List Ed) : Nat → Int → Prop
  | 0, _ => True
  | k + 1, s => ∃ t, t ∈ tg E s ("tau" : Str) ∧ Ch E k t
/-- a chain of k silent edges to a state -/
def Ex (E : List Ed) (s : Int) : Nat → Int → Prop
  | 0, y => y = s
  | k + 1, y => ∃ x, Ex E s k x ∧ y ∈ tg E x ("tau" : Str)
inductive Plus (E : List Ed) : Int → Int → Prop
  | one {x y : Int} : y ∈ tg E x ("tau" : Str) → Plus E x y
  | more {x y z : Int} : y ∈ tg E x ("tau" : Str) → Plus E y z → Plus E x z
theorem Plus.snoc {E : List Ed} {x y z : Int} (h : Plus E x y) (g : z ∈ tg E y ("tau" : Str)) : Plus E x z := by
  induction h with
  | one h => exact .more h (.one g)
  | more h _ ih => exact .more h (ih g)
theorem halt_no {E : List Ed} {s : Int} (h : Halt E s) : ¬ Plus E s s := by
  induction h with
  | mk _ ih =>
    intro p
    cases p with
    | one g => exact ih _ g (.one g)
    | more g p => exact ih _ g (p.snoc g)
theorem halt_path {E : List Ed} {n : Int} (ok : ∀ e ∈ E, okE n e) : ∀ (k : Nat) {s : Int}, 0 ≤ s → s < n → Halt E s → Ch E k s → ∃ l : List Int, l.length = k + 1 ∧ l.Nodup ∧ (∀ x ∈ l, 0 ≤ x ∧ x < n) ∧ ∀ x ∈ l, x = s ∨ Plus E s x
  | 0, s, s0, s1, _, _ => ⟨[s], rfl, by simp, fun x hx => by rw [List.mem_singleton.mp hx]; exact ⟨s0, s1⟩, fun x hx => .inl (List.mem_singleton.mp hx)⟩
  | k + 1, s, s0, s1, h, ⟨t, ht, c⟩ => by
    have e := ok _ (tg_mem.1 ht)
    obtain ⟨l, l1, l2, l3, l4⟩ := halt_path ok k e.2.2.1 e.2.2.2.1 (by cases h with | mk h => exact h t ht) c
    have pl : ∀ x ∈ l, Plus E s x := fun x hx => (l4 x hx).elim (fun z => by rw [z]; exact .one ht) (fun z => .more ht z)
    refine ⟨s :: l, by rw [List.length_cons, l1], List.nodup_cons.mpr ⟨fun z => halt_no h (pl s z), l2⟩, fun x hx => ?_, fun x hx => ?_⟩
    · rcases List.mem_cons.mp hx with z | z
      · rw [z]; exact ⟨s0, s1⟩
      · exact l3 x z
    · rcases List.mem_cons.mp hx with z | z
      · exact .inl z
      · exact .inr (pl x z)
theorem not_halt_ch {E : List Ed} : ∀ (k : Nat) {s : Int}, ¬ Halt E s → Ch E k s
  | 0, _, _ => trivial
  | k + 1, s, h => by
    have z : ∃ t, t ∈ tg E s ("tau" : Str) ∧ ¬ Halt E t := Classical.byContradiction fun n => h ⟨fun t ht => Classical.byContradiction fun g => n ⟨t, ht, g⟩⟩
    obtain ⟨t, h1, h2⟩ := z
    exact ⟨t, h1, not_halt_ch k h2⟩
theorem ch_halt {E : List Ed} {n : Int} (ok : ∀ e ∈ E, okE n e) {s : Int} (s0 : 0 ≤ s) (s1 : s < n) : Ch E n.toNat s ↔ ¬ Halt E s := by
  refine ⟨fun c h => ?_, not_halt_ch _⟩
  obtain ⟨l, l1, l2, l3, _⟩ := halt_path ok _ s0 s1 h c
  have z := few_of l2 l3
  omega
theorem ch_pred {E : List Ed} : ∀ (k : Nat) {s : Int}, Ch E (k + 1) s → Ch E k s
  | 0, _, _ => trivial
  | k + 1, _, ⟨t, h, c⟩ => ⟨t, h, ch_pred k c⟩
theorem rgV_rng (n : Int) : rgV 0 n = (rng n.toNat).map V.int := by
  unfold rgV rng
  rw [List.map_map, Int.sub_zero]
  refine List.map_congr_left fun i _ => ?_
  show V.int (0 + (i : Nat)) = V.int ((i : Nat) : Int)
  rw [Int.zero_add]
theorem rng_asc (m : Nat) : (rng m).Pairwise (· < ·) := by
  unfold rng
  refine List.pairwise_map.mpr (List.pairwise_lt_range.imp fun h => by omega)
end LW

set_option Elab.async false
set_option linter.all false
set_option maxRecDepth 100000
set_option maxHeartbeats 4000000
namespace LW
open PySem PySem.Spec PyProof.Rows L2 LamX NdefX VB VM VP VE VX VQ VZ VD
theorem sc__law_lost : FnScope ["count", "edges", "silent", "edge", "found", "k", "state"] ["count", "edges"] (defScope s__law_lost) := ⟨rfl, rfl, rfl, by decide +kernel, rfl, by decide +kernel, by decide +kernel⟩
section
variable {P : Program} {w : World} {K : PySem.W.Frag} {mg : Str → Option Value} {base : Heap}
/-- the states that go on for ever, by the law -/
def spLost (K : PySem.W.Frag) : Sp := fun vs H Q _ => ∃ (n : Int) (a : Addr) (L : List (Addr × Ed)), vs = [.int n, .ref a] ∧ SqL K H a (refs L) ∧ Eds K H L ∧ L.length ≤ 1000 ∧ 1 ≤ n ∧ n ≤ 60 ∧ (∀ p ∈ L, okE n p.2) ∧
  ∀ (q : Addr) (H' : Hp) (cs : List Int), Same H H' → H' q = some (.tup (cs.map V.int)) → cs.Pairwise (· < ·) → (∀ s, s ∈ cs ↔ (0 ≤ s ∧ s < n) ∧ ¬ Halt (L.map (·.2)) s) → Q (.ref q) H'
theorem c_lost (D : Df K mg "_law_lost" s__law_lost) (z_list : mg "list" = none) (z_range : mg "range" = none) (z_len : mg "len" = none) (z_tuple : mg "tuple" = none) : C8.Cal P w K mg base 1 "_law_lost" (spLost K) [] := by
  refine D.cal sc__law_lost (fun _ _ _ _ _ _ us hl => match us, hl with | [_, _], _ => rfl) (fun vs H Q E h => ?_) (fun f cdv A outer s0 H vs Q E hr h => ?_)
  · obtain ⟨n, a, L, rfl, _⟩ := h
    rfl
  obtain ⟨n, a, L, rfl, hS, hE, len, n1, n60, ok, q⟩ := h
  refine ⟨_, (pss_cons (ps_set (i := 2) sc__law_lost.nd rfl (Or.inr rfl) (pe_lc (own := [("edge", 3)]) rfl sc__law_lost.nd (pi_list (pv 1)) (blkOk_by (N := ["count", "edges", "silent", "edge", "found", "k", "state"]) (sc := defScope s__law_lost) (by decide +kernel)) (fun _ _ _ _ _ => (pg_name (i := 3) sc__law_lost.nd rfl (Or.inl rfl) (hf := Or.inr rfl))) (fun _ _ _ _ _ => (pts_one (pt_cmpR op_eq (pe_ix (VK.ixT (K := K) rfl) (pv 3) pe_int (fun _ _ => rfl)) pe_str (nomark _)))) (fun _ _ _ _ _ => (pv 3))))
    (pss_cons (ps_set (i := 4) sc__law_lost.nd rfl (Or.inr rfl) (pe_listRg rfl (by rfl) z_list (prg_1 (by rfl) z_range (pv 0))))
    (pss_cons (ps_for PassesOwn.never rfl (pi_range1 rfl z_range (pa_cons (pv 0) pa_nil)) (pg_name (i := 5) sc__law_lost.nd rfl (Or.inl rfl))
      (pss_one (ps_set (i := 4) sc__law_lost.nd rfl (Or.inr rfl) (pe_lc (own := [("state", 6)]) rfl sc__law_lost.nd (pi_list (pv 4)) (blkOk_by (N := ["count", "edges", "silent", "edge", "found", "k", "state"]) (sc := defScope s__law_lost) (by decide +kernel)) (fun _ _ _ _ _ => (pg_name (i := 6) sc__law_lost.nd rfl (Or.inr rfl) (hf := Or.inl rfl))) (fun _ _ _ _ _ => (pts_one (pt_cmpR op_gt (pe_callB (VK.lenQ (K := K) rfl) (by rfl) z_len PySem.boot_len (pa_cons (pe_lc (own := [("edge", 3)]) rfl sc__law_lost.nd (VD.piL (K := K) rfl (pv 2)) (blkOk_by (N := ["count", "edges", "silent", "edge", "found", "k", "state"]) (by rfl)) (fun _ _ _ _ _ => (pg_name (i := 3) sc__law_lost.nd rfl (Or.inl rfl) (hf := Or.inr rfl))) (fun _ _ _ _ _ => (pts_one (PW.pt (pw_and (pt_cmpR op_eq (pe_ix (VK.ixT (K := K) rfl) (pv 3) pe_int (fun _ _ => rfl)) (pv 6) (nomark _)) (pw_and1 (pt_cmpR (VK.inQ (K := K) rfl) (pe_ix (VK.ixT (K := K) rfl) (pv 3) pe_int (fun _ _ => rfl)) (pv 4) rfl)))))) (fun _ _ _ _ _ => (pv 3))) pa_nil)) pe_int (nomark _)))) (fun _ _ _ _ _ => (pv 6))))))
    (pss_one (ps_ret (pe_callTy (VK.tupQ (K := K) rfl) (by rfl) z_tuple (by decide +kernel) (pa_cons (pv 4) pa_nil))))))), ?_⟩
  have zl := sizeLine_eq
  have okL : ∀ e ∈ L.map (·.2), okE n e := fun e he => by
    obtain ⟨p, hp, rfl⟩ := List.mem_map.mp he
    exact ok p hp
  refine ⟨_, rfl, a, rfl, ⟨_, hS⟩, fun sl nsl => ?_⟩
  refine lc_list (K := K) (a := a) (xs := refs L) (fun i H2 => ∃ F : List (Addr × Ed), Same H H2 ∧ H2 sl = some (.lst (refs F)) ∧ (∀ p ∈ F, p ∈ L) ∧ F.map (·.2) = ((L.map (·.2)).take i).filter fun e => decide (e.2.1 = ("tau" : Str)))
    ⟨[], same_upd nsl _, upd_same, fun p hp => absurd hp List.not_mem_nil, by simp⟩ (fun i H2 _ ⟨_, z, _⟩ => z.seq hS) ?_ ?_
  · rintro i v H2 hv ⟨F, s2, hD, sub, eF⟩
    obtain ⟨r, hr2, rfl⟩ := refs_at hv
    have hp2 := (hE.kp (Kp.of s2)) r (List.mem_of_getElem? hr2)
    have tk := tk_at hr2
    have lti := (List.getElem?_eq_some_iff.mp hr2).1
    have lenF : F.length ≤ i := by
      have z := congrArg List.length eF
      rw [List.length_map] at z
      rw [z]
      exact Nat.le_trans (List.length_filter_le _ _) (List.length_take_le _ _)
    refine ⟨rfl, ?_⟩
    refine ⟨_, rfl, r.1, _, _, _, rfl, rfl, hp2, rfl, rfl, _, rfl, ?_⟩
    refine ite2 (fun c => ?_) (fun c => ?_)
    · have e2 : r.2.2.1 = ("tau" : Str) := by
        have z := of_decide_eq_true c
        injection z
      refine ⟨_, rfl, _, hD, by rw [refs_len]; omega, F ++ [r], sameIn s2 nsl, by rw [upd_same, refs_snoc], fun p hp => ?_, ?_⟩
      · rcases List.mem_append.mp hp with z | z
        · exact sub p z
        · rw [List.mem_singleton.mp z]; exact List.mem_of_getElem? hr2
      · rw [List.map_append, eF, tk, List.filter_append, List.filter_cons_of_pos (by simpa using e2), List.filter_nil] <;> rfl
    · have e2 : ¬ r.2.2.1 = ("tau" : Str) := fun z => c (decide_eq_true (by rw [z]))
      refine ⟨F, s2, hD, sub, ?_⟩
      rw [eF, tk, List.filter_append, List.filter_cons_of_neg (by simpa using e2), List.filter_nil, List.append_nil]
  rintro H1 ⟨F, s1, hsl, sub, eF⟩
  rw [refs_len, List.take_of_length_le (by rw [List.length_map]; exact Nat.le_refl _)] at eF
  have hF : Eds K H1 F := fun p hp => (hE.kp (Kp.of s1)) p (sub p hp)
  have lenF : F.length ≤ 1000 := by
    have z := congrArg List.length eF
    rw [List.length_map] at z
    rw [z]
    refine Nat.le_trans (List.length_filter_le _ _) ?_
    rw [List.length_map]
    exact len
  have memF : ∀ s t, (∃ x, (s, x, t) ∈ F.map (·.2)) ↔ t ∈ tg (L.map (·.2)) s ("tau" : Str) := fun s t => by
    rw [tg_mem, eF]
    constructor
    · rintro ⟨x, h⟩
      obtain ⟨h1, h2⟩ := List.mem_filter.mp h
      have h3 : x = ("tau" : Str) := of_decide_eq_true h2
      rw [h3] at h1
      exact h1
    · intro h
      exact ⟨_, List.mem_filter.mpr ⟨h, by simp⟩⟩
  refine ⟨_, rfl, n, rfl, RgOk.of_le (by decide) (by omega) (by decide) (by omega), fun f0 nf0 => ?_⟩
  have s2 := same_upd nf0 (.lst (rgV 0 n))
  have hf0 : upd H1 f0 (.lst (rgV 0 n)) f0 = some (.lst ((rng n.toNat).map V.int)) := by rw [upd_same, rgV_rng]
  generalize upd H1 f0 (.lst (rgV 0 n)) = H2 at s2 hf0 ⊢
  refine ⟨_, rfl, n, rfl, by omega, by omega, for_range (lo := 0) (n := n.toNat)
    (fun k σ H' => ∃ (fq : Addr) (fl : List Int) (r5 : Option V), σ = [some (.int n), some (.ref a), some (.ref sl), none, some (.ref fq), r5, none] ∧ Same H1 H' ∧ H' fq = some (.lst (fl.map V.int)) ∧ fl.Pairwise (· < ·) ∧
      ∀ s, s ∈ fl ↔ (0 ≤ s ∧ s < n) ∧ Ch (L.map (·.2)) k s) ⟨f0, rng n.toNat, _, rfl, s2, hf0, rng_asc _, fun s => by rw [rng_mem]; simp [Ch]; omega⟩ ?_ ?_⟩
  · rintro k σ H3 hk ⟨fq, fl, r5, rfl, s3, hfq, asc, mfl⟩
    have lfl := few_of (ascI_nodup asc) fun x hx => ((mfl x).1 hx).1
    refine ⟨_, rfl, fq, rfl, ⟨_, SqL.of hfq⟩, fun D2 nD2 => ?_⟩
    refine lc_list (K := K) (a := fq) (xs := fl.map V.int) (fun i H4 => Same H3 H4 ∧ H4 D2 = some (.lst (((fl.take i).filter fun s => decide (∃ e ∈ F.map (·.2), e.1 = s ∧ e.2.2 ∈ fl)).map V.int)))
      ⟨same_upd nD2 _, by rw [upd_same]; simp⟩ (fun i H4 _ z => z.1.seq (SqL.of hfq)) ?_ ?_
    · rintro i v H4 hv ⟨s4, hD⟩
      rw [List.getElem?_map] at hv
      obtain ⟨s, hs, rfl⟩ := Option.map_eq_some_iff.mp hv
      have tk : fl.take (i + 1) = fl.take i ++ [s] := by rw [List.take_add_one, hs, Option.toList_some]
      have hsl4 := (s3.trans s4) _ _ hsl
      have hF4 := hF.kp (Kp.of (s3.trans s4))
      have hfq4 := s4 _ _ hfq
      refine ⟨rfl, ?_⟩
      refine ⟨_, rfl, sl, rfl, ⟨_, SqL.of hsl4⟩, fun D3 nD3 => ?_⟩
      refine lc_list (K := K) (a := sl) (xs := refs F) (fun j H5 => ∃ G : List (Addr × Ed), Same H4 H5 ∧ H5 D3 = some (.lst (refs G)) ∧ G.map (·.2) = ((F.map (·.2)).take j).filter fun e => decide (e.1 = s ∧ e.2.2 ∈ fl))
        ⟨[], same_upd nD3 _, upd_same, by simp⟩ (fun j H5 _ ⟨_, z, _⟩ => z.seq (SqL.of hsl4)) ?_ ?_
      · rintro j v H5 hv2 ⟨G, s5, hG, eG⟩
        obtain ⟨r, hr2, rfl⟩ := refs_at hv2
        have hp2 := (hF4.kp (Kp.of s5)) r (List.mem_of_getElem? hr2)
        have tkF : (F.map (·.2)).take (j + 1) = (F.map (·.2)).take j ++ [r.2] := by rw [List.take_succ, List.getElem?_map, hr2] <;> rfl
        have ltj := (List.getElem?_eq_some_iff.mp hr2).1
        have lenG : G.length ≤ j := by
          have z := congrArg List.length eG
          rw [List.length_map] at z
          rw [z]
          exact Nat.le_trans (List.length_filter_le _ _) (List.length_take_le _ _)
        have no : ¬ (r.2.1 = s ∧ r.2.2.2 ∈ fl) → ∃ G : List (Addr × Ed), Same H4 H5 ∧ H5 D3 = some (.lst (refs G)) ∧ G.map (·.2) = ((F.map (·.2)).take (j + 1)).filter fun e => decide (e.1 = s ∧ e.2.2 ∈ fl) := fun c => by
          refine ⟨G, s5, hG, ?_⟩
          rw [eG, tkF, List.filter_append, List.filter_cons_of_neg (by rw [decide_eq_true_eq]; exact c), List.filter_nil, List.append_nil]
        refine ⟨rfl, ?_⟩
        refine ⟨_, rfl, r.1, _, _, _, rfl, rfl, hp2, rfl, _, rfl, rfl, _, rfl, ?_⟩
        refine ite2 (fun c => ?_) (fun c => ?_)
        · have e1 : r.2.1 = s := by
            have z := of_decide_eq_true c
            injection z
          refine ⟨_, rfl, r.1, _, _, _, rfl, rfl, hp2, rfl, _, rfl, fq, _, rfl, .inl (SqL.of (s5 _ _ hfq4)), rfl, flat_ints _, _, rfl, ?_⟩
          rw [inV_ints]
          refine iteIn (p := r.2.2.2 ∈ fl) (fun h => ?_) (fun h => ?_)
          · refine ⟨_, rfl, _, hG, by rw [refs_len]; omega, G ++ [r], sameIn s5 nD3, by rw [upd_same, refs_snoc], ?_⟩
            rw [List.map_append, eG, tkF, List.filter_append, List.filter_cons_of_pos (by rw [decide_eq_true_eq]; exact ⟨e1, h⟩), List.filter_nil] <;> rfl
          · exact no fun z => h z.2
        · exact no fun z => c (decide_eq_true (by rw [z.1]))
      · rintro H5 ⟨G, s5, hG, eG⟩
        rw [refs_len, List.take_of_length_le (by rw [List.length_map]; exact Nat.le_refl _)] at eG
        have key : 0 < G.length ↔ ∃ e ∈ F.map (·.2), e.1 = s ∧ e.2.2 ∈ fl := by
          have z := congrArg List.length eG
          rw [List.length_map] at z
          rw [z, List.length_pos_iff_exists_mem]
          constructor
          · rintro ⟨e, he⟩
            obtain ⟨h1, h2⟩ := List.mem_filter.mp he
            exact ⟨e, h1, of_decide_eq_true h2⟩
          · rintro ⟨e, h1, h2⟩
            exact ⟨e, List.mem_filter.mpr ⟨h1, decide_eq_true h2⟩⟩
        refine ⟨D3, _, rfl, .inl (SqL.of hG), _, _, rfl, rfl, _, rfl, ?_⟩
        rw [refs_len]
        have fl1 := List.length_filter_le (fun s => decide (∃ e ∈ F.map (·.2), e.1 = s ∧ e.2.2 ∈ fl)) (fl.take i)
        have fl2 : (fl.take i).length ≤ fl.length := by rw [List.length_take]; omega
        refine ite2 (fun c => ?_) (fun c => ?_)
        · have c' := key.1 (by have := of_decide_eq_true c; omega)
          refine ⟨_, rfl, _, s5 _ _ hD, by rw [List.length_map]; omega, sameIn (s4.trans s5) nD2, ?_⟩
          rw [upd_same, tk, List.filter_append, List.filter_cons_of_pos (by rw [decide_eq_true_eq]; exact c'), List.filter_nil, List.map_append] <;> rfl
        · have c' : ¬ ∃ e ∈ F.map (·.2), e.1 = s ∧ e.2.2 ∈ fl := fun z => c (decide_eq_true (by have := key.2 z; omega))
          refine ⟨s4.trans s5, ?_⟩
          rw [s5 _ _ hD, tk, List.filter_append, List.filter_cons_of_neg (by rw [decide_eq_true_eq]; exact c'), List.filter_nil, List.append_nil]
    · rintro H4 ⟨s4, hD⟩
      rw [List.length_map, List.take_length] at hD
      refine ⟨D2, _, _, rfl, s3.trans s4, hD, asc.sublist List.filter_sublist, fun s => ?_⟩
      rw [List.mem_filter, decide_eq_true_eq, mfl]
      constructor
      · rintro ⟨⟨h1, h2⟩, ⟨e, he, rfl, h3⟩⟩
        refine ⟨h1, e.2.2, (memF _ _).1 ⟨e.2.1, he⟩, ((mfl _).1 h3).2⟩
      · rintro ⟨h1, t, ht, hc⟩
        obtain ⟨x, hx⟩ := (memF s t).2 ht
        refine ⟨⟨h1, ch_pred k ⟨t, ht, hc⟩⟩, _, hx, rfl, (mfl t).2 ⟨?_, hc⟩⟩
        have z := okL _ (tg_mem.1 ht)
        exact ⟨z.2.2.1, z.2.2.2.1⟩
  · rintro σ H3 ⟨fq, fl, r5, rfl, s3, hfq, asc, mfl⟩
    refine ⟨_, rfl, fq, _, rfl, .inl ⟨SqL.of hfq, fun l nl => q l _ fl ((s1.trans s3).trans (same_upd nl _)) upd_same asc fun s => ?_⟩⟩
    rw [mfl]
    constructor
    · rintro ⟨h1, h2⟩
      exact ⟨h1, (ch_halt okL h1.1 h1.2).1 h2⟩
    · rintro ⟨h1, h2⟩
      exact ⟨h1, (ch_halt okL h1.1 h1.2).2 h2⟩
end
end LW

set_option Elab.async false
set_option linter.all false
set_option maxRecDepth 100000
set_option maxHeartbeats 4000000
namespace LW
open PySem PySem.Spec PyProof.Rows L2 LamX NdefX VB VM VP VE VX VQ VZ VD
section
variable {P : Program} {w : World} {K : PySem.W.Frag} {mg : Str → Option Value} {base : Heap}
/-- each row once -/
def spOnceR (K : PySem.W.Frag) : Sp := fun vs H Q _ => ∃ (a : Addr) (L : List (Addr × List Str)), vs = [.ref a] ∧ SqL K H a (refs L) ∧ Rows K H L ∧ L.length ≤ 1000 ∧ (∀ p ∈ L, OkR p.2) ∧
  ∀ (p : Addr) (L' : List (Addr × List Str)), H p = none → (∀ x ∈ L', x ∈ L) → L'.map (·.2) = onceG [] (L.map (·.2)) → Q (.ref p) (upd H p (.lst (refs L')))
def embR (p : Addr × List Str) : V := V.ref p.1
def encR (p : Addr × List Str) : PyData := rowD p.2
end
end LW

set_option Elab.async false
set_option linter.all false
set_option maxRecDepth 100000
set_option maxHeartbeats 400000
namespace LW
open PySem PySem.Spec PyProof.Rows L2 LamX NdefX VB VM VP VE VX VQ VZ
/-- lists and tuples stay -/
def KL (H H' : Hp) : Prop := (∀ b xs, H b = some (.lst xs) → H' b = some (.lst xs)) ∧ Kp H H'
theorem KL.of {H H' : Hp} (s : Same H H') : KL H H' := ⟨fun b xs e => s _ _ e, Kp.of s⟩
theorem KL.dK {H : Hp} {d : Addr} {kvs : List (Key × V)} (e : H d = some (.dK kvs)) (o : HO) : KL H (upd H d o) :=
  ⟨fun b xs h => by rw [upd_ne (ne_of h e (fun z => nomatch z))]; exact h, ⟨fun c xs h => by rw [upd_ne (ne_of h e (fun z => nomatch z))]; exact h, fun c q u h => by rw [upd_ne (ne_of h e (fun z => nomatch z))]; exact h⟩⟩
theorem KL.dT {H : Hp} {d : Addr} {kvs : List (List Key × V)} (e : H d = some (.dT kvs)) (o : HO) : KL H (upd H d o) :=
  ⟨fun b xs h => by rw [upd_ne (ne_of h e (fun z => nomatch z))]; exact h, ⟨fun c xs h => by rw [upd_ne (ne_of h e (fun z => nomatch z))]; exact h, fun c q u h => by rw [upd_ne (ne_of h e (fun z => nomatch z))]; exact h⟩⟩
/-- a dict with a value for each state -/
def IR (n : Int) (H : Hp) (d : Addr) (R : Int → V → Prop) : Prop := ∃ kvs : List (Key × V), H d = some (.dK kvs) ∧ (kvs.length : Int) ≤ n ∧ ∀ s, 0 ≤ s → s < n → ∃ v, valV kvs (.inl s) = some v ∧ R s v
theorem IR.mono {n : Int} {H H' : Hp} {d : Addr} {R R' : Int → V → Prop} (h : IR n H d R) (e : ∀ o, H d = some o → H' d = some o) (r : ∀ s v, 0 ≤ s → s < n → R s v → R' s v) : IR n H' d R' := by
  obtain ⟨kvs, h1, h2, h3⟩ := h
  refine ⟨kvs, e _ h1, h2, fun s s0 s1 => ?_⟩
  obtain ⟨v, g1, g2⟩ := h3 s s0 s1
  exact ⟨v, g1, r s v s0 s1 g2⟩
theorem IR.put {n : Int} {H : Hp} {d : Addr} {R : Int → V → Prop} (h : IR n H d R) {x : Int} (x0 : 0 ≤ x) (x1 : x < n) : ∃ kvs : List (Key × V), H d = some (.dK kvs) ∧ (kvs.length : Int) ≤ n ∧
    ∀ (H' : Hp) (v : V) (R' : Int → V → Prop), H' d = some (.dK (putK kvs (.inl x) v)) → R' x v → (∀ s u, 0 ≤ s → s < n → s ≠ x → R s u → R' s u) → IR n H' d R' := by
  obtain ⟨kvs, h1, h2, h3⟩ := h
  refine ⟨kvs, h1, h2, fun H' v R' e rx ro => ⟨_, e, ?_, fun s s0 s1 => ?_⟩⟩
  · obtain ⟨u, g, _⟩ := h3 x x0 x1
    rw [putK_has g]
    exact h2
  · rw [valV_put]
    by_cases c : s = x
    · subst c
      exact ⟨v, by rw [if_pos rfl], rx⟩
    · obtain ⟨u, g1, g2⟩ := h3 s s0 s1
      exact ⟨u, by rw [if_neg (fun z => c (Sum.inl.inj z))]; exact g1, ro s u s0 s1 c g2⟩
theorem IR.snoc {i : Nat} {H : Hp} {d : Addr} {R : Int → V → Prop} (h : IR (i : Int) H d R) {x : Int} (hx : x = (i : Int)) : ∃ kvs : List (Key × V), H d = some (.dK kvs) ∧ (kvs.length : Int) ≤ i ∧
    ∀ (H' : Hp) (v : V) (R' : Int → V → Prop), H' d = some (.dK (putK kvs (.inl x) v)) → R' i v → (∀ s u, 0 ≤ s → s < (i : Int) → R s u → R' s u) → IR ((i + 1 : Nat) : Int) H' d R' := by
  subst hx
  obtain ⟨kvs, h1, h2, h3⟩ := h
  refine ⟨kvs, h1, h2, fun H' v R' e rx ro => ⟨_, e, ?_, fun s s0 s1 => ?_⟩⟩
  · have z := length_putK kvs (.inl (i : Int)) v
    omega
  · rw [valV_put]
    by_cases c : s = (i : Int)
    · subst c
      exact ⟨v, by rw [if_pos rfl], rx⟩
    · obtain ⟨u, g1, g2⟩ := h3 s s0 (by omega)
      exact ⟨u, by rw [if_neg (fun z => c (Sum.inl.inj z))]; exact g1, ro s u s0 (by omega) g2⟩
theorem IR.at_ {n : Int} {H : Hp} {d : Addr} {R : Int → V → Prop} (h : IR n H d R) {x : Int} (x0 : 0 ≤ x) (x1 : x < n) : ∃ v, DGet H d (.int x) (some v) ∧ R x v := by
  obtain ⟨kvs, h1, h2, h3⟩ := h
  obtain ⟨v, g1, g2⟩ := h3 x x0 x1
  refine ⟨v, ?_, g2⟩
  have z := DGet.k (k := .inl x) h1
  rw [g1] at z
  exact z
/-- the lists behind an action, one for each state and action that has one -/
def MQ (H : Hp) (d : Addr) (E : List Ed) : Prop := ∃ kvs : List (List Key × V), H d = some (.dT kvs) ∧ kvs.length ≤ E.length ∧
  (∀ k v, valV kvs k = some v → ∃ (b : Addr) (s : Int) (x : Str), k = kT s x ∧ v = .ref b ∧ H b = some (.lst ((tg E s x).map V.int))) ∧ ∀ s x, valV kvs (kT s x) = none → tg E s x = []
theorem MQ.mono {H H' : Hp} {d : Addr} {E : List Ed} (h : MQ H d E) (e : ∀ o, H d = some o → H' d = some o) (k : KL H H') : MQ H' d E := by
  obtain ⟨kvs, h1, h2, h3, h4⟩ := h
  refine ⟨kvs, e _ h1, h2, fun k' v hv => ?_, h4⟩
  obtain ⟨b, s, x, e1, e2, e3⟩ := h3 k' v hv
  exact ⟨b, s, x, e1, e2, k.1 _ _ e3⟩
theorem kT_inj {s t : Int} {x y : Str} (h : kT s x = kT t y) : s = t ∧ x = y := by
  injection h with a1 a2
  injection a2 with a2 _
  exact ⟨Sum.inl.inj a1, Sum.inr.inj a2⟩
/-- what stands at a state and an action -/
theorem MQ.at_ {H : Hp} {d z p : Addr} {E : List Ed} (h : MQ H d E) (s : Int) (x : Str) (hz : H z = some (.lst [])) (hp : H p = some (.tup [.int s, .str x])) : ∃ (o : Option V) (b : Addr), DGet H d (.ref p) o ∧ o.getD (.ref z) = .ref b ∧ H b = some (.lst ((tg E s x).map V.int)) := by
  obtain ⟨kvs, h1, h2, h3, h4⟩ := h
  have g := DGet.t (k := kT s x) h1 hp
  cases hv : valV kvs (kT s x) with
  | none =>
    rw [hv] at g
    exact ⟨_, z, g, rfl, by rw [h4 _ _ hv]; exact hz⟩
  | some v =>
    rw [hv] at g
    obtain ⟨b, s', x', e1, e2, e3⟩ := h3 _ _ hv
    obtain ⟨rfl, rfl⟩ := kT_inj e1
    exact ⟨_, b, g, by rw [e2] <;> rfl, e3⟩
theorem MQ.put {H : Hp} {d b p : Addr} {E : List Ed} (h : MQ H d E) {e : Ed} (hb : H b = some (.lst ((tg E e.1 e.2.1).map V.int ++ [.int e.2.2]))) (hp : H p = some (.tup [.int e.1, .str e.2.1])) (hl : E.length < sizeLine) :
    ∃ kvs, H d = some (.dT kvs) ∧ DPut H d (.ref p) (.ref b) (upd H d (.dT (putK kvs (kT e.1 e.2.1) (.ref b)))) ∧ MQ (upd H d (.dT (putK kvs (kT e.1 e.2.1) (.ref b)))) d (E ++ [e]) := by
  obtain ⟨kvs, h1, h2, h3, h4⟩ := h
  have kl := KL.dT h1 (.dT (putK kvs (kT e.1 e.2.1) (.ref b)))
  refine ⟨kvs, h1, DPut.t (k := kT e.1 e.2.1) h1 hp (by omega), _, upd_same, ?_, fun k v hv => ?_, fun s x hn => ?_⟩
  · have z := length_putK kvs (kT e.1 e.2.1) (.ref b)
    rw [List.length_append, List.length_singleton]
    omega
  · rw [valV_put] at hv
    by_cases c : k = kT e.1 e.2.1
    · rw [if_pos c] at hv
      cases hv
      refine ⟨b, e.1, e.2.1, c, rfl, ?_⟩
      rw [tg_snoc, if_pos ⟨rfl, rfl⟩, List.map_append]
      exact kl.1 _ _ hb
    · rw [if_neg c] at hv
      obtain ⟨b', s, x, rfl, rfl, e3⟩ := h3 _ _ hv
      refine ⟨b', s, x, rfl, rfl, ?_⟩
      rw [tg_snoc, if_neg (fun z => c (by rw [z.1, z.2]))]
      exact kl.1 _ _ e3
  · rw [valV_put] at hn
    by_cases c : kT s x = kT e.1 e.2.1
    · rw [if_pos c] at hn; cases hn
    · rw [if_neg c] at hn
      rw [tg_snoc, if_neg (fun z => c (by rw [z.1, z.2]))]
      exact h4 _ _ hn
def offR (K : PySem.W.Frag) (H : Hp) (E : List Ed) : Int → V → Prop := fun s v => ∃ b, v = .ref b ∧ SqT K H b ((srtS (acs E s)).map V.str)
def silR (H : Hp) (E : List Ed) : Int → V → Prop := fun s v => ∃ b, v = .ref b ∧ H b = some (.lst ((tg E s "tau").map V.int))
def cloR (H : Hp) (E : List Ed) : Int → V → Prop := fun s v => ∃ (b : Addr) (cs : List Int), v = .ref b ∧ H b = some (.lst (cs.map V.int)) ∧ cs.Nodup ∧ ∀ x, x ∈ cs ↔ Rch E [s] x
theorem offR.kl {K : PySem.W.Frag} {H H' : Hp} {E : List Ed} (k : KL H H') {s : Int} {v : V} (h : offR K H E s v) : offR K H' E s v := by
  obtain ⟨b, e, h⟩ := h
  exact ⟨b, e, k.2.sqT h⟩
theorem silR.kl {H H' : Hp} {E : List Ed} (k : KL H H') {s : Int} {v : V} (h : silR H E s v) : silR H' E s v := by
  obtain ⟨b, e, h⟩ := h
  exact ⟨b, e, k.1 _ _ h⟩
theorem cloR.kl {H H' : Hp} {E : List Ed} (k : KL H H') {s : Int} {v : V} (h : cloR H E s v) : cloR H' E s v := by
  obtain ⟨b, cs, e, h, r⟩ := h
  exact ⟨b, cs, e, k.1 _ _ h, r⟩
/-- the three dicts while the edges are read -/
structure LQ (K : PySem.W.Frag) (H0 H : Hp) (dm dO ds : Addr) (n : Int) (E E2 E3 : List Ed) : Prop where
  same : Same H0 H
  m : MQ H dm E
  o : IR n H dO (offR K H E2)
  s : IR n H ds (silR H E3)
section
variable {K : PySem.W.Frag} {H0 H H' : Hp} {dm dO ds : Addr} {n : Int} {E E2 E3 : List Ed}
theorem LQ.go (L : LQ K H0 H dm dO ds n E E2 E3) (z : Same H H') : LQ K H0 H' dm dO ds n E E2 E3 :=
  ⟨L.same.trans z, L.m.mono (fun o e => z _ _ e) (.of z), L.o.mono (fun o e => z _ _ e) fun s v _ _ h => h.kl (.of z), L.s.mono (fun o e => z _ _ e) fun s v _ _ h => h.kl (.of z)⟩
theorem LQ.other (L : LQ K H0 H dm dO ds n E E2 E3) {d : Addr} {kvs : List (Key × V)} (hd : H d = some (.dK kvs)) (f : H0 d = none) (n1 : dO ≠ d) (n2 : ds ≠ d) (o : HO) : LQ K H0 (upd H d o) dm dO ds n E E2 E3 := by
  have kl := KL.dK hd o
  obtain ⟨km, m1, _⟩ := L.m
  refine ⟨sameIn L.same f, L.m.mono (fun u g => ?_) kl, L.o.mono (fun u g => ?_) fun s v _ _ h => h.kl kl, L.s.mono (fun u g => ?_) fun s v _ _ h => h.kl kl⟩
  · rw [upd_ne (ne_of m1 hd (fun z => nomatch z))]; exact g
  · rw [upd_ne n1]; exact g
  · rw [upd_ne n2]; exact g
theorem LQ.cast (L : LQ K H0 H dm dO ds n E E2 E3) {E4 E5 : List Ed} (ho : ∀ s, srtS (acs E4 s) = srtS (acs E2 s)) (hs : ∀ s, tg E5 s "tau" = tg E3 s "tau") : LQ K H0 H dm dO ds n E E4 E5 :=
  ⟨L.same, L.m, L.o.mono (fun _ e => e) fun s v _ _ ⟨b, e, h⟩ => ⟨b, e, by rw [ho s]; exact h⟩, L.s.mono (fun _ e => e) fun s v _ _ ⟨b, e, h⟩ => ⟨b, e, by rw [hs s]; exact h⟩⟩
end
abbrev kvQ (n : Int) (dm dO ds dc ll : Addr) : List (Key × V) := [(.inr "count", .int n), (.inr "move", .ref dm), (.inr "offers", .ref dO), (.inr "silent", .ref ds), (.inr "close", .ref dc), (.inr "lost", .ref ll)]
/-- what the law knows of a system -/
structure QAt (K : PySem.W.Frag) (H : Hp) (q : Addr) (n : Int) (E : List Ed) : Prop where
  ex : ∃ (kvs : List (Key × V)) (dm dO ds dc ll : Addr) (cs : List Int), H q = some (.dK kvs) ∧ valV kvs (.inr "move") = some (.ref dm) ∧ valV kvs (.inr "offers") = some (.ref dO) ∧ valV kvs (.inr "silent") = some (.ref ds) ∧ valV kvs (.inr "close") = some (.ref dc) ∧ valV kvs (.inr "lost") = some (.ref ll) ∧
    MQ H dm E ∧ IR n H dO (offR K H E) ∧ IR n H ds (silR H E) ∧ IR n H dc (cloR H E) ∧ H ll = some (.lst (cs.map V.int)) ∧ ∀ s, s ∈ cs ↔ (0 ≤ s ∧ s < n) ∧ ¬ Halt E s
  ok : ∀ e ∈ E, okE n e
  n1 : 1 ≤ n
  n60 : n ≤ 60
  len : E.length ≤ 1000
theorem QAt.same {K : PySem.W.Frag} {H H' : Hp} {q : Addr} {n : Int} {E : List Ed} (Q : QAt K H q n E) (z : Same H H') : QAt K H' q n E := by
  obtain ⟨⟨kvs, dm, dO, ds, dc, ll, cs, hq, v1, v2, v3, v4, v5, a1, a2, a3, a4, a5, a6⟩, r1, r2, r3, r4⟩ := Q
  have kl := KL.of z
  exact ⟨⟨kvs, dm, dO, ds, dc, ll, cs, z _ _ hq, v1, v2, v3, v4, v5, a1.mono (fun o e => z _ _ e) kl, a2.mono (fun o e => z _ _ e) fun s v _ _ h => h.kl kl, a3.mono (fun o e => z _ _ e) fun s v _ _ h => h.kl kl, a4.mono (fun o e => z _ _ e) fun s v _ _ h => h.kl kl, z _ _ a5, a6⟩, r1, r2, r3, r4⟩
end LW

set_option Elab.async false
set_option linter.all false
set_option maxRecDepth 100000
set_option maxHeartbeats 400000
namespace LW
open PySem PySem.Spec PyProof.Rows L2 LamX NdefX VB VM VP VE VX VQ VZ
theorem ite2b {b : Bool} {A B : Prop} (h1 : b = true → A) (h2 : b = false → B) : if b = true then A else B := by
  cases b
  · exact iteF (h2 rfl)
  · exact iteT (h1 rfl)
section
variable {P : Program} {w : World} {K : PySem.W.Frag} {mg : Str → Option Value} {base : Heap}
def spQuick (K : PySem.W.Frag) : Sp := fun vs H Q _ => ∃ (t l : Addr) (n : Int) (L : List (Addr × Ed)), vs = [.ref t] ∧ SqT K H t [.int n, .ref l] ∧ SqL K H l (refs L) ∧ Eds K H L ∧ L.length ≤ 1000 ∧ (∀ x ∈ L, okE n x.2) ∧ 1 ≤ n ∧ n ≤ 60 ∧
  ∀ (q : Addr) (H' : Hp), Same H H' → QAt K H' q n (L.map (·.2)) → Q (.ref q) H'
end
end LW

set_option Elab.async false
set_option linter.all false
set_option maxRecDepth 100000
set_option maxHeartbeats 400000
namespace LW
open PySem PySem.Spec PyProof.Rows L2 LamX NdefX VB VM VP VE VX VQ VZ
/-! the order of traces, and what two systems reach together -/
structure Bh where
  k : Nat
  tr : List Str
  of : List Str
deriving DecidableEq
def kdS : Nat → Str
  | 0 => "trace"
  | 1 => "divergence"
  | _ => "failure"
def kdl : List Str := ["trace", "divergence", "failure"]
def sLt (a b : Str) : Prop := PySem.W.dataLt (.str a) (.str b) = true
theorem ltR_cons {x y : Str} {u v : List Str} : ltR (x :: u) (y :: v) ↔ sLt x y ∨ (x = y ∧ ltR u v) := by
  unfold ltR rowD sLt
  rw [PySem.W.dataLt_tuple, PySem.W.dataLt_tuple, List.map_cons, List.map_cons, PySem.W.toks_all_cons, PySem.W.toks_all_cons]
  rw [show (Sum.inl 1 :: (PySem.W.keyToks (PyData.str x) ++ PySem.W.keyToksAll (u.map PyData.str)) : List (Int ⊕ List Nat)) = [Sum.inl 1] ++ (PySem.W.keyToks (PyData.str x) ++ PySem.W.keyToksAll (u.map PyData.str)) from rfl,
    show (Sum.inl 1 :: (PySem.W.keyToks (PyData.str y) ++ PySem.W.keyToksAll (v.map PyData.str)) : List (Int ⊕ List Nat)) = [Sum.inl 1] ++ (PySem.W.keyToks (PyData.str y) ++ PySem.W.keyToksAll (v.map PyData.str)) from rfl, PySem.W.lex_pre]
  simp only [PySem.W.keyToks, List.cons_append, List.nil_append]
  by_cases e : x = y
  · subst e
    have n : PySem.W.dataLt (.str x) (.str x) = true ↔ False := by
      constructor
      · intro h
        have z : PySem.W.dataLt (.str x) (.str x) = false := (PyProof.Rows.listOrd PyProof.Rows.itemOrd).irrefl (PySem.W.keyToks (.str x))
        rw [z] at h
        cases h
      · exact fun h => h.elim
    rw [show (Sum.inr x.cps.toList :: PySem.W.keyToksAll (u.map PyData.str) : List (Int ⊕ List Nat)) = [Sum.inr x.cps.toList] ++ PySem.W.keyToksAll (u.map PyData.str) from rfl,
      show (Sum.inr x.cps.toList :: PySem.W.keyToksAll (v.map PyData.str) : List (Int ⊕ List Nat)) = [Sum.inr x.cps.toList] ++ PySem.W.keyToksAll (v.map PyData.str) from rfl, PySem.W.lex_pre, n]
    simp
  · rw [PySem.W.lex_atom (fun h => e (PyProof.Rows.ext_toList (Sum.inr.inj h)))]
    rw [show PySem.W.dataLt (.str x) (.str y) = PyProof.Rows.lexLt itemOrd [Sum.inr x.cps.toList] [Sum.inr y.cps.toList] from rfl]
    simp [e]
theorem ltR_snoc2 {a b : Str} : ∀ {u v : List Str}, u.length = v.length → ltR u v → ltR (u ++ [a]) (v ++ [b])
  | [], [], _, h => absurd h (ltR_irrefl [])
  | [], _ :: _, e, _ => by cases e
  | _ :: _, [], e, _ => by cases e
  | x :: u, y :: v, e, h => by
    rw [List.cons_append, List.cons_append, ltR_cons]
    rcases ltR_cons.mp h with h | ⟨h1, h2⟩
    · exact .inl h
    · exact .inr ⟨h1, ltR_snoc2 (by simpa using e) h2⟩
theorem ltR_snoc {a b : Str} (h : sLt a b) : ∀ (u : List Str), ltR (u ++ [a]) (u ++ [b])
  | [] => ltR_cons.mpr (.inl h)
  | x :: u => ltR_cons.mpr (.inr ⟨rfl, ltR_snoc h u⟩)
/-- shorter ones first, those of one length ascending -/
def tlt (u v : List Str) : Prop := u.length < v.length ∨ (u.length = v.length ∧ ltR u v)
theorem tlt_irrefl (u : List Str) : ¬ tlt u u := fun h => h.elim (Nat.lt_irrefl _) fun h => ltR_irrefl _ h.2
theorem tlt_trans {u v x : List Str} (h : tlt u v) (g : tlt v x) : tlt u x := by
  rcases h with h | ⟨h1, h2⟩ <;> rcases g with g | ⟨g1, g2⟩
  · exact .inl (Nat.lt_trans h g)
  · exact .inl (by omega)
  · exact .inl (by omega)
  · exact .inr ⟨h1.trans g1, ltR_trans h2 g2⟩
theorem tlt_tri {u v : List Str} (h : ¬ tlt u v) (g : ¬ tlt v u) : u = v := by
  have e : u.length = v.length := by
    have h1 : ¬ u.length < v.length := fun z => h (.inl z)
    have h2 : ¬ v.length < u.length := fun z => g (.inl z)
    omega
  exact ltR_tri (fun z => h (.inr ⟨e, z⟩)) (fun z => g (.inr ⟨e.symm, z⟩))
theorem tlt_snoc2 {a b : Str} {u v : List Str} (h : tlt u v) : tlt (u ++ [a]) (v ++ [b]) := by
  rcases h with h | ⟨h1, h2⟩
  · exact .inl (by rw [List.length_append, List.length_append]; exact Nat.add_lt_add_right h 1)
  · exact .inr ⟨by rw [List.length_append, List.length_append, h1] <;> rfl, ltR_snoc2 h1 h2⟩
theorem tlt_snoc {a b : Str} (h : sLt a b) (u : List Str) : tlt (u ++ [a]) (u ++ [b]) := .inr ⟨by rw [List.length_append, List.length_append] <;> rfl, ltR_snoc h u⟩
theorem tlt_self (u : List Str) (a : Str) : tlt u (u ++ [a]) := .inl (by rw [List.length_append]; exact Nat.lt_succ_self _)
def tle (u v : List Str) : Prop := u = v ∨ tlt u v
theorem tle_refl (u : List Str) : tle u u := .inl rfl
theorem tle_trans {u v x : List Str} (h : tle u v) (g : tle v x) : tle u x := by
  rcases h with rfl | h
  · exact g
  · rcases g with rfl | g
    · exact .inr h
    · exact .inr (tlt_trans h g)
theorem tle_lt {u v x : List Str} (h : tle u v) (g : tlt v x) : tlt u x := by
  rcases h with rfl | h
  · exact g
  · exact tlt_trans h g
theorem tlt_le {u v x : List Str} (h : tlt u v) (g : tle v x) : tlt u x := by
  rcases g with rfl | g
  · exact h
  · exact tlt_trans h g
theorem tle_snoc {u v : List Str} (h : tle u v) (a : Str) : tle (u ++ [a]) (v ++ [a]) := by
  rcases h with rfl | h
  · exact .inl rfl
  · exact .inr (tlt_snoc2 h)
theorem tle_of_not {u v : List Str} (h : ¬ tlt u v) : tle v u := by
  by_cases g : tlt v u
  · exact .inr g
  · exact .inl (tlt_tri g h)
theorem tle_anti {u v : List Str} (h : tle u v) (g : tle v u) : u = v := by
  rcases h with h | h
  · exact h
  · rcases g with g | g
    · exact g.symm
    · exact absurd (tlt_trans h g) (tlt_irrefl _)
section
variable (E1 E2 : List Ed) (md : Str)
/-- some of the states can go on silently without end -/
def Opn (T : List Int) : Prop := md = "divergences" ∧ ∃ x ∈ T, ¬ Halt E1 x
/-- the pair of a state of the second system and a tuple of states of the first is reached along a trace -/
inductive Rc : List Str → Int → List Int → Prop
  | st {T : List Int} : IsClo E1 [0] T → Rc [] 0 T
  | tau {tr : List Str} {s s' : Int} {T : List Int} : Rc tr s T → ¬ Opn E1 md T → (s, ("tau" : Str), s') ∈ E2 → Rc tr s' T
  | vis {tr : List Str} {s s' : Int} {T T' : List Int} {a : Str} : Rc tr s T → ¬ Opn E1 md T → (s, a, s') ∈ E2 → a ≠ ("tau" : Str) → IsClo E1 (aft E1 T a) T' → T' ≠ [] → Rc (tr ++ [a]) s' T'
/-- the offers of a state are none that the tuple allows -/
def Refu (s : Int) (T : List Int) : Prop := ¬ ∃ x ∈ T, tg E1 x ("tau" : Str) = [] ∧ ∀ a ∈ acs E1 x, a ∈ acs E2 s
/-- what the second system does and the first does not allow, by the pairs that are reached -/
inductive Bd (R : List Str → Int → List Int → Prop) : Bh → Prop
  | tr {t : List Str} {s s' : Int} {T : List Int} {a : Str} : R t s T → ¬ Opn E1 md T → (s, a, s') ∈ E2 → a ≠ ("tau" : Str) → IsClo E1 (aft E1 T a) [] → Bd R ⟨0, t ++ [a], []⟩
  | dv {t : List Str} {s : Int} {T : List Int} : md = "divergences" → R t s T → ¬ Opn E1 md T → ¬ Halt E2 s → Bd R ⟨1, t, []⟩
  | fl {t : List Str} {s : Int} {T : List Int} : md ≠ "traces" → R t s T → ¬ Opn E1 md T → tg E2 s ("tau" : Str) = [] → Refu E1 E2 s T → Bd R ⟨2, t, srtS (acs E2 s)⟩
/-- a table of pairs with traces has all that is reached, each with a trace as small as any -/
structure Full (tab : Int → List Int → List Str → Prop) : Prop where
  sound : ∀ {s T u}, tab s T u → Rc E1 E2 md u s T
  st : ∀ {T}, IsClo E1 [0] T → tab 0 T []
  tau : ∀ {s T u s'}, tab s T u → ¬ Opn E1 md T → (s, ("tau" : Str), s') ∈ E2 → ∃ v, tab s' T v ∧ tle v u
  vis : ∀ {s T u s' a T'}, tab s T u → ¬ Opn E1 md T → (s, a, s') ∈ E2 → a ≠ ("tau" : Str) → IsClo E1 (aft E1 T a) T' → T' ≠ [] → ∃ v, tab s' T' v ∧ tle v (u ++ [a])
end
section
variable {E1 E2 : List Ed} {md : Str}
theorem Full.least {tab : Int → List Int → List Str → Prop} (F : Full E1 E2 md tab) {tr : List Str} {s : Int} {T : List Int} (h : Rc E1 E2 md tr s T) : ∃ u, tab s T u ∧ tle u tr := by
  induction h with
  | st h => exact ⟨[], F.st h, tle_refl _⟩
  | tau _ o e ih =>
    obtain ⟨u, h1, h2⟩ := ih
    obtain ⟨v, g1, g2⟩ := F.tau h1 o e
    exact ⟨v, g1, tle_trans g2 h2⟩
  | vis _ o e na c ne ih =>
    obtain ⟨u, h1, h2⟩ := ih
    obtain ⟨v, g1, g2⟩ := F.vis h1 o e na c ne
    exact ⟨v, g1, tle_trans g2 (tle_snoc h2 _)⟩
/-- the order of behaviours -/
def kLt (b c : Bh) : Prop := tlt b.tr c.tr ∨ (b.tr = c.tr ∧ (b.k < c.k ∨ (b.k = c.k ∧ tlt b.of c.of)))
theorem kLt_irrefl (b : Bh) : ¬ kLt b b := by
  rintro (h | ⟨_, h | ⟨_, h⟩⟩)
  · exact tlt_irrefl _ h
  · exact Nat.lt_irrefl _ h
  · exact tlt_irrefl _ h
theorem kLt_trans {a b c : Bh} (h : kLt a b) (g : kLt b c) : kLt a c := by
  rcases h with h | ⟨h1, h⟩
  · rcases g with g | ⟨g1, _⟩
    · exact .inl (tlt_trans h g)
    · exact .inl (by rw [← g1]; exact h)
  · rcases g with g | ⟨g1, g⟩
    · exact .inl (by rw [h1]; exact g)
    · refine .inr ⟨h1.trans g1, ?_⟩
      rcases h with h | ⟨h2, h⟩ <;> rcases g with g | ⟨g2, g⟩
      · exact .inl (Nat.lt_trans h g)
      · exact .inl (by omega)
      · exact .inl (by omega)
      · exact .inr ⟨h2.trans g2, tlt_trans h g⟩
def kLe (b c : Bh) : Prop := b = c ∨ kLt b c
theorem Bd.mono {R R' : List Str → Int → List Int → Prop} (h : ∀ {t s T}, R t s T → R' t s T) {b : Bh} (g : Bd E1 E2 md R b) : Bd E1 E2 md R' b := by
  cases g with
  | tr r o e n c => exact .tr (h r) o e n c
  | dv m r o x => exact .dv m (h r) o x
  | fl m r o x y => exact .fl m (h r) o x y
theorem Full.bd {tab : Int → List Int → List Str → Prop} (F : Full E1 E2 md tab) {b : Bh} (h : Bd E1 E2 md (Rc E1 E2 md) b) : ∃ c, Bd E1 E2 md (fun u s T => tab s T u) c ∧ kLe c b := by
  have up : ∀ {u v : List Str} {k : Nat} {o : List Str}, tle u v → kLe ⟨k, u, o⟩ ⟨k, v, o⟩ := fun h => h.elim (fun e => .inl (by rw [e])) fun h => .inr (.inl h)
  cases h with
  | tr r o e n c =>
    obtain ⟨u, h1, h2⟩ := F.least r
    exact ⟨_, .tr h1 o e n c, up (tle_snoc h2 _)⟩
  | dv m r o x =>
    obtain ⟨u, h1, h2⟩ := F.least r
    exact ⟨_, .dv m h1 o x, up h2⟩
  | fl m r o x y =>
    obtain ⟨u, h1, h2⟩ := F.least r
    exact ⟨_, .fl m h1 o x y, up h2⟩
/-- the least of what is not allowed -/
def IsMin (E1 E2 : List Ed) (md : Str) (b : Bh) : Prop := Bd E1 E2 md (Rc E1 E2 md) b ∧ ∀ c, Bd E1 E2 md (Rc E1 E2 md) c → kLe b c
theorem IsMin.uniq {b c : Bh} (h : IsMin E1 E2 md b) (g : IsMin E1 E2 md c) : b = c := by
  rcases h.2 c g.1 with e | e
  · exact e
  · rcases g.2 b h.1 with e2 | e2
    · exact e2.symm
    · exact absurd (kLt_trans e e2) (kLt_irrefl _)
theorem Full.none {tab : Int → List Int → List Str → Prop} (F : Full E1 E2 md tab) (g : ∀ c, ¬ Bd E1 E2 md (fun u s T => tab s T u) c) (c : Bh) : ¬ Bd E1 E2 md (Rc E1 E2 md) c := fun h => by
  obtain ⟨d, h1, _⟩ := F.bd h
  exact g d h1
/-- pairs as data -/
abbrev TP := Int × List Int
def tpD (p : TP) : PyData := .tuple [.int p.1, .tuple (p.2.map PyData.int)]
def ltTP (p q : TP) : Prop := PySem.W.dataLt (tpD p) (tpD q) = true
theorem ltTP_irrefl (p : TP) : ¬ ltTP p p := by
  unfold ltTP
  rw [show PySem.W.dataLt (tpD p) (tpD p) = false from (PyProof.Rows.listOrd PyProof.Rows.itemOrd).irrefl (PySem.W.keyToks (tpD p))]
  decide
theorem ltTP_trans {p q r : TP} (h : ltTP p q) (g : ltTP q r) : ltTP p r := (PyProof.Rows.listOrd PyProof.Rows.itemOrd).trans (PySem.W.keyToks (tpD p)) (PySem.W.keyToks (tpD q)) (PySem.W.keyToks (tpD r)) h g
theorem ascTP {l m : List TP} (hl : l.Pairwise ltTP) (hm : m.Pairwise ltTP) (h : ∀ x, x ∈ l ↔ x ∈ m) : l = m := asc_unique ltTP_irrefl (fun _ _ _ => ltTP_trans) hl hm h
def bhD (b : Bh) : PyData := if b.k < 2 then .tuple [.str (kdS b.k), rowD b.tr] else .tuple [.str (kdS b.k), rowD b.tr, rowD b.of]
/-- the answer -/
def IsAns (E1 E2 : List Ed) (md : Str) (d : PyData) : Prop :=
  ((∀ b, ¬ Bd E1 E2 md (Rc E1 E2 md) b) ∧ ∃ L : List TP, L.Pairwise ltTP ∧ (∀ p, p ∈ L ↔ ∃ u, Rc E1 E2 md u p.1 p.2) ∧ d = .tuple [.str "yes", .list (L.map tpD)]) ∨
  ∃ b, IsMin E1 E2 md b ∧ d = .tuple [.str "no", bhD b]
theorem IsAns.uniq {d e : PyData} (h : IsAns E1 E2 md d) (g : IsAns E1 E2 md e) : d = e := by
  rcases h with ⟨h1, L, h2, h3, rfl⟩ | ⟨b, h1, rfl⟩ <;> rcases g with ⟨g1, M, g2, g3, rfl⟩ | ⟨c, g1, rfl⟩
  · rw [ascTP h2 g2 fun p => (h3 p).trans (g3 p).symm]
  · exact absurd g1.1 (h1 c)
  · exact absurd h1.1 (g1 b)
  · rw [h1.uniq g1]
end
/-! sorted rows of data -/
theorem lt_irr (d : PyData) : PySem.W.dataLt d d = false := (PyProof.Rows.listOrd PyProof.Rows.itemOrd).irrefl (PySem.W.keyToks d)
theorem lt_trans' {a b c : PyData} (h : PySem.W.dataLt a b = true) (g : PySem.W.dataLt b c = true) : PySem.W.dataLt a c = true :=
  (PyProof.Rows.listOrd PyProof.Rows.itemOrd).trans (PySem.W.keyToks a) (PySem.W.keyToks b) (PySem.W.keyToks c) h g
theorem lt_total {a b : PyData} (h : PySem.W.dataLt a b = false) (g : PySem.W.dataLt b a = false) : PySem.W.keyToks a = PySem.W.keyToks b :=
  (PyProof.Rows.listOrd PyProof.Rows.itemOrd).total (PySem.W.keyToks a) (PySem.W.keyToks b) h g
theorem sorted_pw {β : Type} (enc : β → PyData) (L : List β) : (L.mergeSort (PySem.W.dataLe false enc)).Pairwise (fun a b => PySem.W.dataLt (enc b) (enc a) = false) := by
  have hle : ∀ a b, PySem.W.dataLe false enc a b = !(PySem.W.dataLt (enc b) (enc a)) := fun a b => rfl
  have tot : ∀ a b, (PySem.W.dataLe false enc a b || PySem.W.dataLe false enc b a) = true := fun a b => by
    rw [hle, hle, Bool.or_eq_true, Bool.not_eq_true', Bool.not_eq_true']
    cases h : PySem.W.dataLt (enc b) (enc a) with
    | false => exact .inl rfl
    | true =>
      refine .inr ?_
      cases g : PySem.W.dataLt (enc a) (enc b) with
      | false => rfl
      | true => exact absurd (lt_trans' h g) (by rw [lt_irr]; decide)
  have trn : ∀ a b c, PySem.W.dataLe false enc a b = true → PySem.W.dataLe false enc b c = true → PySem.W.dataLe false enc a c = true := fun a b c h g => by
    rw [hle, Bool.not_eq_true'] at *
    cases z : PySem.W.dataLt (enc c) (enc a) with
    | false => rfl
    | true =>
      cases y : PySem.W.dataLt (enc a) (enc b) with
      | false =>
        have e := lt_total y h
        unfold PySem.W.dataLt at z g
        rw [e] at z
        rw [z] at g
        cases g
      | true => exact absurd (lt_trans' z y) (by rw [g]; decide)
  exact (List.pairwise_mergeSort trn tot L).imp fun {a b} h => by
    rw [hle, Bool.not_eq_true'] at h
    exact h
end LW

set_option Elab.async false
set_option linter.all false
set_option maxRecDepth 100000
set_option maxHeartbeats 400000
namespace LW
open PySem PySem.Spec PyProof.Rows L2 LamX NdefX VB VM VP VE VX VQ VZ VD
/-! places in the order of their traces -/
section
variable {α : Type}
/-- a place is reached along a trace -/
inductive Rp (mv : α → List (Str × α)) (z : α) : List Str → α → Prop
  | st : Rp mv z [] z
  | tau {u : List Str} {p q : α} : Rp mv z u p → (("tau" : Str), q) ∈ mv p → Rp mv z u q
  | vis {u : List Str} {p q : α} {a : Str} : Rp mv z u p → (a, q) ∈ mv p → a ≠ ("tau" : Str) → Rp mv z (u ++ [a]) q
/-- silent chains lead there -/
inductive Rts (mv : α → List (Str × α)) (S : List α) : α → Prop
  | base {p : α} : p ∈ S → Rts mv S p
  | step {p q : α} : Rts mv S p → (("tau" : Str), q) ∈ mv p → Rts mv S q
structure XQ (α : Type) where
  tr : List Str
  pl : List α
/-- new places: those of S and what silent chains lead to, without those of F -/
structure NewP (mv : α → List (Str × α)) (S F N : List α) : Prop where
  nd : (F ++ N).Nodup
  base : ∀ p ∈ S, p ∈ F ∨ p ∈ N
  tau : ∀ p ∈ N, ∀ q, (("tau" : Str), q) ∈ mv p → q ∈ F ∨ q ∈ N
  from_ : ∀ p ∈ N, Rts mv S p
variable (mv : α → List (Str × α)) (z : α)
def VisQ (XL : List (XQ α)) (x : XQ α) (a : Str) : Prop := ∀ p ∈ x.pl, ∀ q, (a, q) ∈ mv p → a ≠ ("tau" : Str) → ∃ y ∈ XL, q ∈ y.pl ∧ tle y.tr (x.tr ++ [a])
structure QInv (XL : List (XQ α)) (at_ : Nat) (D : Str → Prop) : Prop where
  asc : XL.Pairwise fun x y => tlt x.tr y.tr
  sound : ∀ x ∈ XL, ∀ p ∈ x.pl, Rp mv z x.tr p
  tau : ∀ x ∈ XL, ∀ p ∈ x.pl, ∀ q, (("tau" : Str), q) ∈ mv p → ∃ y ∈ XL, q ∈ y.pl ∧ tle y.tr x.tr
  vis : ∀ i x, XL[i]? = some x → i < at_ → ∀ a, VisQ mv XL x a
  now : ∀ x, XL[at_]? = some x → ∀ a, D a → VisQ mv XL x a
  st : ∃ y ∈ XL, z ∈ y.pl ∧ y.tr = []
  ord : ∀ y ∈ XL, y.tr = [] ∨ ∃ b w a, XL[b]? = some w ∧ y.tr = w.tr ++ [a] ∧ (b < at_ ∨ (b = at_ ∧ D a))
  nd : (XL.flatMap (·.pl)).Nodup
  ne : ∀ x ∈ XL, x.pl ≠ []
/-- no trace before this one, and this one, leads to what is sought -/
def Lst (right : α → Prop) (u : List Str) : Prop := (∃ p, Rp mv z u p ∧ right p) ∧ ∀ v, (∃ p, Rp mv z v p ∧ right p) → tle u v
end
section
variable {α : Type} {mv : α → List (Str × α)} {z : α} {XL : List (XQ α)} {at_ : Nat} {D : Str → Prop}
theorem VisQ.mono {XL' : List (XQ α)} {x : XQ α} {a : Str} (h : VisQ mv XL x a) (sub : ∀ y ∈ XL, y ∈ XL') : VisQ mv XL' x a := fun p hp q hq na => by
  obtain ⟨y, hy, r⟩ := h p hp q hq na
  exact ⟨y, sub y hy, r⟩
theorem QInv.next (I : QInv mv z XL at_ D) (h : ∀ x, XL[at_]? = some x → ∀ a, ¬ D a → VisQ mv XL x a) : QInv mv z XL (at_ + 1) fun _ => False := by
  refine ⟨I.asc, I.sound, I.tau, fun i x hx l a => ?_, fun _ _ _ h => h.elim, I.st, fun y hy => ?_, I.nd, I.ne⟩
  · by_cases e : i < at_
    · exact I.vis i x hx e a
    · obtain rfl : i = at_ := by omega
      by_cases d : D a
      · exact I.now x hx a d
      · exact h x hx a d
  · rcases I.ord y hy with z | ⟨b, w, a, h1, h2, h3⟩
    · exact .inl z
    · exact .inr ⟨b, w, a, h1, h2, .inl (by omega)⟩
theorem QInv.less (I : QInv mv z XL at_ D) {x : XQ α} (hx : XL[at_]? = some x) {a : Str} (ha : ∀ d, D d → sLt d a) : ∀ y ∈ XL, tlt y.tr (x.tr ++ [a]) := fun y hy => by
  rcases I.ord y hy with e | ⟨b, w, d, h1, h2, h3⟩
  · rw [e]
    exact .inl (by rw [List.length_append, List.length_singleton]; exact Nat.succ_pos _)
  · rw [h2]
    rcases h3 with h3 | ⟨rfl, h3⟩
    · refine tlt_snoc2 ?_
      obtain ⟨l1, e1⟩ := List.getElem?_eq_some_iff.mp h1
      obtain ⟨l2, e2⟩ := List.getElem?_eq_some_iff.mp hx
      have := List.pairwise_iff_getElem.mp I.asc b at_ l1 l2 h3
      rw [e1, e2] at this
      exact this
    · rw [hx] at h1
      obtain rfl := Option.some.inj h1
      exact tlt_snoc (ha d h3) _
theorem rp_tau {u : List Str} {S : List α} (h : ∀ p ∈ S, Rp mv z u p) {q : α} (r : Rts mv S q) : Rp mv z u q := by
  induction r with
  | base h' => exact h _ h'
  | step _ e ih => exact .tau ih e
/-- the first group -/
theorem QInv.first {N : List α} (h : NewP mv [z] [] N) : QInv mv z [⟨[], N⟩] 0 fun _ => False := by
  have zin : z ∈ N := (h.base z (List.mem_singleton.mpr rfl)).resolve_left List.not_mem_nil
  refine ⟨List.pairwise_singleton _ _, fun y hy p hp => ?_, fun y hy p hp q hq => ?_, fun i y _ l => absurd l (Nat.not_lt_zero _), fun _ _ _ h => h.elim, ⟨_, List.mem_singleton.mpr rfl, zin, rfl⟩, fun y hy => ?_, ?_, fun y hy => ?_⟩
  · rw [List.mem_singleton.mp hy] at hp ⊢
    exact rp_tau (fun p hp => by rw [List.mem_singleton.mp hp]; exact .st) (h.from_ p hp)
  · rw [List.mem_singleton.mp hy] at hp ⊢
    exact ⟨_, List.mem_singleton.mpr rfl, (h.tau p hp q hq).resolve_left List.not_mem_nil, tle_refl _⟩
  · rw [List.mem_singleton.mp hy]; exact .inl rfl
  · have := h.nd
    simpa using this
  · rw [List.mem_singleton.mp hy]; exact List.ne_nil_of_mem zin
/-- what follows with one more action -/
theorem QInv.add (I : QInv mv z XL at_ D) {x : XQ α} (hx : XL[at_]? = some x) {a : Str} (ha : ∀ d, D d → sLt d a) (na : a ≠ ("tau" : Str)) {S F N : List α} (hS : ∀ q, q ∈ S ↔ ∃ p ∈ x.pl, (a, q) ∈ mv p) (hF : F = XL.flatMap (·.pl)) (h : NewP mv S F N) :
    QInv mv z (if N = [] then XL else XL ++ [⟨x.tr ++ [a], N⟩]) at_ fun d => D d ∨ d = a := by
  have la := (List.getElem?_eq_some_iff.mp hx).1
  have less := I.less hx ha
  obtain ⟨XL', eX⟩ : ∃ XL', XL' = (if N = [] then XL else XL ++ [⟨x.tr ++ [a], N⟩]) := ⟨_, rfl⟩
  rw [← eX]
  have mem : ∀ y, y ∈ XL' ↔ y ∈ XL ∨ (N ≠ [] ∧ y = ⟨x.tr ++ [a], N⟩) := fun y => by
    rw [eX]
    by_cases e : N = []
    · rw [if_pos e]; exact ⟨.inl, fun h => h.elim id fun h => absurd e h.1⟩
    · rw [if_neg e, List.mem_append, List.mem_singleton]; exact ⟨fun h => h.imp id fun h => ⟨e, h⟩, fun h => h.imp id fun h => h.2⟩
  have old : ∀ i, i ≤ at_ → XL'[i]? = XL[i]? := fun i h => by
    rw [eX]
    by_cases e : N = []
    · rw [if_pos e]
    · rw [if_neg e]; exact List.getElem?_append_left (by omega)
  have sub : ∀ y ∈ XL, y ∈ XL' := fun y h => (mem y).2 (.inl h)
  have xin := List.mem_of_getElem? hx
  have here : ∀ q, (q ∈ F ∨ q ∈ N) → ∃ y ∈ XL', q ∈ y.pl ∧ tle y.tr (x.tr ++ [a]) := fun q h => by
    rcases h with h | h
    · rw [hF] at h
      obtain ⟨y, h1, h2⟩ := List.mem_flatMap.mp h
      exact ⟨y, sub y h1, h2, .inr (less y h1)⟩
    · exact ⟨_, (mem _).2 (.inr ⟨List.ne_nil_of_mem h, rfl⟩), h, tle_refl _⟩
  refine ⟨?_, fun y hy p hp => ?_, fun y hy p hp q hq => ?_, fun i y hy l d => ?_, fun y hy d hd => ?_, ?_, fun y hy => ?_, ?_, fun y hy => ?_⟩
  · rw [eX]
    by_cases e : N = []
    · rw [if_pos e]; exact I.asc
    · rw [if_neg e, List.pairwise_append]
      exact ⟨I.asc, List.pairwise_singleton _ _, fun y hy w hw => by rw [List.mem_singleton.mp hw]; exact less y hy⟩
  · rcases (mem y).1 hy with w | ⟨_, rfl⟩
    · exact I.sound y w p hp
    · refine rp_tau (fun t ht => ?_) (h.from_ p hp)
      obtain ⟨s, hs, e⟩ := (hS t).1 ht
      exact .vis (I.sound x xin s hs) e na
  · rcases (mem y).1 hy with w | ⟨_, rfl⟩
    · obtain ⟨v, hv, r⟩ := I.tau y w p hp q hq
      exact ⟨v, sub v hv, r⟩
    · exact here q (h.tau p hp q hq)
  · rw [old i (by omega)] at hy
    exact (I.vis i y hy l d).mono sub
  · rw [old _ (Nat.le_refl _), hx] at hy
    obtain rfl := Option.some.inj hy
    rcases hd with hd | rfl
    · exact (I.now x hx d hd).mono sub
    · exact fun p hp q hq _ => here q (h.base q ((hS q).2 ⟨p, hp, hq⟩))
  · obtain ⟨y, hy, r⟩ := I.st
    exact ⟨y, sub y hy, r⟩
  · rcases (mem y).1 hy with w | ⟨_, rfl⟩
    · rcases I.ord y w with e | ⟨b, v, d, h1, h2, h3⟩
      · exact .inl e
      · exact .inr ⟨b, v, d, by rw [old b (by omega)]; exact h1, h2, h3.imp id fun h => ⟨h.1, .inl h.2⟩⟩
    · exact .inr ⟨at_, x, a, by rw [old _ (Nat.le_refl _)]; exact hx, rfl, .inr ⟨rfl, .inr rfl⟩⟩
  · rw [eX]
    by_cases e : N = []
    · rw [if_pos e]; exact I.nd
    · rw [if_neg e, List.flatMap_append, List.flatMap_singleton, ← hF]; exact h.nd
  · rcases (mem y).1 hy with w | ⟨e, rfl⟩
    · exact I.ne y w
    · exact e
/-- there are no more groups than places -/
theorem QInv.len (I : QInv mv z XL at_ D) : XL.length ≤ (XL.flatMap (·.pl)).length := by
  have ne := I.ne
  clear I
  induction XL with
  | nil => exact Nat.zero_le _
  | cons x XL ih =>
    rw [List.flatMap_cons, List.length_append, List.length_cons]
    have a := ih fun y hy => ne y (List.mem_cons_of_mem _ hy)
    have b := List.length_pos_iff.mpr (ne x List.mem_cons_self)
    omega
/-- along a trace, while groups are smaller, each place is found before -/
theorem QInv.reach (I : QInv mv z XL at_ D) {x : XQ α} (hx : XL[at_]? = some x) {v : List Str} {p : α} (r : Rp mv z v p) (lt : tlt v x.tr) : ∃ i y, XL[i]? = some y ∧ i < at_ ∧ p ∈ y.pl ∧ tle y.tr v := by
  have pos : ∀ y ∈ XL, tlt y.tr x.tr → ∃ i, XL[i]? = some y ∧ i < at_ := fun y hy l => by
    obtain ⟨i, hi⟩ := List.getElem?_of_mem hy
    refine ⟨i, hi, ?_⟩
    by_cases c : i < at_
    · exact c
    obtain ⟨l1, e1⟩ := List.getElem?_eq_some_iff.mp hi
    obtain ⟨l2, e2⟩ := List.getElem?_eq_some_iff.mp hx
    by_cases c2 : i = at_
    · subst c2
      rw [hx] at hi
      obtain rfl := Option.some.inj hi
      exact absurd l (tlt_irrefl _)
    · have := List.pairwise_iff_getElem.mp I.asc at_ i l2 l1 (by omega)
      rw [e1, e2] at this
      exact absurd (tlt_trans this l) (tlt_irrefl _)
  induction r with
  | st =>
    obtain ⟨y, hy, hz, e⟩ := I.st
    obtain ⟨i, h1, h2⟩ := pos y hy (by rw [e]; exact lt)
    exact ⟨i, y, h1, h2, hz, .inl e⟩
  | tau _ e ih =>
    obtain ⟨i, y, h1, h2, h3, h4⟩ := ih lt
    obtain ⟨w, hw, h5, h6⟩ := I.tau y (List.mem_of_getElem? h1) _ h3 _ e
    have h7 := tle_trans h6 h4
    obtain ⟨j, g1, g2⟩ := pos w hw (tle_lt h7 lt)
    exact ⟨j, w, g1, g2, h5, h7⟩
  | vis _ e na ih =>
    obtain ⟨i, y, h1, h2, h3, h4⟩ := ih (tlt_trans (tlt_self _ _) lt)
    obtain ⟨w, hw, h5, h6⟩ := I.vis i y h1 h2 _ _ h3 _ e na
    have h7 := tle_trans h6 (tle_snoc h4 _)
    obtain ⟨j, g1, g2⟩ := pos w hw (tle_lt h7 lt)
    exact ⟨j, w, g1, g2, h5, h7⟩
theorem QInv.least (I : QInv mv z XL at_ D) {x : XQ α} (hx : XL[at_]? = some x) {right : α → Prop} (h : ∀ i y, XL[i]? = some y → i < at_ → ∀ p ∈ y.pl, ¬ right p) (g : ∃ p ∈ x.pl, right p) : Lst mv z right x.tr := by
  refine ⟨?_, fun v ⟨p, r, rp⟩ => tle_of_not fun lt => ?_⟩
  · obtain ⟨p, hp, r⟩ := g
    exact ⟨p, I.sound x (List.mem_of_getElem? hx) p hp, r⟩
  · obtain ⟨i, y, h1, h2, h3, _⟩ := I.reach hx r lt
    exact h i y h1 h2 p h3 rp
theorem QInv.all (I : QInv mv z XL XL.length D) {v : List Str} {p : α} (r : Rp mv z v p) : ∃ y ∈ XL, p ∈ y.pl := by
  induction r with
  | st =>
    obtain ⟨y, hy, hz, _⟩ := I.st
    exact ⟨y, hy, hz⟩
  | tau _ e ih =>
    obtain ⟨y, h1, h2⟩ := ih
    obtain ⟨w, hw, h3, _⟩ := I.tau y h1 _ h2 _ e
    exact ⟨w, hw, h3⟩
  | vis _ e na ih =>
    obtain ⟨y, h1, h2⟩ := ih
    obtain ⟨i, hi⟩ := List.getElem?_of_mem h1
    obtain ⟨w, hw, h3, _⟩ := I.vis i y hi (List.getElem?_eq_some_iff.mp hi).1 _ _ h2 _ e na
    exact ⟨w, hw, h3⟩
theorem QInv.none_ (I : QInv mv z XL XL.length D) {right : α → Prop} (h : ∀ y ∈ XL, ∀ p ∈ y.pl, ¬ right p) : ∀ v p, Rp mv z v p → ¬ right p := fun v p r rp => by
  obtain ⟨y, hy, hp⟩ := I.all r
  exact h y hy p hp rp
theorem Lst.uniq {right : α → Prop} {u v : List Str} (h : Lst mv z right u) (g : Lst mv z right v) : u = v := tle_anti (h.2 _ g.1) (g.2 _ h.1)
end
end LW

set_option Elab.async false
set_option linter.all false
set_option maxRecDepth 100000
set_option maxHeartbeats 400000
namespace LW
open PySem PySem.Spec PyProof.Rows L2 LamX NdefX VB VM VP VE VX VQ VZ
namespace MG
abbrev s_targets_by_action : Stmt := top 21
theorem sc_targets_by_action : FnScope ["places", "edges_of", "targets", "place", "action", "target"] ["places", "edges_of"] (defScope s_targets_by_action) := ⟨rfl, rfl, rfl, by decide +kernel, rfl, by decide +kernel, by decide +kernel⟩
section
variable {α : Type}
/-- the targets behind an action -/
def tgG (R : List (Str × (V × α))) (a : Str) : List (V × α) := (R.filter fun p => decide (p.1 = a)).map (·.2)
theorem tgG_snoc (R : List (Str × (V × α))) (p : Str × (V × α)) (a : Str) : tgG (R ++ [p]) a = if p.1 = a then tgG R a ++ [p.2] else tgG R a := by
  unfold tgG
  rw [List.filter_append]
  by_cases h : p.1 = a
  · rw [if_pos h, List.filter_cons, if_pos (decide_eq_true h), List.filter_nil, List.map_append] <;> rfl
  · rw [if_neg h, List.filter_cons, if_neg (by simpa using h), List.filter_nil, List.append_nil]
/-- a dict of lists by action -/
structure KTg (φ : Addr → Prop) (H : Hp) (td : Addr) (R : List (Str × (V × α))) (kvs : List (Key × V)) (ks : List Str) : Prop where
  at_ : H td = some (.dK kvs)
  keys : kvs.map (·.1) = ks.map Sum.inr
  nd : ks.Nodup
  val : ∀ a ∈ ks, ∃ b, valV kvs (.inr a) = some (.ref b) ∧ H b = some (.lst ((tgG R a).map Prod.fst)) ∧ φ b
  mem : ∀ a, a ∈ ks ↔ a ≠ ("tau" : Str) ∧ tgG R a ≠ []
  inj : ∀ a a' b, valV kvs (.inr a) = some (.ref b) → valV kvs (.inr a') = some (.ref b) → a = a'
theorem valV_keysG {kvs : List (Key × V)} {ks : List Str} (h : kvs.map (·.1) = ks.map Sum.inr) {a : Str} (n : a ∉ ks) : valV kvs (.inr a) = none := by
  unfold valV
  rw [Option.map_eq_none_iff, List.find?_eq_none]
  intro p hp z
  have e : p.1 = Sum.inr a := of_decide_eq_true z
  have q := List.mem_map_of_mem (f := (·.1)) hp
  rw [h] at q
  obtain ⟨x, hx, ex⟩ := List.mem_map.mp q
  have : x = a := Sum.inr.inj (ex.trans e)
  exact n (this ▸ hx)
theorem KTg.none_ {φ : Addr → Prop} {H : Hp} {td : Addr} {R : List (Str × (V × α))} {kvs : List (Key × V)} {ks : List Str} (T : KTg φ H td R kvs ks) {a : Str} (n : a ∉ ks) : valV kvs (.inr a) = none := valV_keysG T.keys n
theorem KTg.tgnil {φ : Addr → Prop} {H : Hp} {td : Addr} {R : List (Str × (V × α))} {kvs : List (Key × V)} {ks : List Str} (T : KTg φ H td R kvs ks) {a : Str} (n : a ∉ ks) (nt : a ≠ ("tau" : Str)) : tgG R a = [] := Classical.byContradiction fun z => n ((T.mem a).2 ⟨nt, z⟩)
theorem KTg.mono {φ ψ : Addr → Prop} {H H' : Hp} {td : Addr} {R : List (Str × (V × α))} {kvs : List (Key × V)} {ks : List Str} (T : KTg φ H td R kvs ks) (hd : H' td = H td) (h : ∀ b xs, H b = some (.lst xs) → φ b → H' b = some (.lst xs) ∧ ψ b) : KTg ψ H' td R kvs ks :=
  ⟨hd.trans T.at_, T.keys, T.nd, fun a ha => by
    obtain ⟨b, h1, h2, h3⟩ := T.val a ha
    exact ⟨b, h1, (h b _ h2 h3).1, (h b _ h2 h3).2⟩, T.mem, T.inj⟩
theorem KTg.same {φ : Addr → Prop} {H H' : Hp} {td : Addr} {R : List (Str × (V × α))} {kvs : List (Key × V)} {ks : List Str} (T : KTg φ H td R kvs ks) (s : Same H H') : KTg φ H' td R kvs ks :=
  T.mono ((s _ _ T.at_).trans T.at_.symm) fun b xs h g => ⟨s _ _ h, g⟩
/-- silent edges are left out -/
theorem KTg.skip {φ : Addr → Prop} {H : Hp} {td : Addr} {R : List (Str × (V × α))} {kvs : List (Key × V)} {ks : List Str} (T : KTg φ H td R kvs ks) {p : Str × (V × α)} (h : p.1 = ("tau" : Str)) : KTg φ H td (R ++ [p]) kvs ks :=
  ⟨T.at_, T.keys, T.nd, fun a ha => by
    obtain ⟨b, h1, h2, h3⟩ := T.val a ha
    exact ⟨b, h1, by rw [tgG_snoc, if_neg fun e => ((T.mem a).1 ha).1 (by rw [← e, h])]; exact h2, h3⟩, fun a => by
    rw [tgG_snoc]
    by_cases e : p.1 = a
    · rw [if_pos e]
      constructor
      · exact fun z => absurd (by rw [← e, h]) ((T.mem a).1 z).1
      · exact fun z => absurd (by rw [← e, h]) z.1
    · rw [if_neg e]; exact T.mem a, T.inj⟩
/-- one more where there are some -/
theorem KTg.more {φ : Addr → Prop} {H H' : Hp} {td b : Addr} {R : List (Str × (V × α))} {kvs : List (Key × V)} {ks : List Str} (T : KTg φ H td R kvs ks) {p : Str × (V × α)} (hv : valV kvs (.inr p.1) = some (.ref b)) (hin : p.1 ∈ ks) (hd : H' td = some (.dK kvs)) (hb : H' b = some (.lst ((tgG R p.1).map Prod.fst ++ [p.2.1]))) (ho : ∀ c xs, c ≠ b → H c = some (.lst xs) → H' c = some (.lst xs)) : KTg φ H' td (R ++ [p]) kvs ks := by
  refine ⟨hd, T.keys, T.nd, fun a ha => ?_, fun a => ?_, T.inj⟩
  · obtain ⟨c, h1, h2, h3⟩ := T.val a ha
    refine ⟨c, h1, ?_, h3⟩
    rw [tgG_snoc]
    by_cases e : p.1 = a
    · rw [if_pos e, ← e]
      have : c = b := by rw [← e, hv] at h1; injection (Option.some.inj h1) with h1; exact h1.symm
      rw [this, hb, List.map_append] <;> rfl
    · rw [if_neg e]
      exact ho c _ (fun z => e (T.inj _ _ b hv (by rw [← z]; exact h1))) h2
  · rw [tgG_snoc]
    by_cases e : p.1 = a
    · rw [if_pos e]
      rw [← e]
      exact ⟨fun z => ⟨((T.mem _).1 z).1, by simp⟩, fun _ => hin⟩
    · rw [if_neg e]; exact T.mem a
/-- the first one -/
theorem KTg.new {φ : Addr → Prop} {H H' : Hp} {td b : Addr} {R : List (Str × (V × α))} {kvs : List (Key × V)} {ks : List Str} (T : KTg φ H td R kvs ks) {p : Str × (V × α)} (hin : p.1 ∉ ks) (nt : p.1 ≠ ("tau" : Str)) (hd : H' td = some (.dK (putK kvs (.inr p.1) (.ref b)))) (nb : H b = none) (fb : φ b) (hb : H' b = some (.lst [p.2.1])) (ho : ∀ c xs, c ≠ b → H c = some (.lst xs) → H' c = some (.lst xs)) : KTg φ H' td (R ++ [p]) (putK kvs (.inr p.1) (.ref b)) (ks ++ [p.1]) := by
  have nv := T.none_ hin
  have e0 := T.tgnil hin nt
  have ek : putK kvs (.inr p.1) (V.ref b) = kvs ++ [(.inr p.1, .ref b)] := putK_new (.ref b) nv
  have other : ∀ a, a ≠ p.1 → valV (putK kvs (.inr p.1) (V.ref b)) (.inr a) = valV kvs (.inr a) := fun a h => by rw [valV_put, if_neg fun z => h (Sum.inr.inj z)]
  have own : valV (putK kvs (.inr p.1) (V.ref b)) (.inr p.1) = some (.ref b) := by rw [valV_put, if_pos rfl]
  have fresh : ∀ a, valV kvs (.inr a) ≠ some (.ref b) := fun a z => by
    by_cases h : a ∈ ks
    · obtain ⟨c, h1, h2, _⟩ := T.val a h
      rw [z] at h1
      injection (Option.some.inj h1) with h1
      rw [← h1, nb] at h2
      cases h2
    · rw [T.none_ h] at z; cases z
  refine ⟨hd, by rw [ek, List.map_append, T.keys, List.map_append] <;> rfl, ?_, fun a ha => ?_, fun a => ?_, fun a a' c h h' => ?_⟩
  · rw [List.nodup_append]
    exact ⟨T.nd, by simp, fun a ha c hc => by rw [List.mem_singleton.mp hc]; exact fun z => hin (by rw [← z]; exact ha)⟩
  · rcases List.mem_append.mp ha with h | h
    · have ne : a ≠ p.1 := fun z => hin (by rw [← z]; exact h)
      obtain ⟨c, h1, h2, h3⟩ := T.val a h
      refine ⟨c, by rw [other a ne]; exact h1, ?_, h3⟩
      rw [tgG_snoc, if_neg fun z => ne z.symm]
      exact ho c _ (ne_of_none h2 nb) h2
    · rw [List.mem_singleton.mp h]
      exact ⟨b, own, by rw [tgG_snoc, if_pos rfl, e0]; exact hb, fb⟩
  · rw [tgG_snoc, List.mem_append, List.mem_singleton]
    by_cases e : p.1 = a
    · rw [if_pos e, ← e]
      exact ⟨fun _ => ⟨nt, by simp⟩, fun _ => .inr rfl⟩
    · rw [if_neg e, T.mem]
      exact ⟨fun z => z.elim id fun z => absurd z.symm e, .inl⟩
  · by_cases e : a = p.1 <;> by_cases e' : a' = p.1
    · rw [e, e']
    · rw [e, own] at h
      rw [other a' e', ← Option.some.inj h] at h'
      exact absurd h' (fresh a')
    · rw [e', own] at h'
      rw [other a e, ← Option.some.inj h'] at h
      exact absurd h (fresh a)
    · rw [other a e] at h
      rw [other a' e'] at h'
      exact T.inj _ _ c h h'
theorem tgG_len (R : List (Str × (V × α))) (a : Str) : (tgG R a).length ≤ R.length := by
  unfold tgG
  rw [List.length_map]
  exact List.length_filter_le _ _
theorem tgG_mem {R : List (Str × (V × α))} {a : Str} {x : V × α} : x ∈ tgG R a ↔ (a, x) ∈ R := by
  unfold tgG
  rw [List.mem_map]
  constructor
  · rintro ⟨p, hp, rfl⟩
    obtain ⟨h1, h2⟩ := List.mem_filter.mp hp
    have : p.1 = a := of_decide_eq_true h2
    rw [← this]
    exact h1
  · exact fun h => ⟨_, List.mem_filter.mpr ⟨h, by simp⟩, rfl⟩
/-- how places stand in the heap -/
structure PK (α : Type) where
  val : Hp → α → V → Prop
  fnd : Hp → Addr → List α → Prop
  vkp : ∀ {H H' : Hp} {p : α} {v : V}, val H p v → Kp H H' → val H' p v
  fkp : ∀ {H H' : Hp} {d : Addr} {L : List α}, fnd H d L → Kp H H' → H' d = H d → fnd H' d L
  obj : ∀ {H : Hp} {d : Addr} {L : List α}, fnd H d L → ∃ o, H d = some o ∧ (∀ xs, o ≠ .lst xs) ∧ ∀ xs, o ≠ .tup xs
def Pvs (M : PK α) (H : Hp) (L : List (V × α)) : Prop := ∀ x ∈ L, M.val H x.2 x.1
theorem Pvs.kp {M : PK α} {H H' : Hp} {L : List (V × α)} (h : Pvs M H L) (k : Kp H H') : Pvs M H' L := fun x hx => M.vkp (h x hx) k
abbrev vs1 (L : List (V × α)) : List V := L.map Prod.fst
/-- rows of an action and a place -/
def Lvs (K : PySem.W.Frag) (M : PK α) (H : Hp) (L : List (Addr × (Str × (V × α)))) : Prop := ∀ x ∈ L, SqT K H x.1 [.str x.2.1, x.2.2.1] ∧ M.val H x.2.2.2 x.2.2.1
theorem Lvs.kp {K : PySem.W.Frag} {M : PK α} {H H' : Hp} {L : List (Addr × (Str × (V × α)))} (h : Lvs K M H L) (k : Kp H H') : Lvs K M H' L := fun x hx => ⟨k.sqT (h x hx).1, M.vkp (h x hx).2 k⟩
abbrev mvR (R : List (Str × (V × α))) : List (Str × α) := R.map fun x => (x.1, x.2.2)
/-- the function gives what follows a place -/
def EOf (K : PySem.W.Frag) (M : PK α) (U : List α) (mv : α → List (Str × α)) (H0 : Hp) (sp : Sp) : Prop :=
  ∀ (p : α) (v : V) (H' : Hp) (Q' : VK), p ∈ U → Same H0 H' → M.val H' p v →
    (∀ (q : Addr) (LV : List (Addr × (Str × (V × α)))) (H'' : Hp), Same H' H'' → H' q = none → H'' q = some (.lst (refs LV)) → Lvs K M H'' LV → mvR (LV.map (·.2)) = mv p → Q' (.ref q) H'') → sp [v] H' Q' C8.E0
end
section
variable {P : Program} {w : World} {K : PySem.W.Frag} {mg : Str → Option Value} {base : Heap} {α : Type}
def spTbG (P : Program) (w : World) (K : PySem.W.Frag) (mg : Str → Option Value) (base : Heap) (kf : Nat) (M : PK α) : Sp := fun vs H Q _ => ∃ (pa ef : Addr) (PL : List (V × α)) (U : List α) (mv : α → List (Str × α)) (H0 : Hp) (φ : Hp → Prop) (sp : Sp), vs = [.ref pa, .ref ef] ∧ SqL K H pa (vs1 PL) ∧ Pvs M H PL ∧ PL.length ≤ 1000 ∧ (∀ x ∈ PL, x.2 ∈ U) ∧ (∀ p, (mv p).length ≤ 1000) ∧
  Same H0 H ∧ VA.VCall P w K mg base kf ef φ sp ∧ (∀ H', Same H0 H' → φ H') ∧ EOf K M U mv H0 sp ∧
  ∀ (td : Addr) (kvs : List (Key × V)) (ks : List Str) (R : List (Str × (V × α))) (H' : Hp), Same H H' → H td = none → KTg (fun b => H b = none) H' td R kvs ks → mvR R = (PL.map (·.2)).flatMap mv → Pvs M H' (R.map (·.2)) → Q (.ref td) H'
theorem c_tbG {kf : Nat} (M : PK α) (D : Df K mg "targets_by_action" s_targets_by_action) : C8.Cal P w K mg base (kf + 1) "targets_by_action" (spTbG P w K mg base kf M) [] := by
  refine D.cal sc_targets_by_action (fun _ _ _ _ _ _ us hl => match us, hl with | [_, _], _ => rfl) (fun vs H Q E h => ?_) (fun f cdv A outer s0 H vs Q E hr h => ?_)
  · obtain ⟨_, _, _, _, _, _, _, _, rfl, _⟩ := h
    rfl
  obtain ⟨pa, ef, PL, U, mv, H0, φ, sp, rfl, hpa, hPL, lPL, pU, lmv, s00, vc, hφ, run, fin⟩ := h
  refine ⟨_, (pss_cons (ps_set (i := 2) sc_targets_by_action.nd rfl (Or.inl rfl) pe_dnewK)
    (pss_cons (ps_for PassesOwn.never rfl (pi_list (pv 0)) (pg_name (i := 3) sc_targets_by_action.nd rfl (Or.inl rfl))
      (pss_one (ps_for PassesOwn.never rfl (pi_list (VA.pe_callVal (i := 1) hr (by first | exact Nat.le_refl _ | omega) rfl (by first | exact Or.inl rfl | exact Or.inr (Or.inl rfl) | exact Or.inr (Or.inr rfl)) (pa_cons (pv 3) pa_nil))) (pg_tup rfl (pgs_cons (pg_name (i := 4) sc_targets_by_action.nd rfl (Or.inl rfl)) (pgs_cons (pg_name (i := 5) sc_targets_by_action.nd rfl (Or.inl rfl)) pgs_nil)))
        (pss_one (ps_if (pt_cmpR op_ne (pv 4) pe_str (nomark _))
          (pss_one (ps_expr (pe_bm PySem.F.plainAttrs_list PySem.F.slot_list_append PySem.F.type_list_append mt_append (pe_dsetd (pv 2) (pv 4) (pe_lst pa_nil) ⟨rfl, rfl, rfl, rfl⟩) (pa_cons (pv 5) pa_nil))))
          pss_nil)))))
    (pss_one (ps_ret (pv 2))))), ?_⟩
  have zl := sizeLine_eq
  intro td ntd
  have u1 := same_upd ntd (.dK [])
  have T1 : KTg (α := α) (fun b => H b = none) (upd H td (.dK [])) td [] [] [] := ⟨upd_same, rfl, List.nodup_nil, fun a h => absurd h List.not_mem_nil, fun a => ⟨fun h => absurd h List.not_mem_nil, fun h => absurd rfl h.2⟩, fun a a' b h => by cases h⟩
  generalize upd H td (.dK []) = H1 at u1 T1 ⊢
  refine VJ.nmS ?_
  have lks : ∀ {φ : Addr → Prop} {H : Hp} {R : List (Str × (V × α))} {kvs : List (Key × V)} {ks : List Str}, KTg φ H td R kvs ks → kvs.length ≤ R.length := fun {φ H R kvs ks} T => by
    have e := congrArg List.length T.keys
    rw [List.length_map, List.length_map] at e
    rw [e]
    have z := nd_le ks (R.map (·.1)) T.nd fun a ha => by
      obtain ⟨_, h2⟩ := (T.mem a).1 ha
      obtain ⟨x, r, e⟩ := List.exists_cons_of_ne_nil h2
      have : x ∈ tgG R a := by rw [e]; exact List.mem_cons_self
      exact List.mem_map.mpr ⟨_, tgG_mem.1 this, rfl⟩
    rw [List.length_map] at z
    exact z
  refine ⟨_, rfl, pa, rfl, ⟨_, u1.seq hpa⟩, for_list (K := K) (a := pa) (xs := vs1 PL)
    (fun i σ H' => ∃ (kvs : List (Key × V)) (ks : List Str) (R : List (Str × (V × α))) (r3 r4 r5 : Option V), σ = [some (.ref pa), some (.ref ef), some (.ref td), r3, r4, r5] ∧ Same H H' ∧ KTg (fun b => H b = none) H' td R kvs ks ∧ mvR R = ((PL.take i).map (·.2)).flatMap mv ∧ Pvs M H' (R.map (·.2)) ∧ R.length ≤ i * 1000)
    ⟨[], [], [], none, none, none, rfl, u1, T1, rfl, fun x hx => absurd hx List.not_mem_nil, Nat.le_refl _⟩ (fun i σ H' _ ⟨_, _, _, _, _, _, _, z, _⟩ => z.seq hpa) ?_ ?_⟩
  · rintro i v σ H2 hv ⟨kvs, ks, R0, r3, r4, r5, rfl, s2, T2, eR, hR, lR⟩
    rw [List.getElem?_map] at hv
    obtain ⟨s, hs, rfl⟩ := Option.map_eq_some_iff.mp hv
    have sin := List.mem_of_getElem? hs
    have lti := (List.getElem?_eq_some_iff.mp hs).1
    have tk : ((PL.take (i + 1)).map (·.2)).flatMap mv = ((PL.take i).map (·.2)).flatMap mv ++ mv s.2 := by
      rw [List.take_succ, hs, Option.toList_some, List.map_append, List.flatMap_append, List.map_singleton, List.flatMap_singleton]
    have ll := lmv s.2
    refine VJ.nm ?_
    refine ⟨ef, φ, sp, rfl, vc, hφ _ (s00.trans s2), _, rfl, hφ _ (s00.trans s2), run s.2 s.1 H2 _ (pU s sin) (s00.trans s2) (hPL.kp (Kp.of s2) s sin) fun q LP H3 s3 nq hq hLP eLP => ?_⟩
    have lLP : LP.length = (mv s.2).length := by rw [← eLP, List.length_map, List.length_map]
    have T3 := T2.mono (ψ := fun b => H b = none ∧ b ≠ q) ((s3 _ _ T2.at_).trans T2.at_.symm) fun b xs h g => ⟨s3 _ _ h, g, ne_of_none h nq⟩
    refine ⟨q, rfl, ⟨_, SqL.of hq⟩, for_list (K := K) (a := q) (xs := refs LP)
      (fun j σ H' => ∃ (kvs : List (Key × V)) (ks : List Str) (r4 r5 : Option V), σ = [some (.ref pa), some (.ref ef), some (.ref td), some s.1, r4, r5] ∧ Same H H' ∧ H' q = some (.lst (refs LP)) ∧ Lvs K M H' LP ∧ Pvs M H' (R0.map (·.2)) ∧ KTg (fun b => H b = none ∧ b ≠ q) H' td (R0 ++ (LP.map (·.2)).take j) kvs ks)
      ⟨kvs, ks, _, _, rfl, s2.trans s3, hq, hLP, hR.kp (Kp.of s3), by rw [List.take_zero, List.append_nil]; exact T3⟩ (fun j σ H' _ ⟨_, _, _, _, _, _, z, _⟩ => SqL.of z) ?_ ?_⟩
    · clear T3 T2 hq hLP s3 hR
      rintro j v σ H4 hv2 ⟨kvs, ks, r4, r5, rfl, s4, hq, hLP, hR, T4⟩
      obtain ⟨x, hx, rfl⟩ := refs_at hv2
      have xin := List.mem_of_getElem? hx
      have ltj := (List.getElem?_eq_some_iff.mp hx).1
      have hxl : (LP.map (·.2))[j]? = some x.2 := by rw [List.getElem?_map, hx] <;> rfl
      have tkj : (LP.map (·.2)).take (j + 1) = (LP.map (·.2)).take j ++ [x.2] := by rw [List.take_succ, hxl] <;> rfl
      rw [tkj, ← List.append_assoc]
      have lR2 : (R0 ++ (LP.map (·.2)).take j).length ≤ 2000000 := by
        rw [List.length_append, List.length_take]
        have : i * 1000 ≤ 1000 * 1000 := Nat.mul_le_mul (by omega) (Nat.le_refl _)
        omega
      have lk := lks T4
      have lt := tgG_len (R0 ++ (LP.map (·.2)).take j) x.2.1
      generalize R0 ++ (LP.map (·.2)).take j = R at T4 lR2 lk lt ⊢
      refine ⟨x.1, _, rfl, (hLP x xin).1, rfl, .str x.2.1, _, rfl, x.2.2.1, _, rfl, rfl, ?_⟩
      refine ⟨_, rfl, rfl, _, rfl, VUt.ite2b (fun c => ?_) (fun c => ?_)⟩
      · have nt : x.2.1 ≠ ("tau" : Str) := by simpa using c
        refine ⟨_, rfl, td, rfl, .inl ⟨_, .inl T4.at_⟩, _, rfl, Nat.zero_le _, fun l nl => ?_⟩
        have w1 := same_upd nl (.lst [])
        have hl : upd H4 l (.lst []) l = some (.lst []) := upd_same
        have T5 := T4.same w1
        have nlH : H l = none := s4.free nl
        have lq : l ≠ q := (ne_of_none hq nl).symm
        have hq5 := w1 _ _ hq
        generalize upd H4 l (.lst []) = H5 at w1 hl T5 hq5 ⊢
        refine ⟨kvs, .inr x.2.1, T5.at_, rfl, by omega, fun v hv => ?_, fun hv => ?_⟩
        · have hin : x.2.1 ∈ ks := Classical.byContradiction fun z => by rw [T5.none_ z] at hv; cases hv
          obtain ⟨b, h1, h2, h3, h4⟩ := T5.val _ hin
          obtain rfl := Option.some.inj (hv.symm.trans h1)
          refine ⟨.inl ⟨rfl, _, SqL.of h2⟩, _, rfl, b, _, _, rfl, rfl, h2, by rw [List.length_map]; omega, ?_⟩
          have bt : td ≠ b := (ne_of h2 T5.at_ (fun z => nomatch z)).symm
          have kp : Kp H4 (upd H5 b (.lst ((tgG R x.2.1).map Prod.fst ++ [x.2.2.1]))) := (Kp.of w1).trans (Kp.updL h2 _)
          refine ⟨kvs, ks, _, _, rfl, fun c o e => ?_, by rw [upd_ne h4.symm]; exact hq5, hLP.kp kp, hR.kp kp, T5.more hv hin (by rw [upd_ne bt]; exact T5.at_) upd_same fun c xs n e => by rw [upd_ne n]; exact e⟩
          rw [upd_ne (ne_of_none e h3)]
          exact w1 _ _ (s4 _ _ e)
        · have hin : x.2.1 ∉ ks := fun z => by
            obtain ⟨b, h1, _⟩ := T5.val _ z
            rw [hv] at h1
            cases h1
          have tl : td ≠ l := ne_of T5.at_ hl (fun z => nomatch z)
          have hl6 : upd H5 td (.dK (putK kvs (.inr x.2.1) (.ref l))) l = some (.lst []) := by rw [upd_ne tl.symm]; exact hl
          refine ⟨.inl ⟨rfl, _, SqL.of hl6⟩, _, rfl, l, _, _, rfl, rfl, hl6, by show 0 < sizeLine; omega, ?_⟩
          have qd : q ≠ td := ne_of hq5 T5.at_ (fun z => nomatch z)
          have k1 : Kp H5 (upd H5 td (.dK (putK kvs (.inr x.2.1) (.ref l)))) := ⟨fun c xs q => by rw [upd_ne (ne_of q T5.at_ (fun z => nomatch z))]; exact q, fun c u v q => by rw [upd_ne (ne_of q T5.at_ (fun z => nomatch z))]; exact q⟩
          have kp := ((Kp.of w1).trans k1).trans (Kp.updL hl6 (.lst ([] ++ [x.2.2.1])))
          refine ⟨_, _, _, _, rfl, fun c o e => ?_, by rw [upd_ne lq.symm, upd_ne qd]; exact hq5, hLP.kp kp, hR.kp kp, T4.new hin nt (by rw [upd_ne tl]; exact upd_same) nl ⟨nlH, lq⟩ upd_same fun c xs n e => by
            rw [upd_ne n, upd_ne (ne_of (w1 _ _ e) T5.at_ (fun z => nomatch z))]; exact w1 _ _ e⟩
          rw [upd_ne (ne_of_none e nlH), upd_ne (ne_of_none e ntd)]
          exact w1 _ _ (s4 _ _ e)
      · have nt : x.2.1 = ("tau" : Str) := by simpa using c
        exact VJ.nxT ⟨kvs, ks, _, _, rfl, s4, hq, hLP, hR, T4.skip nt⟩
    · rintro σ H4 ⟨kvs, ks, r4, r5, rfl, s4, hq, hLP, hR, T4⟩
      have tl : (LP.map (·.2)).take (refs LP).length = LP.map (·.2) := List.take_of_length_le (by rw [refs_len, List.length_map]; exact Nat.le_refl _)
      rw [tl] at T4
      refine ⟨kvs, ks, R0 ++ LP.map (·.2), _, _, _, rfl, s4, T4.mono rfl fun b xs h g => ⟨h, g.1⟩, ?_, fun x hx => ?_, ?_⟩
      · rw [tk, ← eR, ← eLP]
        unfold mvR
        rw [List.map_append]
      · rw [List.map_append] at hx
        rcases List.mem_append.mp hx with z | z
        · exact hR x z
        · rw [List.map_map] at z
          obtain ⟨y, hy, rfl⟩ := List.mem_map.mp z
          exact (hLP y hy).2
      · rw [List.length_append, List.length_map]
        omega
  · rintro σ H2 ⟨kvs, ks, R, r3, r4, r5, rfl, s2, T2, eR, hR, lR⟩
    rw [List.length_map, List.take_length] at eR
    exact ⟨_, rfl, fin td kvs ks R H2 s2 ntd T2 eR hR⟩
end
end MG
end LW

set_option Elab.async false
set_option linter.all false
set_option maxRecDepth 100000
set_option maxHeartbeats 400000
namespace LW
open PySem PySem.Spec PyProof.Rows L2 LamX NdefX VB VM VP VE VX VQ VZ
namespace MG
section
variable {α : Type}
/-- what the program does with the dict of the places that are found -/
structure PD (M : PK α) (G : Hp → Addr → V → Option V → Prop) (Pt : Hp → Addr → V → V → Hp → Prop) : Prop where
  get : ∀ {H : Hp} {d : Addr} {F : List α} {p : α} {v : V}, M.fnd H d F → M.val H p v → ∃ o, G H d v o ∧ (o.isSome = true ↔ p ∈ F)
  put : ∀ {H : Hp} {d : Addr} {F : List α} {p : α} {v : V}, M.fnd H d F → M.val H p v → F.length < 1000000 → p ∉ F → ∀ x : V, ∃ o, Pt H d v x (upd H d o) ∧ M.fnd (upd H d o) d (F ++ [p]) ∧ Kp H (upd H d o)
end
/-- places that are numbers -/
def KI : PK Int where
  val := fun _ p v => v = .int p
  fnd := fun H d F => ∃ kvs : List (Key × V), H d = some (.dK kvs) ∧ (∀ s, (valV kvs (.inl s)).isSome = true ↔ s ∈ F) ∧ kvs.length ≤ F.length
  vkp := fun h _ => h
  fkp := fun ⟨kvs, h1, h2⟩ _ e => ⟨kvs, e.trans h1, h2⟩
  obj := fun ⟨_, h1, _⟩ => ⟨_, h1, (fun _ z => nomatch z), fun _ z => nomatch z⟩
theorem pdI : PD KI DGet DPut where
  get := fun {H d F p v} ⟨kvs, h1, h2, _⟩ e => by
    have e : v = .int p := e
    subst e
    exact ⟨_, DGet.k (k := .inl p) h1, h2 p⟩
  put := fun {H d F p v} ⟨kvs, h1, h2, h3⟩ e l n x => by
    have e : v = .int p := e
    subst e
    have zl := sizeLine_eq
    refine ⟨_, DPut.k (k := .inl p) h1 (by omega), ⟨_, upd_same, fun s => ?_, ?_⟩, ⟨fun c xs q => by rw [upd_ne (ne_of q h1 (fun z => nomatch z))]; exact q, fun c u v q => by rw [upd_ne (ne_of q h1 (fun z => nomatch z))]; exact q⟩⟩
    · rw [valV_put, List.mem_append, List.mem_singleton]
      by_cases c : s = p
      · subst c
        rw [if_pos rfl]
        exact ⟨fun _ => .inr rfl, fun _ => rfl⟩
      · rw [if_neg fun z => c (Sum.inl.inj z), h2]
        exact ⟨.inl, fun z => z.resolve_right c⟩
    · refine Nat.le_trans (length_putK _ _ _) ?_
      rw [List.length_append, List.length_singleton]
      omega
/-- places that are pairs of a number and a boolean -/
abbrev BP := Int × Bool
def nkB (p : BP) : NestedKey := .tup [.num p.1, .num (if p.2 = true then 1 else 0)]
theorem nkB_inj {p q : BP} (h : nkB p = nkB q) : p = q := by
  obtain ⟨a, b⟩ := p
  obtain ⟨c, d⟩ := q
  unfold nkB at h
  injection h with h
  injection h with h1 h2
  injection h1 with h1
  injection h2 with h2 _
  injection h2 with h2
  have h1 : a = c := h1
  subst h1
  cases b <;> cases d <;> first | rfl | simp at h2
theorem nkB_depth (p : BP) : (nkB p).depth ≤ 8 := by
  unfold nkB
  simp [NestedKey.depth, NestedKey.depthAll]
def BpAt (K : PySem.W.Frag) (H : Hp) (a : Addr) (p : BP) : Prop := SqT K H a [.int p.1, .bl p.2]
theorem BpAt.nk {K : PySem.W.Frag} {H : Hp} {a : Addr} {p : BP} (h : BpAt K H a p) : VDN.NK K H (nkB p) (.ref a) := .tup h (.cons (.int _) (.cons (.bl _) .nil))
def KB (P : Program) (w : World) (K : PySem.W.Frag) : PK BP where
  val := fun H p v => ∃ a, v = .ref a ∧ BpAt K H a p
  fnd := fun H d F => ∃ rows : List VDN.NRow, H d = some (VDN.NdO P w d rows) ∧ VDN.KeysN K H rows ∧ (∀ p, (VDN.valN rows (nkB p)).isSome = true ↔ p ∈ F) ∧ rows.length ≤ F.length
  vkp := fun ⟨a, h1, h2⟩ k => ⟨a, h1, k.sqT h2⟩
  fkp := fun ⟨rows, h1, h2, h3⟩ k e => ⟨rows, e.trans h1, h2.kp k, h3⟩
  obj := fun ⟨_, h1, _⟩ => ⟨_, h1, (fun _ z => VDN.nd_lst z.symm), fun _ z => VDN.nd_tup z.symm⟩
theorem pdB (P : Program) (w : World) (K : PySem.W.Frag) : PD (KB P w K) (VDN.NGet P w K) (VDN.NPut P w K) where
  get := fun {H d F p v} ⟨rows, h1, h2, h3, _⟩ ⟨a, e, h⟩ => by
    subst e
    exact ⟨_, ⟨rows, nkB p, a, h1, h2, rfl, h.nk, nkB_depth _, rfl⟩, h3 p⟩
  put := fun {H d F p v} ⟨rows, h1, h2, h3, h4⟩ ⟨a, e, h⟩ l n x => by
    subst e
    have zl := sizeLine_eq
    have kp := VDN.kp_nd h1 (VDN.NdO P w d (VDN.putN rows (nkB p) a x))
    refine ⟨_, ⟨rows, nkB p, a, h1, h2, rfl, h.nk, nkB_depth _, by omega, rfl⟩, ⟨_, upd_same, (h2.put x h.nk (nkB_depth _)).kp kp, fun q => ?_, ?_⟩, kp⟩
    · rw [VDN.valN_put, List.mem_append, List.mem_singleton]
      by_cases c : q = p
      · subst c
        rw [if_pos rfl]
        exact ⟨fun _ => .inr rfl, fun _ => rfl⟩
      · rw [if_neg fun z => c (nkB_inj z), h3]
        exact ⟨.inl, fun z => z.resolve_right c⟩
    · refine Nat.le_trans (VDN.putN_len _ _ _ _) ?_
      rw [List.length_append, List.length_singleton]
      omega
section
variable {P : Program} {w : World} {K : PySem.W.Frag} {mg : Str → Option Value} {base : Heap} {α : Type}
def spNp (P : Program) (w : World) (K : PySem.W.Frag) (mg : Str → Option Value) (base : Heap) (kf : Nat) (M : PK α) : Sp := fun vs H Q _ => ∃ (pa ef fd : Addr) (PL : List (V × α)) (F U : List α) (mv : α → List (Str × α)) (H0 : Hp) (φ : Hp → Prop) (sp : Sp),
  vs = [.ref pa, .ref ef, .ref fd] ∧ SqL K H pa (vs1 PL) ∧ Pvs M H PL ∧ PL.length ≤ 1000000 ∧ Same H0 H ∧ H0 fd = none ∧ M.fnd H fd F ∧ F.Nodup ∧ (∀ p ∈ F, p ∈ U) ∧ (∀ x ∈ PL, x.2 ∈ U) ∧ (∀ p ∈ U, ∀ e ∈ mv p, e.2 ∈ U) ∧ U.length ≤ 1000 ∧ (∀ p, (mv p).length ≤ 1000) ∧
  VA.VCall P w K mg base kf ef φ sp ∧ (∀ H', Same H0 H' → φ H') ∧ EOf K M U mv H0 sp ∧
  ∀ (q : Addr) (NL : List (V × α)) (H' : Hp), But fd H H' → Kp H H' → H q = none → H' q = some (.lst (vs1 NL)) → Pvs M H' NL → M.fnd H' fd (F ++ NL.map (·.2)) → NewP mv (PL.map (·.2)) F (NL.map (·.2)) → Q (.ref q) H'
end
namespace MGI
abbrev s_new_places : Stmt := top 20
theorem sc_new_places : FnScope ["places", "edges_of", "found", "new", "pending", "place", "action", "target"] ["places", "edges_of", "found"] (defScope s_new_places) := ⟨rfl, rfl, rfl, by decide +kernel, rfl, by decide +kernel, by decide +kernel⟩
section
variable {P : Program} {w : World} {K : PySem.W.Frag} {mg : Str → Option Value} {base : Heap}
theorem c_np {kf : Nat} (D : Df K mg "new_places" s_new_places) (z_list : mg "list" = none) : C8.Cal P w K mg base (kf + 1) "new_places" (spNp P w K mg base kf KI) [] := by
  refine D.cal sc_new_places (fun _ _ _ _ _ _ us hl => match us, hl with | [_, _, _], _ => rfl) (fun vs H Q E h => ?_) (fun f cdv A outer s0 H vs Q E hr h => ?_)
  · obtain ⟨_, _, _, _, _, _, _, _, _, _, rfl, _⟩ := h
    rfl
  obtain ⟨pa, ef, fd, PL, F, U, mv, H0, φ, sp, rfl, hpa, hPL, lPL, s00, n0d, hfd, ndF, fU, pU, cU, lU, lmv, vc, hφ, run, fin⟩ := h
  refine ⟨_, (pss_cons (ps_set (i := 3) sc_new_places.nd rfl (Or.inl rfl) (pe_lst pa_nil))
    (pss_cons (ps_set (i := 4) sc_new_places.nd rfl (Or.inl rfl) (pe_callTy (VK.listQ (K := K) rfl) (by rfl) z_list (by decide +kernel) (pa_cons (pv 0) pa_nil)))
    (pss_cons (ps_while PassesOwn.never (pt_truth (pv 4) (by intro _; rfl))
      (pss_cons (ps_set (i := 5) sc_new_places.nd rfl (Or.inl rfl) (pe_bm0 PySem.F.plainAttrs_list PySem.F.slot_list_pop PySem.F.type_list_pop mt_pop (pv 4)))
      (pss_one (ps_if (pt_cmp (pc_dnotin (hu_of hr) (pv 5) (pv 2)))
        (pss_cons (ps_dput (hu_of hr) (pv 2) (pv 5) pe_bl rfl)
        (pss_cons (ps_expr (pe_bm PySem.F.plainAttrs_list PySem.F.slot_list_append PySem.F.type_list_append mt_append (pv 3) (pa_cons (pv 5) pa_nil)))
        (pss_one (ps_expr (pe_bm PySem.F.plainAttrs_list PySem.F.slot_list_extend PySem.F.type_list_extend mt_extend (pv 4) (pa_cons (pe_lc (own := [("action", 6), ("target", 7)]) (g := gTup K 2 (gCons (gName 6) (gCons (gName 7) gNil))) rfl sc_new_places.nd (pi_list (VA.pe_callVal (i := 1) hr (by first | exact Nat.le_refl _ | omega) rfl (by first | exact Or.inl rfl | exact Or.inr (Or.inl rfl) | exact Or.inr (Or.inr rfl)) (pa_cons (pv 5) pa_nil))) (blkOk_by (N := ["places", "edges_of", "found", "new", "pending", "place", "action", "target"]) (sc := defScope s_new_places) (by decide +kernel)) (fun _ _ _ _ _ => (pg_tup rfl (pgs_cons (pg_name (i := 6) sc_new_places.nd rfl (Or.inl rfl) (hf := Or.inr rfl)) (pgs_cons (pg_name (i := 7) sc_new_places.nd rfl (Or.inl rfl) (hf := Or.inr rfl)) pgs_nil)))) (fun _ _ _ _ _ => (pts_one (pt_cmpR op_eq (pv 6) pe_str (nomark _)))) (fun _ _ _ _ _ => (pv 7))) pa_nil))))))
        pss_nil))))
    (pss_one (ps_ret (pv 3)))))), ?_⟩
  have zl := sizeLine_eq
  have pd := pdI
  generalize KI = M at hPL hfd run fin pd
  refine ⟨Nat.zero_le _, fun nl nnl => ?_⟩
  have u1 := same_upd nnl (.lst [])
  have hnl : upd H nl (.lst []) nl = some (.lst (vs1 ([] : List (V × Int)))) := upd_same
  generalize upd H nl (.lst []) = H1 at u1 hnl ⊢
  refine VJ.nmS ?_
  refine ⟨_, rfl, pa, _, rfl, .inl (u1.seq hpa), fun pl npl => ?_⟩
  have u2 := same_upd npl (.lst (vs1 PL))
  have hpl : upd H1 pl (.lst (vs1 PL)) pl = some (.lst (vs1 PL)) := upd_same
  have npH : H pl = none := u1.free npl
  have fpl : nl ≠ pl := ne_of_none hnl npl
  have hnl2 := u2 _ _ hnl
  have u12 := u1.trans u2
  generalize upd H1 pl (.lst (vs1 PL)) = H2 at u12 hpl hnl2 ⊢
  refine VJ.nmS ?_
  obtain ⟨fo, hfo, fo1, fo2⟩ := M.obj hfd
  have fnl : fd ≠ nl := (ne_of_none hfo nnl)
  have fpl2 : fd ≠ pl := (ne_of_none hfo npH)
  refine ⟨fun m σ H' => ∃ (stk NL : List (V × Int)) (r5 : Option V), m = (U.length - (F ++ NL.map (·.2)).length) * 1001 + stk.length ∧ σ = [some (.ref pa), some (.ref ef), some (.ref fd), some (.ref nl), some (.ref pl), r5, none, none] ∧ But fd H H' ∧ Kp H H' ∧ Same H0 H' ∧
      H' nl = some (.lst (vs1 NL)) ∧ H' pl = some (.lst (vs1 stk)) ∧ Pvs M H' NL ∧ Pvs M H' stk ∧ M.fnd H' fd (F ++ NL.map (·.2)) ∧ (F ++ NL.map (·.2)).Nodup ∧ (∀ p ∈ F ++ NL.map (·.2), p ∈ U) ∧ (∀ x ∈ stk, x.2 ∈ U) ∧
      (∀ x ∈ NL, Rts mv (PL.map (·.2)) x.2) ∧ (∀ x ∈ stk, Rts mv (PL.map (·.2)) x.2) ∧ (∀ p ∈ PL.map (·.2), p ∈ F ++ NL.map (·.2) ∨ p ∈ stk.map (·.2)) ∧
      (∀ p ∈ NL.map (·.2), ∀ q, (("tau" : Str), q) ∈ mv p → q ∈ F ++ NL.map (·.2) ∨ q ∈ stk.map (·.2)) ∧ (U.length - (F ++ NL.map (·.2)).length) * 1001 + stk.length ≤ 3000000,
    ⟨_, PL, [], none, rfl, rfl, .of u12, Kp.of u12, s00.trans u12, hnl2, hpl, fun x hx => absurd hx List.not_mem_nil, hPL.kp (Kp.of u12), by rw [List.map_nil, List.append_nil]; exact M.fkp hfd (Kp.of u12) ((u12 _ _ hfo).trans hfo.symm), by rw [List.map_nil, List.append_nil]; exact ndF, by rw [List.map_nil, List.append_nil]; exact fU, pU,
      fun x hx => absurd hx List.not_mem_nil, fun x hx => .base (List.mem_map_of_mem hx), fun p hp => .inr hp, fun p hp => absurd hp List.not_mem_nil, by rw [List.map_nil, List.append_nil]; omega⟩, ?_⟩
  clear hnl2 hpl u1 u2 hfd
  rintro m σ H3 ⟨stk, NL, r5, rfl, rfl, b3, k3, s03, hnl3, hpl3, hNL, hstk, hfd, nd, fU3, sU, rN, rK, cT, cV, bnd⟩
  have lU3 := nd_le _ _ nd fU3
  refine ⟨_, rfl, !(vs1 stk).isEmpty, .inl ⟨_, SqL.of hpl3, rfl⟩, ?_⟩
  rcases List.eq_nil_or_concat stk with rfl | ⟨r, s, rfl⟩
  · refine iteF ?_
    refine ⟨_, rfl, fin nl NL H3 b3 k3 nnl hnl3 hNL hfd ⟨nd, fun p hp => ?_, fun p hp q hq => ?_, fun p hp => ?_⟩⟩
    · rcases cT p hp with z | z
      · exact List.mem_append.mp z
      · exact absurd z List.not_mem_nil
    · rcases cV p hp q hq with z | z
      · exact List.mem_append.mp z
      · exact absurd z List.not_mem_nil
    · obtain ⟨x, hx, rfl⟩ := List.mem_map.mp hp
      exact rN x hx
  · rw [List.concat_eq_append] at *
    have e1 : (!(vs1 (r ++ [s])).isEmpty) = true := by cases r <;> rfl
    rw [e1]
    refine iteT ?_
    refine ⟨_, fun σ' H' z => z, ?_⟩
    have elast : (vs1 (r ++ [s]))[(vs1 (r ++ [s])).length - 1]? = some s.1 := by
      unfold vs1
      rw [List.map_append, List.length_append, List.map_singleton, List.length_singleton, Nat.add_sub_cancel, List.getElem?_append_right (Nat.le_refl _), Nat.sub_self] <;> rfl
    have edrop : (vs1 (r ++ [s])).dropLast = vs1 r := by unfold vs1; rw [List.map_append, List.map_singleton, List.dropLast_concat]
    have lr : (r ++ [s]).length = r.length + 1 := by rw [List.length_append, List.length_singleton]
    refine ⟨_, rfl, .inl ⟨rfl, _, SqL.of hpl3⟩, pl, _, _, rfl, rfl, hpl3, elast, ?_⟩
    rw [edrop]
    have n0p : H0 pl = none := s00.free npH
    have b4 : But fd H (upd H3 pl (.lst (vs1 r))) := fun c o n e => by rw [upd_ne (ne_of_none e npH)]; exact b3 c o n e
    have kq : Kp H3 (upd H3 pl (.lst (vs1 r))) := Kp.updL hpl3 _
    have k4 := k3.trans kq
    have s04 : Same H0 (upd H3 pl (.lst (vs1 r))) := sameIn s03 n0p
    have hnl4 : upd H3 pl (.lst (vs1 r)) nl = some (.lst (vs1 NL)) := by rw [upd_ne fpl]; exact hnl3
    have hpl4 : upd H3 pl (.lst (vs1 r)) pl = some (.lst (vs1 r)) := upd_same
    have hNL4 := hNL.kp kq
    have hstk4 := hstk.kp kq
    have hfd4 := M.fkp hfd kq (by rw [upd_ne fpl2])
    generalize upd H3 pl (.lst (vs1 r)) = H4 at b4 k4 s04 hnl4 hpl4 hNL4 hstk4 hfd4 ⊢
    clear kq hNL hstk hfd hnl3 hpl3 b3 k3 s03
    have sin : s ∈ r ++ [s] := by simp
    have hsv := hstk4 s sin
    have rs := rK s sin
    refine VJ.nmS ?_
    obtain ⟨o, go, io⟩ := pd.get hfd4 hsv
    refine ⟨_, rfl, _, rfl, fd, o, rfl, go, _, rfl, ?_⟩
    by_cases hin : s.2 ∈ F ++ NL.map (·.2)
    · rw [io.2 hin]
      refine iteF (VJ.nxT ?_)
      refine ⟨_, by rw [lr]; exact Nat.lt_succ_self _, r, NL, _, rfl, rfl, b4, k4, s04, hnl4, hpl4, hNL4, fun x hx => hstk4 x (List.mem_append_left _ hx), hfd4, nd, fU3, fun x hx => sU x (List.mem_append_left _ hx), rN, fun x hx => rK x (List.mem_append_left _ hx), fun t ht => ?_, fun p hp q hq => ?_, by omega⟩
      · rcases cT t ht with z | z
        · exact .inl z
        · rw [List.map_append] at z
          rcases List.mem_append.mp z with z | z
          · exact .inr z
          · rw [List.mem_singleton.mp z]; exact .inl hin
      · rcases cV p hp q hq with z | z
        · exact .inl z
        · rw [List.map_append] at z
          rcases List.mem_append.mp z with z | z
          · exact .inr z
          · rw [List.mem_singleton.mp z]; exact .inl hin
    · have ho : o.isSome = false := Bool.eq_false_iff.mpr fun z => hin (io.1 z)
      rw [ho]
      refine iteT ?_
      obtain ⟨oo, pt, hfd5, kq⟩ := pd.put hfd4 hsv (by omega) hin (.bl true)
      refine ⟨_, rfl, _, rfl, fd, _, rfl, pt, ?_⟩
      have b5 : But fd H (upd H4 fd oo) := fun c o n e => by rw [upd_ne n]; exact b4 c o n e
      have k5 := k4.trans kq
      have s05 : Same H0 (upd H4 fd oo) := sameIn s04 n0d
      have hnl5 : upd H4 fd oo nl = some (.lst (vs1 NL)) := by rw [upd_ne fnl.symm]; exact hnl4
      have hpl5 : upd H4 fd oo pl = some (.lst (vs1 r)) := by rw [upd_ne fpl2.symm]; exact hpl4
      have hNL5 := hNL4.kp kq
      have hstk5 := hstk4.kp kq
      generalize upd H4 fd oo = H5 at b5 k5 s05 hnl5 hpl5 hNL5 hstk5 hfd5 ⊢
      clear kq pt b4 k4 s04 hnl4 hpl4 hNL4 hstk4 hfd4 hsv go
      have nd2 : (F ++ (NL ++ [s]).map (·.2)).Nodup := by
        rw [List.map_append, ← List.append_assoc, List.nodup_append]
        exact ⟨nd, by simp, fun a ha b hb => by
          have e : b = s.2 := by simpa using hb
          rw [e]; intro e2; exact hin (by rw [← e2]; exact ha)⟩
      have e5 : F ++ NL.map (·.2) ++ [s.2] = F ++ (NL ++ [s]).map (·.2) := by rw [List.map_append, ← List.append_assoc] <;> rfl
      rw [e5] at hfd5
      have fU5 : ∀ p ∈ F ++ (NL ++ [s]).map (·.2), p ∈ U := fun p hp => by
        rw [← e5] at hp
        rcases List.mem_append.mp hp with z | z
        · exact fU3 p z
        · rw [List.mem_singleton.mp z]; exact sU s sin
      have lU5 := nd_le _ _ nd2 fU5
      have l5 : (F ++ (NL ++ [s]).map (·.2)).length = (F ++ NL.map (·.2)).length + 1 := by rw [← e5, List.length_append] <;> rfl
      have lNL : NL.length ≤ 1000 := by rw [List.length_append, List.length_map] at lU3; omega
      refine ⟨_, rfl, .inl ⟨rfl, _, SqL.of hnl5⟩, _, rfl, nl, _, _, rfl, rfl, hnl5, by rw [List.length_map]; omega, ?_⟩
      have kq := Kp.updL hnl5 (.lst (vs1 NL ++ [s.1]))
      have b6 : But fd H (upd H5 nl (.lst (vs1 NL ++ [s.1]))) := fun c o n e => by rw [upd_ne (ne_of_none e nnl)]; exact b5 c o n e
      have k6 := k5.trans kq
      have s06 : Same H0 (upd H5 nl (.lst (vs1 NL ++ [s.1]))) := sameIn s05 (s00.free nnl)
      have hnl6 : upd H5 nl (.lst (vs1 NL ++ [s.1])) nl = some (.lst (vs1 (NL ++ [s]))) := by rw [upd_same]; unfold vs1; rw [List.map_append] <;> rfl
      have hpl6 : upd H5 nl (.lst (vs1 NL ++ [s.1])) pl = some (.lst (vs1 r)) := by rw [upd_ne fpl.symm]; exact hpl5
      have hfd6 := M.fkp hfd5 kq (by rw [upd_ne fnl])
      have hNL6 : Pvs M (upd H5 nl (.lst (vs1 NL ++ [s.1]))) (NL ++ [s]) := fun x hx => by
        rcases List.mem_append.mp hx with z | z
        · exact hNL5.kp kq x z
        · rw [List.mem_singleton.mp z]; exact hstk5.kp kq s sin
      have hstk6 := hstk5.kp kq
      generalize upd H5 nl (.lst (vs1 NL ++ [s.1])) = H6 at b6 k6 s06 hnl6 hpl6 hfd6 hNL6 hstk6 ⊢
      clear kq b5 k5 s05 hnl5 hpl5 hfd5 hNL5 hstk5
      refine ⟨_, rfl, .inl ⟨rfl, _, SqL.of hpl6⟩, ?_⟩
      refine ⟨ef, φ, sp, rfl, vc, hφ _ s06, _, rfl, hφ _ s06, run s.2 s.1 H6 _ (sU s sin) s06 (hstk6 s sin) fun q LP H7 s7 nq hq hLP eLP => ?_⟩
      have lLP : LP.length = (mv s.2).length := by rw [← eLP, List.length_map, List.length_map]
      have lmS := lmv s.2
      refine ⟨q, rfl, ⟨_, SqL.of hq⟩, fun D1 nD => ?_⟩
      refine lc_list (K := K) (a := q) (xs := refs LP) (fun j H2 => Same H7 H2 ∧ ∃ TL : List (V × Int), H2 D1 = some (.lst (vs1 TL)) ∧ (∀ x ∈ TL, x ∈ LP.map (·.2.2)) ∧ (∀ y ∈ (LP.take j), y.2.1 = ("tau" : Str) → y.2.2 ∈ TL) ∧ (∀ x ∈ TL, (("tau" : Str), x) ∈ LP.map (·.2)) ∧ TL.length ≤ j)
        ⟨same_upd nD _, [], upd_same, fun x hx => absurd hx List.not_mem_nil, fun y hy => by rw [List.take_zero] at hy; exact absurd hy List.not_mem_nil, fun x hx => absurd hx List.not_mem_nil, Nat.le_refl _⟩ (fun j H2 _ z => z.1.seq (SqL.of hq)) ?_ ?_
      · rintro j v H8 hv ⟨s8, TL, hD, t1, t2, t3, lTL⟩
        obtain ⟨x, hx, rfl⟩ := refs_at hv
        have xin := List.mem_of_getElem? hx
        have ltj := (List.getElem?_eq_some_iff.mp hx).1
        have tkj : LP.take (j + 1) = LP.take j ++ [x] := by rw [List.take_succ, hx] <;> rfl
        refine ⟨x.1, _, rfl, VB.Same.sqT s8 (hLP x xin).1, rfl, .str x.2.1, _, rfl, x.2.2.1, _, rfl, rfl, ?_⟩
        refine ⟨rfl, ?_⟩
        refine ⟨_, rfl, rfl, _, rfl, VUt.ite2b (fun c => ?_) (fun c => ?_)⟩
        · have nt : x.2.1 = ("tau" : Str) := by simpa using c
          refine ⟨_, rfl, _, hD, by rw [List.length_map]; omega, sameIn s8 nD, TL ++ [x.2.2], by rw [upd_same]; unfold vs1; rw [List.map_append] <;> rfl, fun y hy => ?_, fun y hy e => ?_, fun y hy => ?_, by rw [List.length_append, List.length_singleton]; omega⟩
          · rcases List.mem_append.mp hy with z | z
            · exact t1 y z
            · rw [List.mem_singleton.mp z]; exact List.mem_map_of_mem (f := fun y => y.2.2) xin
          · rw [tkj] at hy
            rcases List.mem_append.mp hy with z | z
            · exact List.mem_append_left _ (t2 y z e)
            · rw [List.mem_singleton.mp z]; exact List.mem_append_right _ (List.mem_singleton.mpr rfl)
          · rcases List.mem_append.mp hy with z | z
            · exact t3 y z
            · rw [List.mem_singleton.mp z, ← nt]; exact List.mem_map_of_mem (f := (·.2)) xin
        · have nt : x.2.1 ≠ ("tau" : Str) := by simpa using c
          refine ⟨s8, TL, hD, t1, fun y hy e => ?_, t3, by omega⟩
          rw [tkj] at hy
          rcases List.mem_append.mp hy with z | z
          · exact t2 y z e
          · rw [List.mem_singleton.mp z] at e; exact absurd e nt
      · rintro H8 ⟨s8, TL, hD, t1, t2, t3, lTL⟩
        rw [refs_len] at lTL
        rw [refs_len, List.take_length] at t2
        have b8 : But fd H H8 := b6.trans (But.of (s7.trans s8))
        have k8 := k6.trans (Kp.of (s7.trans s8))
        have s08 := s06.trans (s7.trans s8)
        have s78 := s7.trans s8
        have hpl8 := s78 _ _ hpl6
        refine ⟨pl, D1, _, _, rfl, rfl, hpl8, hD, by rw [List.length_map, List.length_map]; omega, ?_⟩
        have kq := Kp.updL hpl8 (.lst (vs1 r ++ vs1 TL))
        have lap : (r ++ TL).length = r.length + TL.length := List.length_append
        have inR : ∀ x ∈ TL, x.2 ∈ U ∧ (("tau" : Str), x.2) ∈ mv s.2 := fun x hx => by
          have z := t3 x hx
          obtain ⟨y, hy, e⟩ := List.mem_map.mp z
          have m : (("tau" : Str), x.2) ∈ mv s.2 := by
            rw [← eLP]
            refine List.mem_map.mpr ⟨y.2, List.mem_map_of_mem hy, ?_⟩
            rw [e]
          exact ⟨cU s.2 (sU s sin) _ m, m⟩
        obtain ⟨fo8, hfo8, _, _⟩ := M.obj hfd6
        refine ⟨_, ?_, r ++ TL, NL ++ [s], _, rfl, rfl, fun c o n e => by rw [upd_ne (ne_of_none e npH)]; exact b8 c o n e, k8.trans kq, sameIn s08 n0p, by rw [upd_ne fpl]; exact s78 _ _ hnl6, by rw [upd_same]; unfold vs1; rw [List.map_append], (hNL6.kp (Kp.of s78)).kp kq, fun x hx => ?_, M.fkp (M.fkp hfd6 (Kp.of s78) ((s78 _ _ hfo8).trans hfo8.symm)) kq (by rw [upd_ne fpl2]), nd2, fU5, fun x hx => ?_, fun x hx => ?_, fun x hx => ?_, fun p hp => ?_, fun p hp t ht => ?_, ?_⟩
        · rw [lr, lap, l5]
          omega
        · rcases List.mem_append.mp hx with z | z
          · exact M.vkp (M.vkp (hstk6 x (List.mem_append_left _ z)) (Kp.of s78)) kq
          · obtain ⟨y, hy, rfl⟩ := List.mem_map.mp (t1 x z)
            exact M.vkp (M.vkp (hLP y hy).2 (Kp.of s8)) kq
        · rcases List.mem_append.mp hx with z | z
          · exact sU x (List.mem_append_left _ z)
          · exact (inR x z).1
        · rcases List.mem_append.mp hx with z | z
          · exact rN x z
          · rw [List.mem_singleton.mp z]; exact rs
        · rcases List.mem_append.mp hx with z | z
          · exact rK x (List.mem_append_left _ z)
          · exact .step rs (inR x z).2
        · rw [← e5]
          rcases cT p hp with z | z
          · exact .inl (List.mem_append_left _ z)
          · rw [List.map_append] at z
            rcases List.mem_append.mp z with z | z
            · exact .inr (by rw [List.map_append]; exact List.mem_append_left _ z)
            · exact .inl (List.mem_append_right _ z)
        · rw [← e5]
          rw [List.map_append] at hp
          rcases List.mem_append.mp hp with z | z
          · rcases cV p z t ht with z | z
            · exact .inl (List.mem_append_left _ z)
            · rw [List.map_append] at z
              rcases List.mem_append.mp z with z | z
              · exact .inr (by rw [List.map_append]; exact List.mem_append_left _ z)
              · exact .inl (List.mem_append_right _ z)
          · have e : p = s.2 := by simpa using z
            rw [e, ← eLP] at ht
            obtain ⟨y, hy, ey⟩ := List.mem_map.mp ht
            obtain ⟨x, hx, rfl⟩ := List.mem_map.mp hy
            injection ey with ey1 ey2
            refine .inr (List.mem_map.mpr ⟨x.2.2, List.mem_append_right _ (t2 x hx ey1), ey2⟩)
        · rw [lap, l5]
          omega
end
end MGI
namespace MGB
abbrev s_new_places : Stmt := top 20
theorem sc_new_places : FnScope ["places", "edges_of", "found", "new", "pending", "place", "action", "target"] ["places", "edges_of", "found"] (defScope s_new_places) := ⟨rfl, rfl, rfl, by decide +kernel, rfl, by decide +kernel, by decide +kernel⟩
section
variable {P : Program} {w : World} {K : PySem.W.Frag} {mg : Str → Option Value} {base : Heap}
theorem c_np {kf : Nat} (D : Df K mg "new_places" s_new_places) (z_list : mg "list" = none) : C8.Cal P w K mg base (kf + 1) "new_places" (spNp P w K mg base kf (KB P w K)) [] := by
  refine D.cal sc_new_places (fun _ _ _ _ _ _ us hl => match us, hl with | [_, _, _], _ => rfl) (fun vs H Q E h => ?_) (fun f cdv A outer s0 H vs Q E hr h => ?_)
  · obtain ⟨_, _, _, _, _, _, _, _, _, _, rfl, _⟩ := h
    rfl
  obtain ⟨pa, ef, fd, PL, F, U, mv, H0, φ, sp, rfl, hpa, hPL, lPL, s00, n0d, hfd, ndF, fU, pU, cU, lU, lmv, vc, hφ, run, fin⟩ := h
  refine ⟨_, (pss_cons (ps_set (i := 3) sc_new_places.nd rfl (Or.inl rfl) (pe_lst pa_nil))
    (pss_cons (ps_set (i := 4) sc_new_places.nd rfl (Or.inl rfl) (pe_callTy (VK.listQ (K := K) rfl) (by rfl) z_list (by decide +kernel) (pa_cons (pv 0) pa_nil)))
    (pss_cons (ps_while PassesOwn.never (pt_truth (pv 4) (by intro _; rfl))
      (pss_cons (ps_set (i := 5) sc_new_places.nd rfl (Or.inl rfl) (pe_bm0 PySem.F.plainAttrs_list PySem.F.slot_list_pop PySem.F.type_list_pop mt_pop (pv 4)))
      (pss_one (ps_if (pt_cmp (VDN.pc_nnotin (P := P) (w := w) (K := K) rfl rfl rfl (VDN.un60 hr) (pv 5) (pv 2)))
        (pss_cons (VDN.ps_nput (P := P) (w := w) (K := K) rfl rfl rfl (VDN.un60 hr) (pv 2) (pv 5) pe_bl rfl)
        (pss_cons (ps_expr (pe_bm PySem.F.plainAttrs_list PySem.F.slot_list_append PySem.F.type_list_append mt_append (pv 3) (pa_cons (pv 5) pa_nil)))
        (pss_one (ps_expr (pe_bm PySem.F.plainAttrs_list PySem.F.slot_list_extend PySem.F.type_list_extend mt_extend (pv 4) (pa_cons (pe_lc (own := [("action", 6), ("target", 7)]) (g := gTup K 2 (gCons (gName 6) (gCons (gName 7) gNil))) rfl sc_new_places.nd (pi_list (VA.pe_callVal (i := 1) hr (by first | exact Nat.le_refl _ | omega) rfl (by first | exact Or.inl rfl | exact Or.inr (Or.inl rfl) | exact Or.inr (Or.inr rfl)) (pa_cons (pv 5) pa_nil))) (blkOk_by (N := ["places", "edges_of", "found", "new", "pending", "place", "action", "target"]) (sc := defScope s_new_places) (by decide +kernel)) (fun _ _ _ _ _ => (pg_tup rfl (pgs_cons (pg_name (i := 6) sc_new_places.nd rfl (Or.inl rfl) (hf := Or.inr rfl)) (pgs_cons (pg_name (i := 7) sc_new_places.nd rfl (Or.inl rfl) (hf := Or.inr rfl)) pgs_nil)))) (fun _ _ _ _ _ => (pts_one (pt_cmpR op_eq (pv 6) pe_str (nomark _)))) (fun _ _ _ _ _ => (pv 7))) pa_nil))))))
        pss_nil))))
    (pss_one (ps_ret (pv 3)))))), ?_⟩
  have zl := sizeLine_eq
  have pd := pdB P w K
  generalize (KB P w K) = M at hPL hfd run fin pd
  refine ⟨Nat.zero_le _, fun nl nnl => ?_⟩
  have u1 := same_upd nnl (.lst [])
  have hnl : upd H nl (.lst []) nl = some (.lst (vs1 ([] : List (V × BP)))) := upd_same
  generalize upd H nl (.lst []) = H1 at u1 hnl ⊢
  refine VJ.nmS ?_
  refine ⟨_, rfl, pa, _, rfl, .inl (u1.seq hpa), fun pl npl => ?_⟩
  have u2 := same_upd npl (.lst (vs1 PL))
  have hpl : upd H1 pl (.lst (vs1 PL)) pl = some (.lst (vs1 PL)) := upd_same
  have npH : H pl = none := u1.free npl
  have fpl : nl ≠ pl := ne_of_none hnl npl
  have hnl2 := u2 _ _ hnl
  have u12 := u1.trans u2
  generalize upd H1 pl (.lst (vs1 PL)) = H2 at u12 hpl hnl2 ⊢
  refine VJ.nmS ?_
  obtain ⟨fo, hfo, fo1, fo2⟩ := M.obj hfd
  have fnl : fd ≠ nl := (ne_of_none hfo nnl)
  have fpl2 : fd ≠ pl := (ne_of_none hfo npH)
  refine ⟨fun m σ H' => ∃ (stk NL : List (V × BP)) (r5 : Option V), m = (U.length - (F ++ NL.map (·.2)).length) * 1001 + stk.length ∧ σ = [some (.ref pa), some (.ref ef), some (.ref fd), some (.ref nl), some (.ref pl), r5, none, none] ∧ But fd H H' ∧ Kp H H' ∧ Same H0 H' ∧
      H' nl = some (.lst (vs1 NL)) ∧ H' pl = some (.lst (vs1 stk)) ∧ Pvs M H' NL ∧ Pvs M H' stk ∧ M.fnd H' fd (F ++ NL.map (·.2)) ∧ (F ++ NL.map (·.2)).Nodup ∧ (∀ p ∈ F ++ NL.map (·.2), p ∈ U) ∧ (∀ x ∈ stk, x.2 ∈ U) ∧
      (∀ x ∈ NL, Rts mv (PL.map (·.2)) x.2) ∧ (∀ x ∈ stk, Rts mv (PL.map (·.2)) x.2) ∧ (∀ p ∈ PL.map (·.2), p ∈ F ++ NL.map (·.2) ∨ p ∈ stk.map (·.2)) ∧
      (∀ p ∈ NL.map (·.2), ∀ q, (("tau" : Str), q) ∈ mv p → q ∈ F ++ NL.map (·.2) ∨ q ∈ stk.map (·.2)) ∧ (U.length - (F ++ NL.map (·.2)).length) * 1001 + stk.length ≤ 3000000,
    ⟨_, PL, [], none, rfl, rfl, .of u12, Kp.of u12, s00.trans u12, hnl2, hpl, fun x hx => absurd hx List.not_mem_nil, hPL.kp (Kp.of u12), by rw [List.map_nil, List.append_nil]; exact M.fkp hfd (Kp.of u12) ((u12 _ _ hfo).trans hfo.symm), by rw [List.map_nil, List.append_nil]; exact ndF, by rw [List.map_nil, List.append_nil]; exact fU, pU,
      fun x hx => absurd hx List.not_mem_nil, fun x hx => .base (List.mem_map_of_mem hx), fun p hp => .inr hp, fun p hp => absurd hp List.not_mem_nil, by rw [List.map_nil, List.append_nil]; omega⟩, ?_⟩
  clear hnl2 hpl u1 u2 hfd
  rintro m σ H3 ⟨stk, NL, r5, rfl, rfl, b3, k3, s03, hnl3, hpl3, hNL, hstk, hfd, nd, fU3, sU, rN, rK, cT, cV, bnd⟩
  have lU3 := nd_le _ _ nd fU3
  refine ⟨_, rfl, !(vs1 stk).isEmpty, .inl ⟨_, SqL.of hpl3, rfl⟩, ?_⟩
  rcases List.eq_nil_or_concat stk with rfl | ⟨r, s, rfl⟩
  · refine iteF ?_
    refine ⟨_, rfl, fin nl NL H3 b3 k3 nnl hnl3 hNL hfd ⟨nd, fun p hp => ?_, fun p hp q hq => ?_, fun p hp => ?_⟩⟩
    · rcases cT p hp with z | z
      · exact List.mem_append.mp z
      · exact absurd z List.not_mem_nil
    · rcases cV p hp q hq with z | z
      · exact List.mem_append.mp z
      · exact absurd z List.not_mem_nil
    · obtain ⟨x, hx, rfl⟩ := List.mem_map.mp hp
      exact rN x hx
  · rw [List.concat_eq_append] at *
    have e1 : (!(vs1 (r ++ [s])).isEmpty) = true := by cases r <;> rfl
    rw [e1]
    refine iteT ?_
    refine ⟨_, fun σ' H' z => z, ?_⟩
    have elast : (vs1 (r ++ [s]))[(vs1 (r ++ [s])).length - 1]? = some s.1 := by
      unfold vs1
      rw [List.map_append, List.length_append, List.map_singleton, List.length_singleton, Nat.add_sub_cancel, List.getElem?_append_right (Nat.le_refl _), Nat.sub_self] <;> rfl
    have edrop : (vs1 (r ++ [s])).dropLast = vs1 r := by unfold vs1; rw [List.map_append, List.map_singleton, List.dropLast_concat]
    have lr : (r ++ [s]).length = r.length + 1 := by rw [List.length_append, List.length_singleton]
    refine ⟨_, rfl, .inl ⟨rfl, _, SqL.of hpl3⟩, pl, _, _, rfl, rfl, hpl3, elast, ?_⟩
    rw [edrop]
    have n0p : H0 pl = none := s00.free npH
    have b4 : But fd H (upd H3 pl (.lst (vs1 r))) := fun c o n e => by rw [upd_ne (ne_of_none e npH)]; exact b3 c o n e
    have kq : Kp H3 (upd H3 pl (.lst (vs1 r))) := Kp.updL hpl3 _
    have k4 := k3.trans kq
    have s04 : Same H0 (upd H3 pl (.lst (vs1 r))) := sameIn s03 n0p
    have hnl4 : upd H3 pl (.lst (vs1 r)) nl = some (.lst (vs1 NL)) := by rw [upd_ne fpl]; exact hnl3
    have hpl4 : upd H3 pl (.lst (vs1 r)) pl = some (.lst (vs1 r)) := upd_same
    have hNL4 := hNL.kp kq
    have hstk4 := hstk.kp kq
    have hfd4 := M.fkp hfd kq (by rw [upd_ne fpl2])
    generalize upd H3 pl (.lst (vs1 r)) = H4 at b4 k4 s04 hnl4 hpl4 hNL4 hstk4 hfd4 ⊢
    clear kq hNL hstk hfd hnl3 hpl3 b3 k3 s03
    have sin : s ∈ r ++ [s] := by simp
    have hsv := hstk4 s sin
    have rs := rK s sin
    refine VJ.nmS ?_
    obtain ⟨o, go, io⟩ := pd.get hfd4 hsv
    refine ⟨_, rfl, _, rfl, fd, o, rfl, go, _, rfl, ?_⟩
    by_cases hin : s.2 ∈ F ++ NL.map (·.2)
    · rw [io.2 hin]
      refine iteF (VJ.nxT ?_)
      refine ⟨_, by rw [lr]; exact Nat.lt_succ_self _, r, NL, _, rfl, rfl, b4, k4, s04, hnl4, hpl4, hNL4, fun x hx => hstk4 x (List.mem_append_left _ hx), hfd4, nd, fU3, fun x hx => sU x (List.mem_append_left _ hx), rN, fun x hx => rK x (List.mem_append_left _ hx), fun t ht => ?_, fun p hp q hq => ?_, by omega⟩
      · rcases cT t ht with z | z
        · exact .inl z
        · rw [List.map_append] at z
          rcases List.mem_append.mp z with z | z
          · exact .inr z
          · rw [List.mem_singleton.mp z]; exact .inl hin
      · rcases cV p hp q hq with z | z
        · exact .inl z
        · rw [List.map_append] at z
          rcases List.mem_append.mp z with z | z
          · exact .inr z
          · rw [List.mem_singleton.mp z]; exact .inl hin
    · have ho : o.isSome = false := Bool.eq_false_iff.mpr fun z => hin (io.1 z)
      rw [ho]
      refine iteT ?_
      obtain ⟨oo, pt, hfd5, kq⟩ := pd.put hfd4 hsv (by omega) hin (.bl true)
      refine ⟨_, rfl, _, rfl, fd, _, rfl, pt, ?_⟩
      have b5 : But fd H (upd H4 fd oo) := fun c o n e => by rw [upd_ne n]; exact b4 c o n e
      have k5 := k4.trans kq
      have s05 : Same H0 (upd H4 fd oo) := sameIn s04 n0d
      have hnl5 : upd H4 fd oo nl = some (.lst (vs1 NL)) := by rw [upd_ne fnl.symm]; exact hnl4
      have hpl5 : upd H4 fd oo pl = some (.lst (vs1 r)) := by rw [upd_ne fpl2.symm]; exact hpl4
      have hNL5 := hNL4.kp kq
      have hstk5 := hstk4.kp kq
      generalize upd H4 fd oo = H5 at b5 k5 s05 hnl5 hpl5 hNL5 hstk5 hfd5 ⊢
      clear kq pt b4 k4 s04 hnl4 hpl4 hNL4 hstk4 hfd4 hsv go
      have nd2 : (F ++ (NL ++ [s]).map (·.2)).Nodup := by
        rw [List.map_append, ← List.append_assoc, List.nodup_append]
        exact ⟨nd, by simp, fun a ha b hb => by
          have e : b = s.2 := by simpa using hb
          rw [e]; intro e2; exact hin (by rw [← e2]; exact ha)⟩
      have e5 : F ++ NL.map (·.2) ++ [s.2] = F ++ (NL ++ [s]).map (·.2) := by rw [List.map_append, ← List.append_assoc] <;> rfl
      rw [e5] at hfd5
      have fU5 : ∀ p ∈ F ++ (NL ++ [s]).map (·.2), p ∈ U := fun p hp => by
        rw [← e5] at hp
        rcases List.mem_append.mp hp with z | z
        · exact fU3 p z
        · rw [List.mem_singleton.mp z]; exact sU s sin
      have lU5 := nd_le _ _ nd2 fU5
      have l5 : (F ++ (NL ++ [s]).map (·.2)).length = (F ++ NL.map (·.2)).length + 1 := by rw [← e5, List.length_append] <;> rfl
      have lNL : NL.length ≤ 1000 := by rw [List.length_append, List.length_map] at lU3; omega
      refine ⟨_, rfl, .inl ⟨rfl, _, SqL.of hnl5⟩, _, rfl, nl, _, _, rfl, rfl, hnl5, by rw [List.length_map]; omega, ?_⟩
      have kq := Kp.updL hnl5 (.lst (vs1 NL ++ [s.1]))
      have b6 : But fd H (upd H5 nl (.lst (vs1 NL ++ [s.1]))) := fun c o n e => by rw [upd_ne (ne_of_none e nnl)]; exact b5 c o n e
      have k6 := k5.trans kq
      have s06 : Same H0 (upd H5 nl (.lst (vs1 NL ++ [s.1]))) := sameIn s05 (s00.free nnl)
      have hnl6 : upd H5 nl (.lst (vs1 NL ++ [s.1])) nl = some (.lst (vs1 (NL ++ [s]))) := by rw [upd_same]; unfold vs1; rw [List.map_append] <;> rfl
      have hpl6 : upd H5 nl (.lst (vs1 NL ++ [s.1])) pl = some (.lst (vs1 r)) := by rw [upd_ne fpl.symm]; exact hpl5
      have hfd6 := M.fkp hfd5 kq (by rw [upd_ne fnl])
      have hNL6 : Pvs M (upd H5 nl (.lst (vs1 NL ++ [s.1]))) (NL ++ [s]) := fun x hx => by
        rcases List.mem_append.mp hx with z | z
        · exact hNL5.kp kq x z
        · rw [List.mem_singleton.mp z]; exact hstk5.kp kq s sin
      have hstk6 := hstk5.kp kq
      generalize upd H5 nl (.lst (vs1 NL ++ [s.1])) = H6 at b6 k6 s06 hnl6 hpl6 hfd6 hNL6 hstk6 ⊢
      clear kq b5 k5 s05 hnl5 hpl5 hfd5 hNL5 hstk5
      refine ⟨_, rfl, .inl ⟨rfl, _, SqL.of hpl6⟩, ?_⟩
      refine ⟨ef, φ, sp, rfl, vc, hφ _ s06, _, rfl, hφ _ s06, run s.2 s.1 H6 _ (sU s sin) s06 (hstk6 s sin) fun q LP H7 s7 nq hq hLP eLP => ?_⟩
      have lLP : LP.length = (mv s.2).length := by rw [← eLP, List.length_map, List.length_map]
      have lmS := lmv s.2
      refine ⟨q, rfl, ⟨_, SqL.of hq⟩, fun D1 nD => ?_⟩
      refine lc_list (K := K) (a := q) (xs := refs LP) (fun j H2 => Same H7 H2 ∧ ∃ TL : List (V × BP), H2 D1 = some (.lst (vs1 TL)) ∧ (∀ x ∈ TL, x ∈ LP.map (·.2.2)) ∧ (∀ y ∈ (LP.take j), y.2.1 = ("tau" : Str) → y.2.2 ∈ TL) ∧ (∀ x ∈ TL, (("tau" : Str), x) ∈ LP.map (·.2)) ∧ TL.length ≤ j)
        ⟨same_upd nD _, [], upd_same, fun x hx => absurd hx List.not_mem_nil, fun y hy => by rw [List.take_zero] at hy; exact absurd hy List.not_mem_nil, fun x hx => absurd hx List.not_mem_nil, Nat.le_refl _⟩ (fun j H2 _ z => z.1.seq (SqL.of hq)) ?_ ?_
      · rintro j v H8 hv ⟨s8, TL, hD, t1, t2, t3, lTL⟩
        obtain ⟨x, hx, rfl⟩ := refs_at hv
        have xin := List.mem_of_getElem? hx
        have ltj := (List.getElem?_eq_some_iff.mp hx).1
        have tkj : LP.take (j + 1) = LP.take j ++ [x] := by rw [List.take_succ, hx] <;> rfl
        refine ⟨x.1, _, rfl, VB.Same.sqT s8 (hLP x xin).1, rfl, .str x.2.1, _, rfl, x.2.2.1, _, rfl, rfl, ?_⟩
        refine ⟨rfl, ?_⟩
        refine ⟨_, rfl, rfl, _, rfl, VUt.ite2b (fun c => ?_) (fun c => ?_)⟩
        · have nt : x.2.1 = ("tau" : Str) := by simpa using c
          refine ⟨_, rfl, _, hD, by rw [List.length_map]; omega, sameIn s8 nD, TL ++ [x.2.2], by rw [upd_same]; unfold vs1; rw [List.map_append] <;> rfl, fun y hy => ?_, fun y hy e => ?_, fun y hy => ?_, by rw [List.length_append, List.length_singleton]; omega⟩
          · rcases List.mem_append.mp hy with z | z
            · exact t1 y z
            · rw [List.mem_singleton.mp z]; exact List.mem_map_of_mem (f := fun y => y.2.2) xin
          · rw [tkj] at hy
            rcases List.mem_append.mp hy with z | z
            · exact List.mem_append_left _ (t2 y z e)
            · rw [List.mem_singleton.mp z]; exact List.mem_append_right _ (List.mem_singleton.mpr rfl)
          · rcases List.mem_append.mp hy with z | z
            · exact t3 y z
            · rw [List.mem_singleton.mp z, ← nt]; exact List.mem_map_of_mem (f := (·.2)) xin
        · have nt : x.2.1 ≠ ("tau" : Str) := by simpa using c
          refine ⟨s8, TL, hD, t1, fun y hy e => ?_, t3, by omega⟩
          rw [tkj] at hy
          rcases List.mem_append.mp hy with z | z
          · exact t2 y z e
          · rw [List.mem_singleton.mp z] at e; exact absurd e nt
      · rintro H8 ⟨s8, TL, hD, t1, t2, t3, lTL⟩
        rw [refs_len] at lTL
        rw [refs_len, List.take_length] at t2
        have b8 : But fd H H8 := b6.trans (But.of (s7.trans s8))
        have k8 := k6.trans (Kp.of (s7.trans s8))
        have s08 := s06.trans (s7.trans s8)
        have s78 := s7.trans s8
        have hpl8 := s78 _ _ hpl6
        refine ⟨pl, D1, _, _, rfl, rfl, hpl8, hD, by rw [List.length_map, List.length_map]; omega, ?_⟩
        have kq := Kp.updL hpl8 (.lst (vs1 r ++ vs1 TL))
        have lap : (r ++ TL).length = r.length + TL.length := List.length_append
        have inR : ∀ x ∈ TL, x.2 ∈ U ∧ (("tau" : Str), x.2) ∈ mv s.2 := fun x hx => by
          have z := t3 x hx
          obtain ⟨y, hy, e⟩ := List.mem_map.mp z
          have m : (("tau" : Str), x.2) ∈ mv s.2 := by
            rw [← eLP]
            refine List.mem_map.mpr ⟨y.2, List.mem_map_of_mem hy, ?_⟩
            rw [e]
          exact ⟨cU s.2 (sU s sin) _ m, m⟩
        obtain ⟨fo8, hfo8, _, _⟩ := M.obj hfd6
        refine ⟨_, ?_, r ++ TL, NL ++ [s], _, rfl, rfl, fun c o n e => by rw [upd_ne (ne_of_none e npH)]; exact b8 c o n e, k8.trans kq, sameIn s08 n0p, by rw [upd_ne fpl]; exact s78 _ _ hnl6, by rw [upd_same]; unfold vs1; rw [List.map_append], (hNL6.kp (Kp.of s78)).kp kq, fun x hx => ?_, M.fkp (M.fkp hfd6 (Kp.of s78) ((s78 _ _ hfo8).trans hfo8.symm)) kq (by rw [upd_ne fpl2]), nd2, fU5, fun x hx => ?_, fun x hx => ?_, fun x hx => ?_, fun p hp => ?_, fun p hp t ht => ?_, ?_⟩
        · rw [lr, lap, l5]
          omega
        · rcases List.mem_append.mp hx with z | z
          · exact M.vkp (M.vkp (hstk6 x (List.mem_append_left _ z)) (Kp.of s78)) kq
          · obtain ⟨y, hy, rfl⟩ := List.mem_map.mp (t1 x z)
            exact M.vkp (M.vkp (hLP y hy).2 (Kp.of s8)) kq
        · rcases List.mem_append.mp hx with z | z
          · exact sU x (List.mem_append_left _ z)
          · exact (inR x z).1
        · rcases List.mem_append.mp hx with z | z
          · exact rN x z
          · rw [List.mem_singleton.mp z]; exact rs
        · rcases List.mem_append.mp hx with z | z
          · exact rK x (List.mem_append_left _ z)
          · exact .step rs (inR x z).2
        · rw [← e5]
          rcases cT p hp with z | z
          · exact .inl (List.mem_append_left _ z)
          · rw [List.map_append] at z
            rcases List.mem_append.mp z with z | z
            · exact .inr (by rw [List.map_append]; exact List.mem_append_left _ z)
            · exact .inl (List.mem_append_right _ z)
        · rw [← e5]
          rw [List.map_append] at hp
          rcases List.mem_append.mp hp with z | z
          · rcases cV p z t ht with z | z
            · exact .inl (List.mem_append_left _ z)
            · rw [List.map_append] at z
              rcases List.mem_append.mp z with z | z
              · exact .inr (by rw [List.map_append]; exact List.mem_append_left _ z)
              · exact .inl (List.mem_append_right _ z)
          · have e : p = s.2 := by simpa using z
            rw [e, ← eLP] at ht
            obtain ⟨y, hy, ey⟩ := List.mem_map.mp ht
            obtain ⟨x, hx, rfl⟩ := List.mem_map.mp hy
            injection ey with ey1 ey2
            refine .inr (List.mem_map.mpr ⟨x.2.2, List.mem_append_right _ (t2 x hx ey1), ey2⟩)
        · rw [lap, l5]
          omega
end
end MGB
end MG
end LW

set_option Elab.async false
set_option linter.all false
set_option maxRecDepth 100000
set_option maxHeartbeats 400000
namespace LW
open PySem PySem.Spec PyProof.Rows L2 LamX NdefX VB VM VP VE VX VQ VZ
section
variable {K : PySem.W.Frag} {H : Hp} {q : Addr} {n : Int} {E : List Ed}
theorem dget_str {kvs : List (Key × V)} {x : Str} {v : V} (hq : H q = some (.dK kvs)) (h : valV kvs (.inr x) = some v) : DGet H q (.str x) (some v) := by
  have z := DGet.k (k := .inr x) hq
  rw [h] at z
  exact z
theorem QAt.move (Q : QAt K H q n E) : ∃ d, DGet H q (.str "move") (some (.ref d)) ∧ MQ H d E := by
  obtain ⟨⟨kvs, dm, dO, ds, dc, ll, cs, hq, v1, v2, v3, v4, v5, a1, a2, a3, a4, a5, a6⟩, _⟩ := Q
  exact ⟨dm, dget_str hq v1, a1⟩
theorem QAt.offers (Q : QAt K H q n E) : ∃ d, DGet H q (.str "offers") (some (.ref d)) ∧ IR n H d (offR K H E) := by
  obtain ⟨⟨kvs, dm, dO, ds, dc, ll, cs, hq, v1, v2, v3, v4, v5, a1, a2, a3, a4, a5, a6⟩, _⟩ := Q
  exact ⟨dO, dget_str hq v2, a2⟩
theorem QAt.silent (Q : QAt K H q n E) : ∃ d, DGet H q (.str "silent") (some (.ref d)) ∧ IR n H d (silR H E) := by
  obtain ⟨⟨kvs, dm, dO, ds, dc, ll, cs, hq, v1, v2, v3, v4, v5, a1, a2, a3, a4, a5, a6⟩, _⟩ := Q
  exact ⟨ds, dget_str hq v3, a3⟩
theorem QAt.close (Q : QAt K H q n E) : ∃ d, DGet H q (.str "close") (some (.ref d)) ∧ IR n H d (cloR H E) := by
  obtain ⟨⟨kvs, dm, dO, ds, dc, ll, cs, hq, v1, v2, v3, v4, v5, a1, a2, a3, a4, a5, a6⟩, _⟩ := Q
  exact ⟨dc, dget_str hq v4, a4⟩
theorem QAt.lost (Q : QAt K H q n E) : ∃ (d : Addr) (cs : List Int), DGet H q (.str "lost") (some (.ref d)) ∧ H d = some (.lst (cs.map V.int)) ∧ ∀ s, s ∈ cs ↔ (0 ≤ s ∧ s < n) ∧ ¬ Halt E s := by
  obtain ⟨⟨kvs, dm, dO, ds, dc, ll, cs, hq, v1, v2, v3, v4, v5, a1, a2, a3, a4, a5, a6⟩, _⟩ := Q
  exact ⟨ll, cs, dget_str hq v5, a5, a6⟩
/-- a dict whose keys are the numbers of a set -/
def FD (H : Hp) (fd : Addr) (S : Int → Prop) : Prop := ∃ (kvs : List (Key × V)) (ks : List Int), H fd = some (.dK kvs) ∧ kvs.map (·.1) = ks.map Sum.inl ∧ ks.Nodup ∧ (∀ y, y ∈ ks ↔ S y) ∧ ∀ y, y ∈ ks ↔ (valV kvs (.inl y)).isSome = true
theorem putK_keys {κ : Type} [DecidableEq κ] {kvs : List (κ × V)} {k : κ} {u v : V} (h : valV kvs k = some u) : (putK kvs k v).map (·.1) = kvs.map (·.1) := by
  unfold putK
  rw [valV_any, h, if_pos (by rfl), List.map_map]
  refine List.map_congr_left fun kv _ => ?_
  show (if kv.1 = k then (kv.1, v) else kv).1 = kv.1
  by_cases c : kv.1 = k
  · rw [if_pos c]
  · rw [if_neg c]
theorem FD.cast {fd : Addr} {S S' : Int → Prop} (h : FD H fd S) (e : ∀ y, S y ↔ S' y) : FD H fd S' := by
  obtain ⟨kvs, ks, h1, h2, h3, h4, h5⟩ := h
  exact ⟨kvs, ks, h1, h2, h3, fun y => (h4 y).trans (e y), h5⟩
theorem FD.same {H' : Hp} {fd : Addr} {S : Int → Prop} (h : FD H fd S) (s : Same H H') : FD H' fd S := by
  obtain ⟨kvs, ks, h1, r⟩ := h
  exact ⟨kvs, ks, s _ _ h1, r⟩
theorem FD.put {fd : Addr} {S : Int → Prop} (h : FD H fd S) (hS : ∀ y, S y → 0 ≤ y ∧ y < n) (n60 : n ≤ 60) (x : Int) (v : V) : ∃ kvs, H fd = some (.dK kvs) ∧ DPut H fd (.int x) v (upd H fd (.dK (putK kvs (.inl x) v))) ∧ FD (upd H fd (.dK (putK kvs (.inl x) v))) fd fun y => S y ∨ y = x := by
  obtain ⟨kvs, ks, h1, h2, h3, h4, h5⟩ := h
  have zl := sizeLine_eq
  have len := few_of h3 fun y hy => hS y ((h4 y).1 hy)
  have lk : kvs.length = ks.length := by
    have z := congrArg List.length h2
    rw [List.length_map, List.length_map] at z
    exact z
  refine ⟨kvs, h1, DPut.k (k := .inl x) h1 (by omega), ?_⟩
  have sm : ∀ y, ((valV (putK kvs (.inl x) v) (.inl y)).isSome = true ↔ (valV kvs (.inl y)).isSome = true ∨ y = x) := fun y => by
    rw [valV_put]
    by_cases c : y = x
    · subst c; simp
    · rw [if_neg (fun z => c (Sum.inl.inj z))]; simp [c]
  by_cases c : x ∈ ks
  · have z := (h5 x).1 c
    obtain ⟨u, hu⟩ := Option.isSome_iff_exists.mp z
    refine ⟨_, ks, upd_same, by rw [putK_keys hu]; exact h2, h3, fun y => ?_, fun y => ?_⟩
    · rw [h4]
      exact ⟨.inl, fun w => w.elim id fun w => by rw [w]; exact (h4 x).1 c⟩
    · rw [sm, ← h5]
      exact ⟨.inl, fun w => w.elim id fun w => by rw [w]; exact c⟩
  · have hu : valV kvs (.inl x) = none := by
      cases e : valV kvs (.inl x) with
      | none => rfl
      | some u => exact absurd ((h5 x).2 (by rw [e] <;> rfl)) c
    refine ⟨_, ks ++ [x], upd_same, by rw [putK_new v hu, List.map_append, h2, List.map_append] <;> rfl, ?_, fun y => ?_, fun y => ?_⟩
    · rw [List.nodup_append]
      exact ⟨h3, by simp, fun a ha b hb => by rw [List.mem_singleton.mp hb]; exact fun z => c (by rw [← z]; exact ha)⟩
    · rw [List.mem_append, List.mem_singleton, h4]
    · rw [List.mem_append, List.mem_singleton, sm, ← h5]
end
section
variable {P : Program} {w : World} {K : PySem.W.Frag} {mg : Str → Option Value} {base : Heap}
def spQSt (K : PySem.W.Frag) : Sp := fun vs H Q _ => ∃ (q : Addr) (n : Int) (E : List Ed), vs = [.ref q] ∧ QAt K H q n E ∧
  ∀ (a : Addr) (H' : Hp) (cs : List Int), Same H H' → H' a = some (.tup (cs.map V.int)) → IsClo E [0] cs → (∀ x ∈ cs, 0 ≤ x ∧ x < n) → cs.length ≤ 60 → Q (.ref a) H'
def spQGo (K : PySem.W.Frag) : Sp := fun vs H Q _ => ∃ (q a : Addr) (n : Int) (E : List Ed) (ss : List Int) (x : Str), vs = [.ref q, .ref a, .str x] ∧ QAt K H q n E ∧ SqT K H a (ss.map V.int) ∧ (∀ x ∈ ss, 0 ≤ x ∧ x < n) ∧ ss.length ≤ 60 ∧
  ∀ (a : Addr) (H' : Hp) (cs : List Int), Same H H' → H' a = some (.tup (cs.map V.int)) → IsClo E (aft E ss x) cs → (∀ x ∈ cs, 0 ≤ x ∧ x < n) → cs.length ≤ 60 → Q (.ref a) H'
end
end LW

set_option Elab.async false
set_option linter.all false
set_option maxRecDepth 100000
set_option maxHeartbeats 400000
namespace LW
open PySem PySem.Spec PyProof.Rows L2 LamX NdefX VB VM VP VE VX VQ VZ
section
variable {P : Program} {w : World} {K : PySem.W.Frag} {mg : Str → Option Value} {base : Heap}
def spQAl (K : PySem.W.Frag) : Sp := fun vs H Q _ => ∃ (q a : Addr) (n : Int) (E : List Ed) (xs : List Str), vs = [.ref q, .ref a] ∧ QAt K H q n E ∧ SqT K H a (xs.map V.str) ∧
  ∀ (a : Addr) (H' : Hp) (c0 cs : List Int), Same H H' → H' a = some (.tup (cs.map V.int)) → IsClo E [0] c0 → Runs E c0 xs cs → (∀ x ∈ cs, 0 ≤ x ∧ x < n) → cs.length ≤ 60 → Q (.ref a) H'
def spQAny (K : PySem.W.Frag) : Sp := fun vs H Q _ => ∃ (q a : Addr) (n : Int) (E : List Ed) (ss : List Int), vs = [.ref q, .ref a] ∧ QAt K H q n E ∧ SqT K H a (ss.map V.int) ∧ (∀ x ∈ ss, 0 ≤ x ∧ x < n) ∧ ss.length ≤ 60 ∧
  ∀ (b : Bool) (H' : Hp), Same H H' → (b = true ↔ ∃ s ∈ ss, ¬ Halt E s) → Q (.bl b) H'
/-- a trace with a beginning that may go on for ever without an action -/
def HangP (E : List Ed) (xs : List Str) : Prop := ∃ (i : Nat) (c0 cs : List Int), i ≤ xs.length ∧ IsClo E [0] c0 ∧ Runs E c0 (xs.take i) cs ∧ ∃ s ∈ cs, ¬ Halt E s
def spQHa (K : PySem.W.Frag) : Sp := fun vs H Q _ => ∃ (q a : Addr) (n : Int) (E : List Ed) (xs : List Str), vs = [.ref q, .ref a] ∧ QAt K H q n E ∧ SqT K H a (xs.map V.str) ∧
  ∀ (b : Bool) (H' : Hp), Same H H' → (b = true ↔ HangP E xs) → Q (.bl b) H'
end
end LW

set_option Elab.async false
set_option linter.all false
set_option maxRecDepth 100000
set_option maxHeartbeats 400000
namespace LW
open PySem PySem.Spec PyProof.Rows L2 LamX NdefX VB VM VP VE VX VQ VZ
section
variable {P : Program} {w : World} {K : PySem.W.Frag} {mg : Str → Option Value} {base : Heap}
def spQSh (K : PySem.W.Frag) : Sp := fun vs H Q _ => ∃ (q b : Addr) (n : Int) (E : List Ed) (ss : List Int), vs = [.ref q, .ref b] ∧ QAt K H q n E ∧ SqT K H b (ss.map V.int) ∧ (∀ x ∈ ss, 0 ≤ x ∧ x < n) ∧ ss.length ≤ 60 ∧
  ∀ (p : Addr) (H' : Hp) (RL : List (Addr × List Str)), Same H H' → H' p = some (.lst (refs RL)) → Rows K H' RL → (RL.map (·.2)).Pairwise ltR → (∀ x, x ∈ RL.map (·.2) ↔ ∃ s ∈ ss, tg E s "tau" = [] ∧ x = srtS (acs E s)) → RL.length ≤ 60 → Q (.ref p) H'
def spQDo (K : PySem.W.Frag) : Sp := fun vs H Q _ => ∃ (q b : Addr) (n : Int) (E : List Ed) (ss : List Int), vs = [.ref q, .ref b] ∧ QAt K H q n E ∧ SqT K H b (ss.map V.int) ∧ (∀ x ∈ ss, 0 ≤ x ∧ x < n) ∧ ss.length ≤ 60 ∧
  ∀ (p : Addr) (H' : Hp) (ys : List Str), Same H H' → H' p = some (.lst (ys.map V.str)) → (∀ x ∈ ys, x ∈ acts) → ys.length ≤ 10 → Q (.ref p) H'
def spPart (K : PySem.W.Frag) : Sp := fun vs H Q _ => ∃ (a b : Addr) (xs ys : List Str), vs = [.ref a, .ref b] ∧ SqT K H a (xs.map V.str) ∧ SqT K H b (ys.map V.str) ∧ xs.length ≤ 1000 ∧
  ∀ H', Same H H' → Q (.bl (decide (∀ x ∈ xs, x ∈ ys))) H'
end
end LW

set_option Elab.async false
set_option linter.all false
set_option maxRecDepth 100000
set_option maxHeartbeats 400000
namespace LW
open PySem PySem.Spec PyProof.Rows L2 LamX NdefX VB VM VP VE VX VQ VZ
/-- whether a behaviour is allowed -/
def AllowP (E : List Ed) (xs : List Str) (k : Nat) (os : List Str) (md : Str) : Prop :=
  (md = ("divergences" : Str) ∧ HangP E xs) ∨ (k = 0 ∧ ∃ c0 cs, IsClo E [0] c0 ∧ Runs E c0 xs cs ∧ cs ≠ []) ∨ (k = 2 ∧ ∃ c0 cs, IsClo E [0] c0 ∧ Runs E c0 xs cs ∧ ∃ s ∈ cs, tg E s ("tau" : Str) = [] ∧ ∀ x ∈ srtS (acs E s), x ∈ os)
def kdN (k : Nat) : Str := match k with
  | 0 => "trace"
  | 1 => "divergence"
  | _ => "failure"
theorem BhS.at_ {K : PySem.W.Frag} {H : Hp} {b t : Addr} {k : Nat} {os : List Str} (h : BhS K H b t k os) : ∃ ys, SqT K H b ys ∧ atI ys 0 = some (.str (kdN k)) ∧ atI ys 1 = some (.ref t) := by
  rcases h with ⟨rfl, h⟩ | ⟨rfl, h⟩ | ⟨rfl, o, h, _⟩
  · exact ⟨_, h, rfl, rfl⟩
  · exact ⟨_, h, rfl, rfl⟩
  · exact ⟨_, h, rfl, rfl⟩
theorem BhS.same {K : PySem.W.Frag} {H H' : Hp} {b t : Addr} {k : Nat} {os : List Str} (h : BhS K H b t k os) (s : Same H H') : BhS K H' b t k os := by
  rcases h with ⟨e, h⟩ | ⟨e, h⟩ | ⟨e, o, h, g⟩
  · exact .inl ⟨e, VB.Same.sqT s h⟩
  · exact .inr (.inl ⟨e, VB.Same.sqT s h⟩)
  · exact .inr (.inr ⟨e, o, VB.Same.sqT s h, VB.Same.sqT s g⟩)
section
variable {P : Program} {w : World} {K : PySem.W.Frag} {mg : Str → Option Value} {base : Heap}
def spQHas (K : PySem.W.Frag) : Sp := fun vs H Q _ => ∃ (q b t : Addr) (n : Int) (E : List Ed) (xs os : List Str) (k : Nat), vs = [.ref q, .ref b] ∧ QAt K H q n E ∧ SqT K H t (xs.map V.str) ∧ BhS K H b t k os ∧ OkR os ∧
  ∀ (r : Bool) (H' : Hp) (c0 cs : List Int), Same H H' → IsClo E [0] c0 → Runs E c0 xs cs → (r = true ↔ BehP E cs k os) → Q (.bl r) H'
def spQAll (K : PySem.W.Frag) : Sp := fun vs H Q _ => ∃ (q b t : Addr) (n : Int) (E : List Ed) (xs os : List Str) (k : Nat) (md : Str), vs = [.ref q, .ref b, .str md] ∧ QAt K H q n E ∧ SqT K H t (xs.map V.str) ∧ BhS K H b t k os ∧ OkR os ∧
  ∀ (r : Bool) (H' : Hp), Same H H' → (r = true ↔ AllowP E xs k os md) → Q (.bl r) H'
def looksB (md kd : Str) : Bool := if md = ("traces" : Str) then decide (kd = ("trace" : Str)) else (decide (md = ("divergences" : Str)) || !decide (kd = ("divergence" : Str)))
def spLooks : Sp := fun vs H Q _ => ∃ (md kd : Str), vs = [.str md, .str kd] ∧ Q (.bl (looksB md kd)) H
end
end LW

set_option Elab.async false
set_option linter.all false
set_option maxRecDepth 100000
set_option maxHeartbeats 400000
namespace LW
open PySem PySem.Spec PyProof.Rows L2 LamX NdefX VB VM VP VJ
abbrev MODS : List Str := ["traces", "failures", "divergences"]
section
variable {P : Program} {w : World} {K : PySem.W.Frag} {mg : Str → Option Value} {base : Heap}
end
end LW

set_option Elab.async false
set_option linter.all false
set_option maxRecDepth 100000
set_option maxHeartbeats 400000
namespace LW
open PySem PySem.Spec PyProof.Rows L2 LamX NdefX VB VM VP VJ VE VX VQ VZ VY VF
section
variable {P : Program} {w : World} {K : PySem.W.Frag} {mg : Str → Option Value} {base : Heap}
def spChk (CU : Addr) : Sp := fun vs H Q E => ∃ (md : Str), vs = [.str md] ∧ md.length ≤ 1000 ∧ (md ∈ MODS → ∀ H', Same H H' → Q .non H') ∧ (md ∉ MODS → ∀ (d : Addr) (H' : Hp), Same H H' → H' d = some (.xd [("model", .str md)]) → E (.ref CU) (some d) H')
def kinds (md : Str) : List Str := if md = ("traces" : Str) then ["trace"] else if md = ("failures" : Str) then ["trace", "failure"] else ["trace", "divergence", "failure"]
def spLAt : Sp := fun vs H Q _ => ∃ (md kd : Str), vs = [.str md, .str kd] ∧ md ∈ MODS ∧ ∀ H', Same H H' → Q (.bl (decide (kd ∈ kinds md))) H'
def spWith (K : PySem.W.Frag) : Sp := fun vs H Q _ => ∃ (r d : Addr) (xs : List Str) (kvs : List (Key × V)), vs = [.ref r, .ref d] ∧ SqT K H r (xs.map V.str) ∧ H d = some (.dK kvs) ∧
  ∀ (b : Bool) (H' : Hp), Same H H' → (b = true ↔ ∀ x ∈ xs, (valV kvs (.inr x)).isSome = true) → Q (.bl b) H'
def spHasP (K : PySem.W.Frag) : Sp := fun vs H Q _ => ∃ (a o : Addr) (RL : List (Addr × List Str)) (os : List Str), vs = [.ref a, .ref o] ∧ SqL K H a (refs RL) ∧ Rows K H RL ∧ SqT K H o (os.map V.str) ∧ os.length ≤ 1000 ∧
  ∀ (b : Bool) (H' : Hp), Same H H' → (b = true ↔ ∃ r ∈ RL.map (·.2), ∀ x ∈ r, x ∈ os) → Q (.bl b) H'
end
end LW

set_option Elab.async false
set_option linter.all false
set_option maxRecDepth 100000
set_option maxHeartbeats 400000
namespace LW
open PySem PySem.Spec PyProof.Rows L2 LamX NdefX VB VM VP VE VX VQ VZ
theorem sc_trace_of_group : FnScope ["groups", "at", "actions", "before", "action"] ["groups", "at"] (defScope s_trace_of_group) := ⟨rfl, rfl, rfl, by decide +kernel, rfl, by decide +kernel, by decide +kernel⟩
/-- the trace of a group: the group before, and the action -/
inductive TrG (G : List (Nat × Str)) : Nat → List Str → Prop
  | zero : TrG G 0 []
  | step {i b : Nat} {a : Str} {u : List Str} : G[i]? = some (b, a) → 0 < i → b < i → TrG G b u → TrG G i (u ++ [a])
theorem TrG.uniq {G : List (Nat × Str)} {i : Nat} {u v : List Str} (h : TrG G i u) (g : TrG G i v) : u = v := by
  induction h generalizing v with
  | zero =>
    cases g with
    | zero => rfl
    | step _ h => exact absurd h (Nat.lt_irrefl _)
  | step e h1 h2 _ ih =>
    cases g with
    | zero => exact absurd h1 (Nat.lt_irrefl _)
    | step e' _ _ g' =>
      rw [e] at e'
      injection e' with e'
      injection e' with e1 e2
      subst e1
      subst e2
      rw [ih g']
theorem TrG.app {G : List (Nat × Str)} {i : Nat} {u : List Str} (h : TrG G i u) (F : List (Nat × Str)) : TrG (G ++ F) i u := by
  induction h with
  | zero => exact .zero
  | step e h1 h2 _ ih => exact .step (by rw [List.getElem?_append_left (List.getElem?_eq_some_iff.mp e).1]; exact e) h1 h2 ih
theorem TrG.len {G : List (Nat × Str)} {i : Nat} {u : List Str} (h : TrG G i u) : u.length ≤ i := by
  induction h with
  | zero => exact Nat.le_refl _
  | step _ h1 h2 _ ih => rw [List.length_append, List.length_singleton]; omega
section
variable {P : Program} {w : World} {K : PySem.W.Frag} {mg : Str → Option Value} {base : Heap}
/-- tuples whose last items are the group before and the action -/
def LastTwo (K : PySem.W.Frag) (H : Hp) (L : List (Addr × Nat × Str)) : Prop := ∀ x ∈ L, ∃ pre : List V, 1 ≤ pre.length ∧ pre.length ≤ 10 ∧ SqT K H x.1 (pre ++ [.int (x.2.1 : Nat), .str x.2.2])
def spTog (K : PySem.W.Frag) : Sp := fun vs H Q _ => ∃ (gl : Addr) (L : List (Addr × Nat × Str)) (i : Nat) (u : List Str), vs = [.ref gl, .int (i : Nat)] ∧ SqL K H gl (refs L) ∧ LastTwo K H L ∧ TrG (L.map (·.2)) i u ∧ i ≤ 4000000 ∧
  ∀ (q : Addr) (H' : Hp), Same H H' → SqT K H' q (u.map V.str) → Q (.ref q) H'
theorem c_tog (D : Df K mg "trace_of_group" s_trace_of_group) (z_tuple : mg "tuple" = none) (z_reversed : mg "reversed" = none) : C8.Cal P w K mg base 1 "trace_of_group" (spTog K) [] := by
  refine D.cal sc_trace_of_group (fun _ _ _ _ _ _ us hl => match us, hl with | [_, _], _ => rfl) (fun vs H Q E h => ?_) (fun f cdv A outer s0 H vs Q E hr h => ?_)
  · obtain ⟨_, _, _, _, rfl, _⟩ := h
    rfl
  obtain ⟨gl, L, i0, u0, rfl, hgl, hL, tr, li, fin⟩ := h
  refine ⟨_, (pss_cons (ps_set (i := 2) sc_trace_of_group.nd rfl (Or.inl rfl) (pe_lst pa_nil))
    (pss_cons (ps_while PassesOwn.never (pt_cmpR op_gt (pv 1) pe_int (nomark _))
      (pss_cons (ps_asg (pe_slice (VK.slT (K := K) rfl) (pe_ix (VK.ixL (K := K) rfl) (pv 0) (pv 1) (fun _ _ => rfl)) (po_some (pe_un un_neg pe_int)) po_none) (pg_tup rfl (pgs_cons (pg_name (i := 3) sc_trace_of_group.nd rfl (Or.inl rfl)) (pgs_cons (pg_name (i := 4) sc_trace_of_group.nd rfl (Or.inl rfl)) pgs_nil))))
      (pss_cons (ps_expr (pe_bm PySem.F.plainAttrs_list PySem.F.slot_list_append PySem.F.type_list_append mt_append (pv 2) (pa_cons (pv 4) pa_nil)))
      (pss_one (ps_set (i := 1) sc_trace_of_group.nd rfl (Or.inl rfl) (pv 3))))))
    (pss_one (ps_ret (RT.pe_tupRev rfl (by rfl) z_tuple (by rfl) z_reversed (pv 2)))))), ?_⟩
  have zl := sizeLine_eq
  refine ⟨Nat.zero_le _, fun al nal => ?_⟩
  have u1 := same_upd nal (.lst [])
  have hal : upd H al (.lst []) al = some (.lst ((([] : List Str)).map V.str)) := upd_same
  generalize upd H al (.lst []) = H1 at u1 hal ⊢
  refine VJ.nmS ?_
  refine ⟨fun m σ H' => ∃ (i : Nat) (u v : List Str) (r3 r4 : Option V), m = i ∧ σ = [some (.ref gl), some (.int (i : Nat)), some (.ref al), r3, r4] ∧ Same H H' ∧ TrG (L.map (·.2)) i u ∧ H' al = some (.lst (v.map V.str)) ∧ u ++ v.reverse = u0 ∧ v.length + i ≤ 4000000,
    ⟨i0, i0, u0, [], none, none, rfl, rfl, u1, tr, hal, by simp, by simpa using li⟩, ?_⟩
  rintro m σ H2 ⟨i, u, v, r3, r4, rfl, rfl, s2, tr, hal, e, lv⟩
  refine ⟨_, rfl, _, _, rfl, rfl, _, rfl, ?_⟩
  refine VUt.ite2b (fun c => ?_) (fun c => ?_)
  · have i0' : 0 < m := by have := of_decide_eq_true c; omega
    refine ⟨_, fun _ _ z => z, ?_⟩
    cases tr with
    | zero => exact absurd i0' (Nat.lt_irrefl _)
    | @step _ b a u hat h1 h2 tr =>
    rw [List.getElem?_map] at hat
    obtain ⟨x, hx, ex⟩ := Option.map_eq_some_iff.mp hat
    obtain ⟨xa, xb, xs⟩ := x
    have ex : (xb, xs) = (b, a) := ex
    injection ex with e1 e2
    subst e1
    subst e2
    obtain ⟨pre, p1, p2, hp⟩ := hL _ (List.mem_of_getElem? hx)
    have hp2 := VB.Same.sqT s2 hp
    have hat : atI (refs L) ((m : Nat) : Int) = some (.ref xa) := atI_nat (by unfold refs; rw [List.getElem?_map, hx] <;> rfl)
    refine ⟨_, rfl, _, rfl, gl, _, _, .ref xa, rfl, rfl, s2.seq hgl, hat, 2, rfl, _, rfl, xa, _, rfl, hp2, ?_, fun t nt => ?_⟩
    · rintro ⟨z, _⟩
      have z : (-2 + (((pre ++ [V.int (xb : Nat), V.str xs]).length : Nat) : Int)).toNat = 0 := z
      rw [List.length_append] at z
      simp only [List.length_cons, List.length_nil] at z
      omega
    have cut : cutV (pre ++ [V.int (xb : Nat), V.str xs]) (some (-2)) none = [V.int (xb : Nat), V.str xs] := by
      unfold cutV
      have l1 : HT.sIx (pre ++ [V.int (xb : Nat), V.str xs]).length 0 (some (-2)) = pre.length := by
        show (-2 + (((pre ++ [V.int (xb : Nat), V.str xs]).length : Nat) : Int)).toNat = _
        rw [List.length_append]
        simp only [List.length_cons, List.length_nil]
        omega
      rw [l1, List.drop_left]
      refine List.take_of_length_le ?_
      show 2 ≤ (pre ++ [V.int (xb : Nat), V.str xs]).length - pre.length
      rw [List.length_append]
      simp only [List.length_cons, List.length_nil]
      omega
    have w1 := same_upd nt (.tup (cutV (pre ++ [V.int (xb : Nat), V.str xs]) (some (-2)) none))
    have ht : upd H2 t (.tup (cutV (pre ++ [V.int (xb : Nat), V.str xs]) (some (-2)) none)) t = some (.tup [V.int (xb : Nat), V.str xs]) := by rw [upd_same, cut]
    show gTup _ _ _ _ _ (upd H2 t (.tup (cutV (pre ++ [V.int (xb : Nat), V.str xs]) (some (-2)) none))) _
    generalize upd H2 t (.tup (cutV (pre ++ [V.int (xb : Nat), V.str xs]) (some (-2)) none)) = H3 at w1 ht ⊢
    refine ⟨t, _, rfl, .inl (.inl ht), rfl, .int _, _, rfl, .str _, _, rfl, rfl, ?_⟩
    have hal3 := w1 _ _ hal
    refine ⟨_, rfl, .inl ⟨rfl, _, SqL.of hal3⟩, _, rfl, al, _, _, rfl, rfl, hal3, by rw [List.length_map]; omega, ?_⟩
    refine ⟨_, rfl, _, h2, xb, u, v ++ [xs], _, _, rfl, rfl, sameIn (s2.trans w1) nal, tr, by rw [upd_same, List.map_append] <;> rfl, ?_, by rw [List.length_append, List.length_singleton]; omega⟩
    rw [List.reverse_append, ← e, List.append_assoc] <;> rfl
  · have m0 : m = 0 := by have := of_decide_eq_false c; omega
    subst m0
    cases tr with
    | step _ h => exact absurd h (Nat.lt_irrefl _)
    | zero =>
      refine VJ.nx ?_
      refine ⟨_, rfl, al, _, rfl, SqL.of hal, fun q nq => ?_⟩
      refine fin q _ (s2.trans (same_upd nq _)) (.inl (.inl ?_))
      rw [upd_same, ← e, List.nil_append, List.map_reverse]
end
end LW

set_option Elab.async false
set_option linter.all false
set_option maxRecDepth 100000
set_option maxHeartbeats 400000
namespace LW
open PySem PySem.Spec PyProof.Rows L2 LamX NdefX VB VM VP VE VX VQ VZ VD
namespace MG
section
variable {X : Cx} {P : Program} {w : World} {K : PySem.W.Frag}
theorem sortedDSm {k : Nat} (hP : X.prog = P) (hw : X.w = w) (hK : X.K = K) (hc : X.calm = true) (hr : Room k X.A) : CallR X (.builtin "sorted") VSDi.rSortedDS := VSDi.sortedDS hc hr
end
/-- texts, sorted and each once -/
theorem sorted_sLtm {ks : List Str} (nd : ks.Nodup) : (ks.mergeSort (PySem.W.dataLe false PyData.str)).Pairwise sLt := by
  have h := sorted_pw PyData.str ks
  have n := (List.mergeSort_perm ks (PySem.W.dataLe false PyData.str)).nodup_iff.mpr nd
  refine (List.pairwise_and_iff.mpr ⟨h, List.nodup_iff_pairwise_ne.mp n⟩).imp fun {a b} ⟨h, ne⟩ => ?_
  unfold sLt
  cases z : PySem.W.dataLt (.str a) (.str b) with
  | true => rfl
  | false =>
    have e := lt_total z h
    simp only [PySem.W.keyToks] at e
    injection e with e
    exact absurd (PyProof.Rows.ext_toList (Sum.inr.inj e)) ne
/-- a group: its tuple, its list of places, the places, the group before, the action -/
structure Gq (α : Type) where
  q : Addr
  pa : Addr
  pl : List (V × α)
  bef : Nat
  act : Str
section
variable {α : Type}
abbrev gqs (GL : List (Gq α)) : List (Addr × Nat × Str) := GL.map fun g => (g.q, g.bef, g.act)
def gpq (GL : List (Gq α)) : List (Nat × Str) := GL.map fun g => (g.bef, g.act)
theorem gqs_2 (GL : List (Gq α)) : (gqs GL).map (·.2) = gpq GL := by unfold gqs gpq; rw [List.map_map] <;> rfl
/-- the groups stand in the heap -/
def GqAt (M : PK α) (gl : Addr) (H : Hp) (GL : List (Gq α)) : Prop := ∀ g ∈ GL, H g.q = some (.tup [.ref g.pa, .int (g.bef : Nat), .str g.act]) ∧ H g.pa = some (.lst (vs1 g.pl)) ∧ Pvs M H g.pl ∧ g.pa ≠ gl
/-- and are those of the search -/
structure PQ (GL : List (Gq α)) (XL : List (XQ α)) : Prop where
  len : GL.length = XL.length
  at_ : ∀ i g x, GL[i]? = some g → XL[i]? = some x → x.pl = g.pl.map (·.2) ∧ TrG (gpq GL) i x.tr
theorem GqAt.kp {M : PK α} {gl : Addr} {H H' : Hp} {GL : List (Gq α)} (h : GqAt M gl H GL) (k : Kp H H') (l : ∀ b xs, b ≠ gl → H b = some (.lst xs) → H' b = some (.lst xs)) : GqAt M gl H' GL := fun g hg => by
  obtain ⟨h1, h2, h3, h4⟩ := h g hg
  exact ⟨k.tup _ _ h1, l _ _ h4 h2, h3.kp k, h4⟩
theorem PQ.get {GL : List (Gq α)} {XL : List (XQ α)} (h : PQ GL XL) {i : Nat} {g : Gq α} (hg : GL[i]? = some g) : ∃ x, XL[i]? = some x ∧ x.pl = g.pl.map (·.2) ∧ TrG (gpq GL) i x.tr := by
  have l := (List.getElem?_eq_some_iff.mp hg).1
  rw [h.len] at l
  exact ⟨XL[i], List.getElem?_eq_getElem l, h.at_ i g _ hg (List.getElem?_eq_getElem l)⟩
theorem PQ.flat {GL : List (Gq α)} {XL : List (XQ α)} (h : PQ GL XL) : XL.flatMap (·.pl) = GL.flatMap fun g => g.pl.map (·.2) := by
  have e : XL.map (·.pl) = GL.map fun g => g.pl.map (·.2) := by
    refine List.ext_getElem? fun i => ?_
    rw [List.getElem?_map, List.getElem?_map]
    cases hg : GL[i]? with
    | none =>
      have : XL[i]? = none := by rw [List.getElem?_eq_none_iff] at hg ⊢; rw [← h.len]; exact hg
      rw [this] <;> rfl
    | some g =>
      obtain ⟨x, hx, e, _⟩ := h.get hg
      rw [hx, Option.map_some, Option.map_some, e]
  rw [List.flatMap_def, List.flatMap_def, e]
theorem PQ.add {GL : List (Gq α)} {XL : List (XQ α)} (h : PQ GL XL) {b : Nat} {y : XQ α} (hy : XL[b]? = some y) {g : Gq α} (eb : g.bef = b) : PQ (GL ++ [g]) (XL ++ [⟨y.tr ++ [g.act], g.pl.map (·.2)⟩]) := by
  have lb := (List.getElem?_eq_some_iff.mp hy).1
  have eg : gpq (GL ++ [g]) = gpq GL ++ [(g.bef, g.act)] := by unfold gpq; rw [List.map_append] <;> rfl
  have lg : (gpq GL).length = GL.length := List.length_map _
  refine ⟨by rw [List.length_append, List.length_append, h.len] <;> rfl, fun i g' x' h1 h2 => ?_⟩
  by_cases l : i < GL.length
  · rw [List.getElem?_append_left l] at h1
    rw [List.getElem?_append_left (by rw [← h.len]; exact l)] at h2
    obtain ⟨a, c⟩ := h.at_ i g' x' h1 h2
    refine ⟨a, ?_⟩
    rw [eg]
    exact c.app _
  · have l1 := (List.getElem?_eq_some_iff.mp h1).1
    rw [List.length_append, List.length_singleton] at l1
    obtain rfl : i = GL.length := by omega
    rw [List.getElem?_append_right (Nat.le_refl _), Nat.sub_self] at h1
    rw [h.len, List.getElem?_append_right (Nat.le_refl _), Nat.sub_self] at h2
    obtain rfl := Option.some.inj h1
    obtain rfl := Option.some.inj h2
    refine ⟨rfl, .step (b := b) ?_ (by rw [h.len]; omega) (by rw [h.len]; exact lb) ?_⟩
    · rw [eg, ← lg, List.getElem?_append_right (Nat.le_refl _), Nat.sub_self, ← eb] <;> rfl
    · rw [eg]
      have lb' : b < GL.length := by rw [h.len]; exact lb
      exact (h.at_ b GL[b] y (List.getElem?_eq_getElem lb') hy).2.app _
end
theorem len_flatM {α β : Type} (f : α → List β) {x : α} : ∀ {L : List α}, x ∈ L → (f x).length ≤ (L.flatMap f).length
  | y :: L, h => by
    rw [List.flatMap_cons, List.length_append]
    rcases List.mem_cons.mp h with rfl | h
    · omega
    · have := len_flatM f h
      omega
theorem flat_leM {α β : Type} (f : α → List β) (n : Nat) (h : ∀ x, (f x).length ≤ n) : ∀ L : List α, (L.flatMap f).length ≤ L.length * n
  | [] => Nat.zero_le _
  | y :: L => by
    rw [List.flatMap_cons, List.length_append, List.length_cons, Nat.succ_mul]
    have := flat_leM f n h L
    have := h y
    omega
section
variable {P : Program} {w : World} {K : PySem.W.Frag} {mg : Str → Option Value} {base : Heap} {α : Type}
/-- the function tells whether a place is sought -/
def SOf (M : PK α) (U : List α) (right : α → Bool) (H0 : Hp) (sp : Sp) : Prop :=
  ∀ (p : α) (v : V) (H' : Hp) (Q' : VK), p ∈ U → Same H0 H' → M.val H' p v → (∀ H'', Same H' H'' → Q' (.bl (right p)) H'') → sp [v] H' Q' C8.E0
def spLea (P : Program) (w : World) (K : PySem.W.Frag) (mg : Str → Option Value) (base : Heap) (kf : Nat) (M : PK α) : Sp := fun vs H Q _ => ∃ (sv : V) (ef sf : Addr) (z : α) (U : List α) (mv : α → List (Str × α)) (right : α → Bool) (φ φ2 : Hp → Prop) (sp sp2 : Sp),
  vs = [sv, .ref ef, .ref sf] ∧ M.val H z sv ∧ z ∈ U ∧ (∀ p ∈ U, ∀ e ∈ mv p, e.2 ∈ U) ∧ U.length ≤ 1000 ∧ (∀ p, (mv p).length ≤ 1000) ∧ VA.VCall P w K mg base kf ef φ sp ∧ (∀ H', Same H H' → φ H') ∧ EOf K M U mv H sp ∧
  VA.VCall P w K mg base (kf + 1) sf φ2 sp2 ∧ (∀ H', Same H H' → φ2 H') ∧ SOf M U right H sp2 ∧
  (∀ H', Same H H' → (∀ v p, Rp mv z v p → ¬ right p = true) → Q .non H') ∧ (∀ (u : List Str) (q : Addr) (H' : Hp), Same H H' → SqT K H' q (u.map V.str) → Lst mv z (fun p => right p = true) u → Q (.ref q) H')
theorem fI_nil {H : Hp} {d : Addr} : KI.fnd (upd H d (.dK [])) d [] := ⟨[], upd_same, fun s => iff_of_false (fun z => nomatch z) List.not_mem_nil, Nat.le_refl _⟩
theorem fB_nil {H : Hp} {d : Addr} : (KB P w K).fnd (upd H d (VDN.NdO P w d [])) d [] := ⟨[], upd_same, fun p hp => absurd hp List.not_mem_nil, fun s => iff_of_false (fun z => nomatch z) List.not_mem_nil, Nat.le_refl _⟩
end
namespace MGI
abbrev s_least_trace : Stmt := top 19
theorem sc_least_trace : FnScope ["start", "edges_of", "is_sought", "found", "groups", "at", "place", "targets", "action", "places"] ["start", "edges_of", "is_sought"] (defScope s_least_trace) := ⟨rfl, rfl, rfl, by decide +kernel, rfl, by decide +kernel, by decide +kernel⟩
section
variable {P : Program} {w : World} {K : PySem.W.Frag} {mg : Str → Option Value} {base : Heap}
theorem c_lea {kf : Nat} (D : Df K mg "least_trace" s_least_trace) (z_len : mg "len" = none) (z_any : mg "any" = none) (z_sorted : mg "sorted" = none) (c_new_places : C8.Cal P w K mg base (kf + 1) "new_places" (spNp P w K mg base kf KI) [])
    (c_targets_by_action : C8.Cal P w K mg base (kf + 1) "targets_by_action" (spTbG P w K mg base kf KI) []) (c_trace_of_group : C8.Cal P w K mg base 1 "trace_of_group" (spTog K) []) : C8.Cal P w K mg base (kf + 2) "least_trace" (spLea P w K mg base kf KI) [] := by
  refine D.cal sc_least_trace (fun _ _ _ _ _ _ us hl => match us, hl with | [_, _, _], _ => rfl) (fun vs H Q E h => ?_) (fun f cdv A outer s0 H vs Q E hr h => ?_)
  · obtain ⟨_, _, _, _, _, _, _, _, _, _, _, rfl, _⟩ := h
    rfl
  obtain ⟨sv, ef, sf, z, U, mv, right, φ, φ2, sp, sp2, rfl, hsv, zU, cU, lU, lmv, vc, hφ, run, vc2, hφ2, run2, qn, qt⟩ := h
  refine ⟨_, (pss_cons (ps_set (i := 3) sc_least_trace.nd rfl (Or.inl rfl) pe_dnewK)
    (pss_cons (ps_set (i := 4) sc_least_trace.nd rfl (Or.inl rfl) (pe_lst (pa_cons (pe_tup (pa_cons (C8.pe_c c_new_places hr (by first | decide | omega) rfl (pa_cons (pe_lst (pa_cons (pv 0) pa_nil)) (pa_cons (pv 1) (pa_cons (pv 3) pa_nil)))) (pa_cons pe_int (pa_cons pe_str pa_nil)))) pa_nil)))
    (pss_cons (ps_set (i := 5) sc_least_trace.nd rfl (Or.inl rfl) pe_int)
    (pss_cons (ps_while PassesOwn.never (pt_cmpR op_lt (pv 5) (pe_callB (VK.lenQ (K := K) rfl) (by rfl) z_len PySem.boot_len (pa_cons (pv 4) pa_nil)) (nomark _))
      (pss_cons (ps_if (pt_val (pe_callB (VKA.anyL (K := K) rfl rfl) (by rfl) z_any (by decide +kernel) (pa_cons (pe_lc (own := [("place", 6)]) (tt := tYes) rfl sc_least_trace.nd (pi_list (pe_ix (VK.ixT (K := K) rfl) (pe_ix (VK.ixL (K := K) rfl) (pv 4) (pv 5) (fun _ _ => rfl)) pe_int (fun _ _ => rfl))) (blkOk_by (N := ["start", "edges_of", "is_sought", "found", "groups", "at", "place", "targets", "action", "places"]) (sc := defScope s_least_trace) (by decide +kernel)) (fun _ _ _ _ _ => (pg_name (i := 6) sc_least_trace.nd rfl (Or.inl rfl) (hf := Or.inr rfl))) (fun _ _ _ _ _ => pts_nil) (fun _ _ _ _ _ => (VCb.pe_callValG (P := P) (w := w) (K := K) (mg := mg) (base := base) (i := 2) rfl rfl rfl rfl rfl hr (by first | exact Nat.le_refl _ | omega) rfl (by first | exact Or.inl rfl | exact Or.inr (Or.inl rfl) | exact Or.inr (Or.inr rfl)) (pa_cons (pv 6) pa_nil)))) pa_nil)))
        (pss_one (ps_ret (C8.pe_c c_trace_of_group hr (by first | decide | omega) rfl (pa_cons (pv 4) (pa_cons (pv 5) pa_nil)))))
        pss_nil)
      (pss_cons (ps_set (i := 7) sc_least_trace.nd rfl (Or.inl rfl) (C8.pe_c c_targets_by_action hr (by first | decide | omega) rfl (pa_cons (pe_ix (VK.ixT (K := K) rfl) (pe_ix (VK.ixL (K := K) rfl) (pv 4) (pv 5) (fun _ _ => rfl)) pe_int (fun _ _ => rfl)) (pa_cons (pv 1) pa_nil))))
      (pss_cons (ps_for PassesOwn.never rfl (pi_list (pe_callB (LW.MG.sortedDSm (P := P) (w := w) (K := K) rfl rfl rfl rfl hr) (by rfl) z_sorted (by decide +kernel) (pa_cons (pv 7) pa_nil))) (pg_name (i := 8) sc_least_trace.nd rfl (Or.inl rfl))
        (pss_cons (ps_set (i := 9) sc_least_trace.nd rfl (Or.inl rfl) (C8.pe_c c_new_places hr (by first | decide | omega) rfl (pa_cons (pe_dget (hu_of hr) (pv 7) (pv 8) (fun _ _ => rfl)) (pa_cons (pv 1) (pa_cons (pv 3) pa_nil)))))
        (pss_one (ps_if (pt_truth (pv 9) (by intro _; rfl))
          (pss_one (ps_expr (pe_bm PySem.F.plainAttrs_list PySem.F.slot_list_append PySem.F.type_list_append mt_append (pv 4) (pa_cons (pe_tup (pa_cons (pv 9) (pa_cons (pv 5) (pa_cons (pv 8) pa_nil)))) pa_nil))))
          pss_nil))))
      (pss_one (ps_aug (i := 5) sc_least_trace.nd rfl (.inl rfl) pe_int ip_add))))))
    (pss_one (ps_ret pe_non)))))), ?_⟩
  have zl := sizeLine_eq
  intro fd nfd
  have f0 := fI_nil (H := H) (d := fd)
  have u1 := same_upd nfd (.dK [])
  refine VJ.nmS ?_
  generalize upd H fd (.dK []) = H1 at f0 u1 ⊢
  generalize KI = M at hsv run run2 c_new_places c_targets_by_action f0 ⊢
  refine ⟨_, rfl, (by show 1 ≤ sizeLine; omega), fun sl nsl => ⟨_, rfl, _, rfl, ?_⟩⟩
  have u2 := same_upd nsl (.lst [sv])
  have hsl : upd H1 sl (.lst [sv]) sl = some (.lst (vs1 [(sv, z)])) := upd_same
  obtain ⟨fo, hfo, _, _⟩ := M.obj f0
  have f2 := M.fkp f0 (Kp.of u2) ((u2 _ _ hfo).trans hfo.symm)
  have u12 := u1.trans u2
  generalize upd H1 sl (.lst [sv]) = H2 at u12 u2 hsl f2 ⊢
  refine ⟨sl, ef, fd, [(sv, z)], [], U, mv, H, φ, sp, rfl, SqL.of hsl, fun x hx => by rw [List.mem_singleton.mp hx]; exact M.vkp hsv (Kp.of u12), (by show 1 ≤ 1000000; decide), u12, nfd, f2, List.nodup_nil, fun p hp => absurd hp List.not_mem_nil, fun x hx => by rw [List.mem_singleton.mp hx]; exact zU, cU, lU, lmv, vc, hφ, run, fun pq NL H3 b3 k3 npq hpq hNL f3 new3 => ?_⟩
  rw [List.nil_append] at f3
  have s3 : Same H H3 := fun c o e => b3 c o (ne_of_none e nfd) (u12 c o e)
  refine ⟨(by show 3 ≤ sizeLine; omega), fun tq ntq => ⟨(by show 1 ≤ sizeLine; omega), fun gl ngl => VJ.nmS (VJ.nmS ?_)⟩⟩
  have w4 := (same_upd ntq (.tup [.ref pq, .int 0, .str ""])).trans (same_upd ngl (.lst [.ref tq]))
  have hgl : upd (upd H3 tq (.tup [.ref pq, .int 0, .str ""])) gl (.lst [.ref tq]) gl = some (.lst (refs (gqs [(⟨tq, pq, NL, 0, ""⟩ : Gq Int)]))) := upd_same
  have htq : upd (upd H3 tq (.tup [.ref pq, .int 0, .str ""])) gl (.lst [.ref tq]) tq = some (.tup [.ref pq, .int ((0 : Nat) : Int), .str ""]) := (same_upd ngl (.lst [.ref tq])) _ _ upd_same
  have nglH : H gl = none := s3.free ((same_upd ntq (.tup [.ref pq, .int 0, .str ""])).free ngl)
  have pgl : pq ≠ gl := ne_of_none ((same_upd ntq (.tup [.ref pq, .int 0, .str ""])) _ _ hpq) ngl
  obtain ⟨fo3, hfo3, _, _⟩ := M.obj f3
  have dgl : fd ≠ gl := ne_of_none ((same_upd ntq (.tup [.ref pq, .int 0, .str ""])) _ _ hfo3) ngl
  have s4 := s3.trans w4
  have f4 := M.fkp f3 (Kp.of w4) ((w4 _ _ hfo3).trans hfo3.symm)
  have hpq4 := w4 _ _ hpq
  have hNL4 := hNL.kp (Kp.of w4)
  generalize upd (upd H3 tq (.tup [.ref pq, .int 0, .str ""])) gl (.lst [.ref tq]) = H4 at hgl htq s4 f4 hpq4 hNL4 ⊢
  have P0 : PQ [(⟨tq, pq, NL, 0, ""⟩ : Gq Int)] [⟨[], NL.map (·.2)⟩] := ⟨rfl, fun i g x h1 h2 => by
    match i, h1, h2 with
    | 0, h1, h2 =>
      obtain rfl := Option.some.inj h1
      obtain rfl := Option.some.inj h2
      exact ⟨rfl, .zero⟩
    | _ + 1, h1, _ => cases h1⟩
  have U0 : ∀ p ∈ NL.map (·.2), p ∈ U := fun p hp => by
    have r : ∀ {q}, Rts mv [z] q → q ∈ U := fun {q} r => by
      induction r with
      | base h => rw [List.mem_singleton.mp h]; exact zU
      | step _ e ih => exact cU _ ih _ e
    exact r (new3.from_ p hp)
  refine ⟨fun m σ H' => ∃ (i : Nat) (GL : List (Gq Int)) (XL : List (XQ Int)) (r7 r8 r9 : Option V), m = U.length + 1 - i ∧ σ = [some sv, some (.ref ef), some (.ref sf), some (.ref fd), some (.ref gl), some (.int (i : Nat)), none, r7, r8, r9] ∧ Same H H' ∧ H' gl = some (.lst (refs (gqs GL))) ∧ GqAt M gl H' GL ∧ PQ GL XL ∧ QInv mv z XL i (fun _ => False) ∧
      M.fnd H' fd (XL.flatMap (·.pl)) ∧ (∀ p ∈ XL.flatMap (·.pl), p ∈ U) ∧ i ≤ GL.length ∧ (∀ j y, XL[j]? = some y → j < i → ∀ p ∈ y.pl, ¬ right p = true),
    ⟨_, 0, [⟨tq, pq, NL, 0, ""⟩], [⟨[], NL.map (·.2)⟩], none, none, none, rfl, rfl, s4, hgl, fun g hg => by rw [List.mem_singleton.mp hg]; exact ⟨htq, hpq4, hNL4, pgl⟩, P0, .first (show NewP mv [z] [] (NL.map (·.2)) from new3), by rw [List.flatMap_singleton]; exact f4, by rw [List.flatMap_singleton]; exact U0, Nat.zero_le _, fun j y _ l => absurd l (Nat.not_lt_zero _)⟩, ?_⟩
  clear s4 hgl P0 f4 U0 hNL4 hpq4 htq w4 f3 b3 k3 hpq hNL new3 s3 pgl hfo3
  rintro m σ H5 ⟨i, GL, XL, r7, r8, r9, rfl, rfl, s5, hgl5, G5, PQ5, I5, f5, U5, li, nr5⟩
  have lX : (XL.flatMap (·.pl)).length ≤ U.length := nd_le _ _ I5.nd U5
  have lG : GL.length ≤ U.length := by have := I5.len; rw [PQ5.len]; omega
  refine ⟨_, rfl, _, rfl, gl, _, rfl, .inl (SqL.of hgl5), _, _, rfl, rfl, _, rfl, ?_⟩
  rw [refs_len, List.length_map]
  refine VUt.ite2b (fun c => ?_) (fun c => ?_)
  · have lt : i < GL.length := by have := of_decide_eq_true c; omega
    obtain ⟨g, hg⟩ : ∃ g, GL[i]? = some g := ⟨GL[i], List.getElem?_eq_getElem lt⟩
    obtain ⟨x, hx, exs, trx⟩ := PQ5.get hg
    have gin := List.mem_of_getElem? hg
    obtain ⟨g1, g2, g3, g4⟩ := G5 g gin
    have hat : atI (refs (gqs GL)) ((i : Nat) : Int) = some (.ref g.q) := atI_nat (by unfold refs gqs; rw [List.map_map, List.getElem?_map, hg] <;> rfl)
    have plU : ∀ y ∈ g.pl, y.2 ∈ U := fun y hy => U5 _ (List.mem_flatMap.mpr ⟨x, List.mem_of_getElem? hx, by rw [exs]; exact List.mem_map_of_mem hy⟩)
    have lpl : g.pl.length ≤ 1000 := by
      have := len_flatM (fun x : XQ Int => x.pl) (List.mem_of_getElem? hx)
      rw [exs, List.length_map] at this
      omega
    refine ⟨fun σ' H' => ∃ m', m' < U.length + 1 - i ∧ _, fun σ' H' z => z, ?_⟩
    refine ⟨_, rfl, _, rfl, gl, _, _, _, rfl, rfl, SqL.of hgl5, hat, ?_⟩
    refine ⟨g.q, _, _, _, rfl, rfl, .inl (.inl g1), rfl, g.pa, rfl, ⟨_, SqL.of g2⟩, fun D1 nD => ?_⟩
    refine lc_list (K := K) (a := g.pa) (xs := vs1 g.pl) (fun j H2 => Same H5 H2 ∧ H2 D1 = some (.lst (((g.pl.take j).map fun y => right y.2).map V.bl)))
      ⟨same_upd nD _, upd_same⟩ (fun j H2 _ z => z.1.seq (SqL.of g2)) ?_ ?_
    · rintro j v H6 hv ⟨s6, hD⟩
      rw [List.getElem?_map] at hv
      obtain ⟨y, hy, rfl⟩ := Option.map_eq_some_iff.mp hv
      have yin := List.mem_of_getElem? hy
      have ltj := (List.getElem?_eq_some_iff.mp hy).1
      refine ⟨rfl, ?_⟩
      unfold tYes
      refine iteT ?_
      have s56 := s5.trans s6
      refine ⟨sf, φ2, sp2, rfl, vc2, hφ2 _ s56, _, rfl, hφ2 _ s56, run2 y.2 y.1 H6 _ (plU y yin) s56 (g3.kp (Kp.of s6) y yin) fun H7 s7 => ⟨_, s7 _ _ hD, ?_, sameIn (s6.trans s7) nD, ?_⟩⟩
      · rw [List.length_map, List.length_map, List.length_take]; omega
      · rw [upd_same, List.take_succ, hy, Option.toList_some, List.map_append, List.map_append] <;> rfl
    rintro H6 ⟨s6, hD⟩
    rw [List.length_map, List.take_length] at hD
    refine ⟨D1, _, rfl, SqL.of hD, _, rfl, ?_⟩
    have s56 := s5.trans s6
    have eb : ((g.pl.map fun y => right y.2).any id) = true ↔ ∃ p ∈ x.pl, right p = true := by
      rw [List.any_map, List.any_eq_true, exs]
      constructor
      · rintro ⟨y, hy, h⟩
        exact ⟨y.2, List.mem_map_of_mem hy, h⟩
      · rintro ⟨p, hp, h⟩
        obtain ⟨y, hy, rfl⟩ := List.mem_map.mp hp
        exact ⟨y, hy, h⟩
    generalize (g.pl.map fun y => right y.2).any id = bo at eb ⊢
    have gl6 := s6 _ _ hgl5
    refine VUt.ite2b (fun cb => ?_) (fun cb => ?_)
    · refine ⟨_, rfl, _, rfl, gl, gqs GL, i, x.tr, rfl, SqL.of gl6, fun y hy => ?_, by rw [gqs_2]; exact trx, by omega, fun q H7 s7 hq => qt x.tr q H7 (s56.trans s7) hq (I5.least hx nr5 (eb.1 cb))⟩
      obtain ⟨g', hg', rfl⟩ := List.mem_map.mp hy
      exact ⟨[.ref g'.pa], (by show 1 ≤ 1; decide), (by show 1 ≤ 10; decide), .inl (.inl (s6 _ _ (G5 g' hg').1))⟩
    · refine VJ.nxT ?_
      have nrx : ∀ p ∈ x.pl, ¬ right p = true := fun p hp h => by rw [eb.2 ⟨p, hp, h⟩] at cb; cases cb
      obtain ⟨fo5, hfo5, _, _⟩ := M.obj f5
      have f6 := M.fkp f5 (Kp.of s6) ((s6 _ _ hfo5).trans hfo5.symm)
      have G6 : GqAt M gl H6 GL := G5.kp (Kp.of s6) fun b xs _ e => s6 _ _ e
      clear G5 f5 hgl5 s5 hD
      obtain ⟨g1, g2, g3, _⟩ := G6 g gin
      refine ⟨_, rfl, _, rfl, gl, _, _, _, rfl, rfl, SqL.of gl6, hat, g.q, _, _, _, rfl, rfl, .inl (.inl g1), rfl, _, rfl, g.pa, ef, g.pl, U, mv, H, φ, sp, rfl, SqL.of g2, g3, lpl, plU, lmv, s56, vc, hφ, run, fun td kvs ks R H7 s7 ntd KT eR hR => VJ.nmS ?_⟩
      have s67 := s56.trans s7
      have gl7 := s7 _ _ gl6
      have G7 : GqAt M gl H7 GL := G6.kp (Kp.of s7) fun b xs _ e => s7 _ _ e
      obtain ⟨fo6, hfo6, _, _⟩ := M.obj f6
      have f7 := M.fkp f6 (Kp.of s7) ((s7 _ _ hfo6).trans hfo6.symm)
      have tdgl : td ≠ gl := (ne_of_none gl6 ntd).symm
      have tdfd : td ≠ fd := (ne_of_none hfo6 ntd).symm
      have KT7 : KTg (fun b => b ≠ gl) H7 td R kvs ks := KT.mono rfl fun b xs h h0 => ⟨h, (ne_of_none gl6 h0).symm⟩
      clear KT G6 f6 gl6 s56 s6 s7 g1 g2 g3
      obtain ⟨SK, eSK⟩ : ∃ SK, SK = ks.mergeSort (PySem.W.dataLe false PyData.str) := ⟨_, rfl⟩
      have mSK : ∀ a, a ∈ SK ↔ a ∈ ks := fun a => by rw [eSK]; exact List.mem_mergeSort
      have aSK : SK.Pairwise sLt := by rw [eSK]; exact sorted_sLtm KT7.nd
      refine ⟨_, rfl, td, kvs, ks, rfl, .inl KT7.at_, KT7.keys, fun l2 nl2 => ?_⟩
      rw [← eSK]
      have w8 := same_upd nl2 (.lst (SK.map V.str))
      have hl2 : upd H7 l2 (.lst (SK.map V.str)) l2 = some (.lst (SK.map V.str)) := upd_same
      have l2gl : l2 ≠ gl := (ne_of_none gl7 nl2).symm
      obtain ⟨fo7, hfo7, _, _⟩ := M.obj f7
      have f8 := M.fkp f7 (Kp.of w8) ((w8 _ _ hfo7).trans hfo7.symm)
      have gl8 := w8 _ _ gl7
      have G8 : GqAt M gl (upd H7 l2 (.lst (SK.map V.str))) GL := G7.kp (Kp.of w8) fun b xs _ e => w8 _ _ e
      have KT8 := KT7.same w8
      have s68 := s67.trans w8
      have hR8 := hR.kp (Kp.of w8)
      generalize upd H7 l2 (.lst (SK.map V.str)) = H8 at w8 hl2 f8 gl8 G8 KT8 s68 hR8 ⊢
      clear KT7 f7 gl7 G7 s67 hR w8
      have I0 : QInv mv z XL i fun d => d ∈ SK.take 0 := by
        refine ⟨I5.asc, I5.sound, I5.tau, I5.vis, fun y hy a ha => ?_, I5.st, fun y hy => ?_, I5.nd, I5.ne⟩
        · rw [List.take_zero] at ha; cases ha
        · rcases I5.ord y hy with h | ⟨b, y, a, h1, h2, h3⟩
          · exact .inl h
          · exact .inr ⟨b, y, a, h1, h2, .inl (h3.resolve_right fun h => h.2)⟩
      have memR : ∀ (a : Str) (q : Int), q ∈ (tgG R a).map (·.2) ↔ ∃ p ∈ x.pl, (a, q) ∈ mv p := fun a q => by
        have e1 : (a, q) ∈ mvR R ↔ ∃ p ∈ x.pl, (a, q) ∈ mv p := by rw [eR, exs, List.mem_flatMap]
        rw [← e1, List.mem_map, List.mem_map]
        constructor
        · rintro ⟨y, hy, rfl⟩
          exact ⟨_, tgG_mem.1 hy, rfl⟩
        · rintro ⟨y, hy, e⟩
          injection e with e1 e2
          refine ⟨y.2, tgG_mem.2 ?_, e2⟩
          rw [← e1]
          exact hy
      have lR : R.length ≤ 1000000 := by
        have e := congrArg List.length eR
        rw [List.length_map] at e
        rw [e]
        refine Nat.le_trans (flat_leM mv 1000 lmv (g.pl.map (·.2))) ?_
        rw [List.length_map]
        exact Nat.mul_le_mul_right 1000 lpl
      refine ⟨l2, rfl, ⟨_, SqL.of hl2⟩, for_list (K := K) (a := l2) (xs := SK.map V.str)
        (fun j σ H' => ∃ (GL' : List (Gq Int)) (XL' : List (XQ Int)) (r8 r9 : Option V), σ = [some sv, some (.ref ef), some (.ref sf), some (.ref fd), some (.ref gl), some (.int (i : Nat)), none, some (.ref td), r8, r9] ∧ Same H H' ∧ H' gl = some (.lst (refs (gqs GL'))) ∧ GqAt M gl H' GL' ∧ PQ GL' XL' ∧ QInv mv z XL' i (fun d => d ∈ SK.take j) ∧
          M.fnd H' fd (XL'.flatMap (·.pl)) ∧ (∀ p ∈ XL'.flatMap (·.pl), p ∈ U) ∧ GL.length ≤ GL'.length ∧ (∀ k, k ≤ i → XL'[k]? = XL[k]?) ∧ H' l2 = some (.lst (SK.map V.str)) ∧ KTg (fun b => b ≠ gl) H' td R kvs ks ∧ Pvs M H' (R.map (·.2)))
        ⟨GL, XL, _, _, rfl, s68, gl8, G8, PQ5, I0, f8, U5, Nat.le_refl _, fun _ _ => rfl, hl2, KT8, hR8⟩ (fun j σ H' _ ⟨_, _, _, _, _, _, _, _, _, _, _, _, _, _, h, _⟩ => SqL.of h) ?_ ?_⟩
      · clear s68 gl8 G8 PQ5 I0 I5 f8 U5 hl2 KT8 hR8 lX lG
        rintro j v σ H9 hv ⟨GL', XL', r8, r9, rfl, s9, gl9, G9, P9, I9, f9, U9, lG9, old9, hl9, KT9, hR9⟩
        rw [List.getElem?_map] at hv
        obtain ⟨a, ha, rfl⟩ := Option.map_eq_some_iff.mp hv
        have ain := List.mem_of_getElem? ha
        have ak := (mSK a).1 ain
        have lX9 : (XL'.flatMap (·.pl)).length ≤ U.length := nd_le _ _ I9.nd U9
        have lG9' : GL'.length ≤ U.length := by have := I9.len; rw [P9.len]; omega
        have hx9 : XL'[i]? = some x := (old9 i (Nat.le_refl _)).trans hx
        have lix := (List.getElem?_eq_some_iff.mp hx9).1
        have tkE : (fun d => d ∈ SK.take (j + 1)) = fun d => d ∈ SK.take j ∨ d = a := funext fun d => propext (by rw [List.take_succ, ha]; simp)
        have les : ∀ d, d ∈ SK.take j → sLt d a := fun d hd => by
          obtain ⟨k, hk⟩ := List.getElem?_of_mem hd
          have lk : k < j := by have := (List.getElem?_eq_some_iff.mp hk).1; rw [List.length_take] at this; omega
          rw [List.getElem?_take_of_lt lk] at hk
          obtain ⟨l1, e1⟩ := List.getElem?_eq_some_iff.mp hk
          obtain ⟨l2, e2⟩ := List.getElem?_eq_some_iff.mp ha
          have := List.pairwise_iff_getElem.mp aSK k j l1 l2 lk
          rw [e1, e2] at this
          exact this
        obtain ⟨na, nea⟩ := (KT9.mem a).1 ak
        obtain ⟨bl, hbl, hbv, obl⟩ := KT9.val a ak
        have gd := DGet.k (k := .inr a) KT9.at_
        rw [hbl] at gd
        have tgU : ∀ y ∈ tgG R a, y.2 ∈ U := fun y hy => by
          obtain ⟨p, hp, h⟩ := (memR a y.2).1 (List.mem_map_of_mem hy)
          exact cU p (U9 p (List.mem_flatMap.mpr ⟨x, List.mem_of_getElem? hx9, hp⟩)) _ h
        have ltg := tgG_len R a
        refine VJ.nm ?_
        refine ⟨_, rfl, _, rfl, td, _, rfl, gd, _, rfl, _, rfl, bl, ef, fd, tgG R a, XL'.flatMap (·.pl), U, mv, H, φ, sp, rfl, SqL.of hbv, fun y hy => hR9 y (List.mem_map.mpr ⟨(a, y), tgG_mem.1 hy, rfl⟩), by omega, s9, nfd, f9, I9.nd, U9, tgU, cU, lU, lmv, vc, hφ, run, fun pq NL H10 b10 k10 npq hpq hNL f10 new10 => ?_⟩
        have s10 : Same H H10 := fun c o e => b10 c o (ne_of_none e nfd) (s9 c o e)
        have gl10 := b10 _ _ dgl.symm gl9
        have lst10 : ∀ b xs, H9 b = some (.lst xs) → H10 b = some (.lst xs) := fun b xs e => by
          obtain ⟨fo9, hfo9, n9, _⟩ := M.obj f9
          refine b10 b _ (fun h => ?_) e
          rw [h, hfo9] at e
          exact n9 xs (Option.some.inj e)
        have G10 : GqAt M gl H10 GL' := G9.kp k10 fun b xs _ e => lst10 b xs e
        have hl10 := lst10 _ _ hl9
        have KT10 : KTg (fun b => b ≠ gl) H10 td R kvs ks := KT9.mono ((b10 _ _ tdfd KT9.at_).trans KT9.at_.symm) fun b xs h n => ⟨lst10 b xs h, n⟩
        have hR10 := hR9.kp k10
        have I10 := I9.add hx9 les na (memR a) rfl new10
        have NU : ∀ p ∈ NL.map (·.2), p ∈ U := fun p hp => by
          have r : ∀ {q}, Rts mv ((tgG R a).map (·.2)) q → q ∈ U := fun {q} r => by
            induction r with
            | base h => obtain ⟨y, hy, rfl⟩ := List.mem_map.mp h; exact tgU y hy
            | step _ e ih => exact cU _ ih _ e
          exact r (new10.from_ p hp)
        have pgl : pq ≠ gl := (ne_of_none gl9 npq).symm
        clear G9 gl9 KT9 hR9 hl9 s9 b10 k10
        refine ⟨_, rfl, !(vs1 NL).isEmpty, .inl ⟨_, SqL.of hpq, rfl⟩, ?_⟩
        by_cases eN : NL = []
        · subst eN
          rw [if_pos (by rfl)] at I10
          rw [List.map_nil, List.append_nil] at f10
          refine iteF (VJ.nxT ?_)
          exact ⟨GL', XL', _, _, rfl, s10, gl10, G10, P9, by rw [tkE]; exact I10, f10, U9, lG9, old9, hl10, KT10, hR10⟩
        · have en : (!(vs1 NL).isEmpty) = true := by cases NL with
            | nil => exact absurd rfl eN
            | cons _ _ => rfl
          have en2 : NL.map (·.2) ≠ [] := fun h => eN (List.map_eq_nil_iff.mp h)
          rw [if_neg en2] at I10
          rw [en]
          refine iteT ?_
          refine ⟨_, rfl, .inl ⟨rfl, _, SqL.of gl10⟩, _, rfl, _, rfl, _, rfl, (by show 3 ≤ sizeLine; omega), fun tq ntq => ?_⟩
          have w1 := same_upd ntq (.tup [.ref pq, .int (i : Nat), .str a])
          have htq : upd H10 tq (.tup [.ref pq, .int (i : Nat), .str a]) tq = some (.tup [.ref pq, .int (i : Nat), .str a]) := upd_same
          have gl11 := w1 _ _ gl10
          refine ⟨gl, _, _, rfl, rfl, gl11, by rw [List.length_map, List.length_map]; omega, ?_⟩
          have kq := (Kp.of w1).trans (Kp.updL gl11 (.lst (refs (gqs GL') ++ [V.ref tq])))
          have up : ∀ b xs, b ≠ gl → H10 b = some (.lst xs) → upd (upd H10 tq (.tup [.ref pq, .int (i : Nat), .str a])) gl (.lst (refs (gqs GL') ++ [V.ref tq])) b = some (.lst xs) := fun b xs n e => by rw [upd_ne n]; exact w1 _ _ e
          obtain ⟨fo10, hfo10, _, _⟩ := M.obj f10
          have ef' : XL'.flatMap (·.pl) ++ NL.map (·.2) = (XL' ++ [(⟨x.tr ++ [a], NL.map (·.2)⟩ : XQ Int)]).flatMap (fun y => y.pl) := by rw [List.flatMap_append, List.flatMap_singleton]
          have P11 := P9.add hx9 (g := ⟨tq, pq, NL, i, a⟩) rfl
          have htq2 := (Kp.updL gl11 (.lst (refs (gqs GL') ++ [V.ref tq]))).tup _ _ htq
          refine ⟨GL' ++ [⟨tq, pq, NL, i, a⟩], _, _, _, rfl, sameIn (s10.trans w1) nglH, by rw [upd_same]; unfold gqs refs; rw [List.map_append, List.map_append] <;> rfl, fun y hy => ?_, P11, by rw [tkE]; exact I10, by rw [← ef']; exact M.fkp f10 kq (by rw [upd_ne dgl]; exact (w1 _ _ hfo10).trans hfo10.symm), fun p hp => ?_, by rw [List.length_append]; omega, fun k lk => ?_, up _ _ l2gl hl10, KT10.mono (by rw [upd_ne tdgl]; exact (w1 _ _ KT10.at_).trans KT10.at_.symm) fun b xs h n => ⟨up b xs n h, n⟩, hR10.kp kq⟩
          · rcases List.mem_append.mp hy with h | h
            · obtain ⟨h1, h2, h3, h4⟩ := G10 y h
              exact ⟨kq.tup _ _ h1, up _ _ h4 h2, h3.kp kq, h4⟩
            · rw [List.mem_singleton.mp h]
              exact ⟨htq2, up _ _ pgl hpq, hNL.kp kq, pgl⟩
          · rw [← ef'] at hp
            rcases List.mem_append.mp hp with h | h
            · exact U9 p h
            · exact NU p h
          · rw [List.getElem?_append_left (by omega)]
            exact old9 k lk
      · rintro σ H9 ⟨GL', XL', r8, r9, rfl, s9, gl9, G9, P9, I9, f9, U9, lG9, old9, hl9, KT9, hR9⟩
        rw [List.length_map, List.take_length] at I9
        have hx9 : XL'[i]? = some x := (old9 i (Nat.le_refl _)).trans hx
        have lX9 : (XL'.flatMap (·.pl)).length ≤ U.length := nd_le _ _ I9.nd U9
        have lG9' : GL'.length ≤ U.length := by have := I9.len; rw [P9.len]; omega
        refine ⟨_, rfl, _, _, rfl, rfl, ?_⟩
        refine ⟨_, (by show U.length + 1 - (i + 1) < U.length + 1 - i; omega), i + 1, GL', XL', _, _, _, rfl, rfl, s9, gl9, G9, P9, I9.next fun y hy a nda p hp q hq nt => ?_, f9, U9, by omega, fun k y hy lk p hp => ?_⟩
        · rw [hx9] at hy
          obtain rfl := Option.some.inj hy
          refine absurd ((mSK a).2 ((KT9.mem a).2 ⟨nt, ?_⟩)) nda
          intro e0
          have h := (memR a q).2 ⟨p, hp, hq⟩
          rw [e0] at h
          exact absurd h List.not_mem_nil
        · by_cases e : k < i
          · rw [old9 k (by omega)] at hy
            exact nr5 k y hy e p hp
          · obtain rfl : k = i := by omega
            rw [hx9] at hy
            obtain rfl := Option.some.inj hy
            exact nrx p hp
  · have e : i = GL.length := by have := of_decide_eq_false c; omega
    refine VJ.nx ?_
    have I6 : QInv mv z XL XL.length (fun _ => False) := by rw [← PQ5.len, ← e]; exact I5
    refine qn H5 s5 (I6.none_ (right := fun p => right p = true) fun y hy p hp => ?_)
    obtain ⟨j, hj⟩ := List.getElem?_of_mem hy
    exact nr5 j y hj (by rw [e, PQ5.len]; exact (List.getElem?_eq_some_iff.mp hj).1) p hp
end
end MGI
namespace MGB
abbrev s_least_trace : Stmt := top 19
theorem sc_least_trace : FnScope ["start", "edges_of", "is_sought", "found", "groups", "at", "place", "targets", "action", "places"] ["start", "edges_of", "is_sought"] (defScope s_least_trace) := ⟨rfl, rfl, rfl, by decide +kernel, rfl, by decide +kernel, by decide +kernel⟩
section
variable {P : Program} {w : World} {K : PySem.W.Frag} {mg : Str → Option Value} {base : Heap}
theorem c_lea {kf : Nat} (D : Df K mg "least_trace" s_least_trace) (z_len : mg "len" = none) (z_any : mg "any" = none) (z_sorted : mg "sorted" = none) (c_new_places : C8.Cal P w K mg base (kf + 1) "new_places" (spNp P w K mg base kf (KB P w K)) [])
    (c_targets_by_action : C8.Cal P w K mg base (kf + 1) "targets_by_action" (spTbG P w K mg base kf (KB P w K)) []) (c_trace_of_group : C8.Cal P w K mg base 1 "trace_of_group" (spTog K) []) : C8.Cal P w K mg base (kf + 2) "least_trace" (spLea P w K mg base kf (KB P w K)) [] := by
  refine D.cal sc_least_trace (fun _ _ _ _ _ _ us hl => match us, hl with | [_, _, _], _ => rfl) (fun vs H Q E h => ?_) (fun f cdv A outer s0 H vs Q E hr h => ?_)
  · obtain ⟨_, _, _, _, _, _, _, _, _, _, _, rfl, _⟩ := h
    rfl
  obtain ⟨sv, ef, sf, z, U, mv, right, φ, φ2, sp, sp2, rfl, hsv, zU, cU, lU, lmv, vc, hφ, run, vc2, hφ2, run2, qn, qt⟩ := h
  refine ⟨_, (pss_cons (ps_set (i := 3) sc_least_trace.nd rfl (Or.inl rfl) (VDN.pe_nnew (P := P) (w := w) rfl rfl))
    (pss_cons (ps_set (i := 4) sc_least_trace.nd rfl (Or.inl rfl) (pe_lst (pa_cons (pe_tup (pa_cons (C8.pe_c c_new_places hr (by first | decide | omega) rfl (pa_cons (pe_lst (pa_cons (pv 0) pa_nil)) (pa_cons (pv 1) (pa_cons (pv 3) pa_nil)))) (pa_cons pe_int (pa_cons pe_str pa_nil)))) pa_nil)))
    (pss_cons (ps_set (i := 5) sc_least_trace.nd rfl (Or.inl rfl) pe_int)
    (pss_cons (ps_while PassesOwn.never (pt_cmpR op_lt (pv 5) (pe_callB (VK.lenQ (K := K) rfl) (by rfl) z_len PySem.boot_len (pa_cons (pv 4) pa_nil)) (nomark _))
      (pss_cons (ps_if (pt_val (pe_callB (VKA.anyL (K := K) rfl rfl) (by rfl) z_any (by decide +kernel) (pa_cons (pe_lc (own := [("place", 6)]) (tt := tYes) rfl sc_least_trace.nd (pi_list (pe_ix (VK.ixT (K := K) rfl) (pe_ix (VK.ixL (K := K) rfl) (pv 4) (pv 5) (fun _ _ => rfl)) pe_int (fun _ _ => rfl))) (blkOk_by (N := ["start", "edges_of", "is_sought", "found", "groups", "at", "place", "targets", "action", "places"]) (sc := defScope s_least_trace) (by decide +kernel)) (fun _ _ _ _ _ => (pg_name (i := 6) sc_least_trace.nd rfl (Or.inl rfl) (hf := Or.inr rfl))) (fun _ _ _ _ _ => pts_nil) (fun _ _ _ _ _ => (VCb.pe_callValG (P := P) (w := w) (K := K) (mg := mg) (base := base) (i := 2) rfl rfl rfl rfl rfl hr (by first | exact Nat.le_refl _ | omega) rfl (by first | exact Or.inl rfl | exact Or.inr (Or.inl rfl) | exact Or.inr (Or.inr rfl)) (pa_cons (pv 6) pa_nil)))) pa_nil)))
        (pss_one (ps_ret (C8.pe_c c_trace_of_group hr (by first | decide | omega) rfl (pa_cons (pv 4) (pa_cons (pv 5) pa_nil)))))
        pss_nil)
      (pss_cons (ps_set (i := 7) sc_least_trace.nd rfl (Or.inl rfl) (C8.pe_c c_targets_by_action hr (by first | decide | omega) rfl (pa_cons (pe_ix (VK.ixT (K := K) rfl) (pe_ix (VK.ixL (K := K) rfl) (pv 4) (pv 5) (fun _ _ => rfl)) pe_int (fun _ _ => rfl)) (pa_cons (pv 1) pa_nil))))
      (pss_cons (ps_for PassesOwn.never rfl (pi_list (pe_callB (LW.MG.sortedDSm (P := P) (w := w) (K := K) rfl rfl rfl rfl hr) (by rfl) z_sorted (by decide +kernel) (pa_cons (pv 7) pa_nil))) (pg_name (i := 8) sc_least_trace.nd rfl (Or.inl rfl))
        (pss_cons (ps_set (i := 9) sc_least_trace.nd rfl (Or.inl rfl) (C8.pe_c c_new_places hr (by first | decide | omega) rfl (pa_cons (pe_dget (hu_of hr) (pv 7) (pv 8) (fun _ _ => rfl)) (pa_cons (pv 1) (pa_cons (pv 3) pa_nil)))))
        (pss_one (ps_if (pt_truth (pv 9) (by intro _; rfl))
          (pss_one (ps_expr (pe_bm PySem.F.plainAttrs_list PySem.F.slot_list_append PySem.F.type_list_append mt_append (pv 4) (pa_cons (pe_tup (pa_cons (pv 9) (pa_cons (pv 5) (pa_cons (pv 8) pa_nil)))) pa_nil))))
          pss_nil))))
      (pss_one (ps_aug (i := 5) sc_least_trace.nd rfl (.inl rfl) pe_int ip_add))))))
    (pss_one (ps_ret pe_non)))))), ?_⟩
  have zl := sizeLine_eq
  intro fd nfd
  have f0 := fB_nil (H := H) (d := fd) (P := P) (w := w) (K := K)
  have u1 := same_upd nfd (VDN.NdO P w fd [])
  refine VJ.nmS ?_
  generalize upd H fd (VDN.NdO P w fd []) = H1 at f0 u1 ⊢
  generalize (KB P w K) = M at hsv run run2 c_new_places c_targets_by_action f0 ⊢
  refine ⟨_, rfl, (by show 1 ≤ sizeLine; omega), fun sl nsl => ⟨_, rfl, _, rfl, ?_⟩⟩
  have u2 := same_upd nsl (.lst [sv])
  have hsl : upd H1 sl (.lst [sv]) sl = some (.lst (vs1 [(sv, z)])) := upd_same
  obtain ⟨fo, hfo, _, _⟩ := M.obj f0
  have f2 := M.fkp f0 (Kp.of u2) ((u2 _ _ hfo).trans hfo.symm)
  have u12 := u1.trans u2
  generalize upd H1 sl (.lst [sv]) = H2 at u12 u2 hsl f2 ⊢
  refine ⟨sl, ef, fd, [(sv, z)], [], U, mv, H, φ, sp, rfl, SqL.of hsl, fun x hx => by rw [List.mem_singleton.mp hx]; exact M.vkp hsv (Kp.of u12), (by show 1 ≤ 1000000; decide), u12, nfd, f2, List.nodup_nil, fun p hp => absurd hp List.not_mem_nil, fun x hx => by rw [List.mem_singleton.mp hx]; exact zU, cU, lU, lmv, vc, hφ, run, fun pq NL H3 b3 k3 npq hpq hNL f3 new3 => ?_⟩
  rw [List.nil_append] at f3
  have s3 : Same H H3 := fun c o e => b3 c o (ne_of_none e nfd) (u12 c o e)
  refine ⟨(by show 3 ≤ sizeLine; omega), fun tq ntq => ⟨(by show 1 ≤ sizeLine; omega), fun gl ngl => VJ.nmS (VJ.nmS ?_)⟩⟩
  have w4 := (same_upd ntq (.tup [.ref pq, .int 0, .str ""])).trans (same_upd ngl (.lst [.ref tq]))
  have hgl : upd (upd H3 tq (.tup [.ref pq, .int 0, .str ""])) gl (.lst [.ref tq]) gl = some (.lst (refs (gqs [(⟨tq, pq, NL, 0, ""⟩ : Gq BP)]))) := upd_same
  have htq : upd (upd H3 tq (.tup [.ref pq, .int 0, .str ""])) gl (.lst [.ref tq]) tq = some (.tup [.ref pq, .int ((0 : Nat) : Int), .str ""]) := (same_upd ngl (.lst [.ref tq])) _ _ upd_same
  have nglH : H gl = none := s3.free ((same_upd ntq (.tup [.ref pq, .int 0, .str ""])).free ngl)
  have pgl : pq ≠ gl := ne_of_none ((same_upd ntq (.tup [.ref pq, .int 0, .str ""])) _ _ hpq) ngl
  obtain ⟨fo3, hfo3, _, _⟩ := M.obj f3
  have dgl : fd ≠ gl := ne_of_none ((same_upd ntq (.tup [.ref pq, .int 0, .str ""])) _ _ hfo3) ngl
  have s4 := s3.trans w4
  have f4 := M.fkp f3 (Kp.of w4) ((w4 _ _ hfo3).trans hfo3.symm)
  have hpq4 := w4 _ _ hpq
  have hNL4 := hNL.kp (Kp.of w4)
  generalize upd (upd H3 tq (.tup [.ref pq, .int 0, .str ""])) gl (.lst [.ref tq]) = H4 at hgl htq s4 f4 hpq4 hNL4 ⊢
  have P0 : PQ [(⟨tq, pq, NL, 0, ""⟩ : Gq BP)] [⟨[], NL.map (·.2)⟩] := ⟨rfl, fun i g x h1 h2 => by
    match i, h1, h2 with
    | 0, h1, h2 =>
      obtain rfl := Option.some.inj h1
      obtain rfl := Option.some.inj h2
      exact ⟨rfl, .zero⟩
    | _ + 1, h1, _ => cases h1⟩
  have U0 : ∀ p ∈ NL.map (·.2), p ∈ U := fun p hp => by
    have r : ∀ {q}, Rts mv [z] q → q ∈ U := fun {q} r => by
      induction r with
      | base h => rw [List.mem_singleton.mp h]; exact zU
      | step _ e ih => exact cU _ ih _ e
    exact r (new3.from_ p hp)
  refine ⟨fun m σ H' => ∃ (i : Nat) (GL : List (Gq BP)) (XL : List (XQ BP)) (r7 r8 r9 : Option V), m = U.length + 1 - i ∧ σ = [some sv, some (.ref ef), some (.ref sf), some (.ref fd), some (.ref gl), some (.int (i : Nat)), none, r7, r8, r9] ∧ Same H H' ∧ H' gl = some (.lst (refs (gqs GL))) ∧ GqAt M gl H' GL ∧ PQ GL XL ∧ QInv mv z XL i (fun _ => False) ∧
      M.fnd H' fd (XL.flatMap (·.pl)) ∧ (∀ p ∈ XL.flatMap (·.pl), p ∈ U) ∧ i ≤ GL.length ∧ (∀ j y, XL[j]? = some y → j < i → ∀ p ∈ y.pl, ¬ right p = true),
    ⟨_, 0, [⟨tq, pq, NL, 0, ""⟩], [⟨[], NL.map (·.2)⟩], none, none, none, rfl, rfl, s4, hgl, fun g hg => by rw [List.mem_singleton.mp hg]; exact ⟨htq, hpq4, hNL4, pgl⟩, P0, .first (show NewP mv [z] [] (NL.map (·.2)) from new3), by rw [List.flatMap_singleton]; exact f4, by rw [List.flatMap_singleton]; exact U0, Nat.zero_le _, fun j y _ l => absurd l (Nat.not_lt_zero _)⟩, ?_⟩
  clear s4 hgl P0 f4 U0 hNL4 hpq4 htq w4 f3 b3 k3 hpq hNL new3 s3 pgl hfo3
  rintro m σ H5 ⟨i, GL, XL, r7, r8, r9, rfl, rfl, s5, hgl5, G5, PQ5, I5, f5, U5, li, nr5⟩
  have lX : (XL.flatMap (·.pl)).length ≤ U.length := nd_le _ _ I5.nd U5
  have lG : GL.length ≤ U.length := by have := I5.len; rw [PQ5.len]; omega
  refine ⟨_, rfl, _, rfl, gl, _, rfl, .inl (SqL.of hgl5), _, _, rfl, rfl, _, rfl, ?_⟩
  rw [refs_len, List.length_map]
  refine VUt.ite2b (fun c => ?_) (fun c => ?_)
  · have lt : i < GL.length := by have := of_decide_eq_true c; omega
    obtain ⟨g, hg⟩ : ∃ g, GL[i]? = some g := ⟨GL[i], List.getElem?_eq_getElem lt⟩
    obtain ⟨x, hx, exs, trx⟩ := PQ5.get hg
    have gin := List.mem_of_getElem? hg
    obtain ⟨g1, g2, g3, g4⟩ := G5 g gin
    have hat : atI (refs (gqs GL)) ((i : Nat) : Int) = some (.ref g.q) := atI_nat (by unfold refs gqs; rw [List.map_map, List.getElem?_map, hg] <;> rfl)
    have plU : ∀ y ∈ g.pl, y.2 ∈ U := fun y hy => U5 _ (List.mem_flatMap.mpr ⟨x, List.mem_of_getElem? hx, by rw [exs]; exact List.mem_map_of_mem hy⟩)
    have lpl : g.pl.length ≤ 1000 := by
      have := len_flatM (fun x : XQ BP => x.pl) (List.mem_of_getElem? hx)
      rw [exs, List.length_map] at this
      omega
    refine ⟨fun σ' H' => ∃ m', m' < U.length + 1 - i ∧ _, fun σ' H' z => z, ?_⟩
    refine ⟨_, rfl, _, rfl, gl, _, _, _, rfl, rfl, SqL.of hgl5, hat, ?_⟩
    refine ⟨g.q, _, _, _, rfl, rfl, .inl (.inl g1), rfl, g.pa, rfl, ⟨_, SqL.of g2⟩, fun D1 nD => ?_⟩
    refine lc_list (K := K) (a := g.pa) (xs := vs1 g.pl) (fun j H2 => Same H5 H2 ∧ H2 D1 = some (.lst (((g.pl.take j).map fun y => right y.2).map V.bl)))
      ⟨same_upd nD _, upd_same⟩ (fun j H2 _ z => z.1.seq (SqL.of g2)) ?_ ?_
    · rintro j v H6 hv ⟨s6, hD⟩
      rw [List.getElem?_map] at hv
      obtain ⟨y, hy, rfl⟩ := Option.map_eq_some_iff.mp hv
      have yin := List.mem_of_getElem? hy
      have ltj := (List.getElem?_eq_some_iff.mp hy).1
      refine ⟨rfl, ?_⟩
      unfold tYes
      refine iteT ?_
      have s56 := s5.trans s6
      refine ⟨sf, φ2, sp2, rfl, vc2, hφ2 _ s56, _, rfl, hφ2 _ s56, run2 y.2 y.1 H6 _ (plU y yin) s56 (g3.kp (Kp.of s6) y yin) fun H7 s7 => ⟨_, s7 _ _ hD, ?_, sameIn (s6.trans s7) nD, ?_⟩⟩
      · rw [List.length_map, List.length_map, List.length_take]; omega
      · rw [upd_same, List.take_succ, hy, Option.toList_some, List.map_append, List.map_append] <;> rfl
    rintro H6 ⟨s6, hD⟩
    rw [List.length_map, List.take_length] at hD
    refine ⟨D1, _, rfl, SqL.of hD, _, rfl, ?_⟩
    have s56 := s5.trans s6
    have eb : ((g.pl.map fun y => right y.2).any id) = true ↔ ∃ p ∈ x.pl, right p = true := by
      rw [List.any_map, List.any_eq_true, exs]
      constructor
      · rintro ⟨y, hy, h⟩
        exact ⟨y.2, List.mem_map_of_mem hy, h⟩
      · rintro ⟨p, hp, h⟩
        obtain ⟨y, hy, rfl⟩ := List.mem_map.mp hp
        exact ⟨y, hy, h⟩
    generalize (g.pl.map fun y => right y.2).any id = bo at eb ⊢
    have gl6 := s6 _ _ hgl5
    refine VUt.ite2b (fun cb => ?_) (fun cb => ?_)
    · refine ⟨_, rfl, _, rfl, gl, gqs GL, i, x.tr, rfl, SqL.of gl6, fun y hy => ?_, by rw [gqs_2]; exact trx, by omega, fun q H7 s7 hq => qt x.tr q H7 (s56.trans s7) hq (I5.least hx nr5 (eb.1 cb))⟩
      obtain ⟨g', hg', rfl⟩ := List.mem_map.mp hy
      exact ⟨[.ref g'.pa], (by show 1 ≤ 1; decide), (by show 1 ≤ 10; decide), .inl (.inl (s6 _ _ (G5 g' hg').1))⟩
    · refine VJ.nxT ?_
      have nrx : ∀ p ∈ x.pl, ¬ right p = true := fun p hp h => by rw [eb.2 ⟨p, hp, h⟩] at cb; cases cb
      obtain ⟨fo5, hfo5, _, _⟩ := M.obj f5
      have f6 := M.fkp f5 (Kp.of s6) ((s6 _ _ hfo5).trans hfo5.symm)
      have G6 : GqAt M gl H6 GL := G5.kp (Kp.of s6) fun b xs _ e => s6 _ _ e
      clear G5 f5 hgl5 s5 hD
      obtain ⟨g1, g2, g3, _⟩ := G6 g gin
      refine ⟨_, rfl, _, rfl, gl, _, _, _, rfl, rfl, SqL.of gl6, hat, g.q, _, _, _, rfl, rfl, .inl (.inl g1), rfl, _, rfl, g.pa, ef, g.pl, U, mv, H, φ, sp, rfl, SqL.of g2, g3, lpl, plU, lmv, s56, vc, hφ, run, fun td kvs ks R H7 s7 ntd KT eR hR => VJ.nmS ?_⟩
      have s67 := s56.trans s7
      have gl7 := s7 _ _ gl6
      have G7 : GqAt M gl H7 GL := G6.kp (Kp.of s7) fun b xs _ e => s7 _ _ e
      obtain ⟨fo6, hfo6, _, _⟩ := M.obj f6
      have f7 := M.fkp f6 (Kp.of s7) ((s7 _ _ hfo6).trans hfo6.symm)
      have tdgl : td ≠ gl := (ne_of_none gl6 ntd).symm
      have tdfd : td ≠ fd := (ne_of_none hfo6 ntd).symm
      have KT7 : KTg (fun b => b ≠ gl) H7 td R kvs ks := KT.mono rfl fun b xs h h0 => ⟨h, (ne_of_none gl6 h0).symm⟩
      clear KT G6 f6 gl6 s56 s6 s7 g1 g2 g3
      obtain ⟨SK, eSK⟩ : ∃ SK, SK = ks.mergeSort (PySem.W.dataLe false PyData.str) := ⟨_, rfl⟩
      have mSK : ∀ a, a ∈ SK ↔ a ∈ ks := fun a => by rw [eSK]; exact List.mem_mergeSort
      have aSK : SK.Pairwise sLt := by rw [eSK]; exact sorted_sLtm KT7.nd
      refine ⟨_, rfl, td, kvs, ks, rfl, .inl KT7.at_, KT7.keys, fun l2 nl2 => ?_⟩
      rw [← eSK]
      have w8 := same_upd nl2 (.lst (SK.map V.str))
      have hl2 : upd H7 l2 (.lst (SK.map V.str)) l2 = some (.lst (SK.map V.str)) := upd_same
      have l2gl : l2 ≠ gl := (ne_of_none gl7 nl2).symm
      obtain ⟨fo7, hfo7, _, _⟩ := M.obj f7
      have f8 := M.fkp f7 (Kp.of w8) ((w8 _ _ hfo7).trans hfo7.symm)
      have gl8 := w8 _ _ gl7
      have G8 : GqAt M gl (upd H7 l2 (.lst (SK.map V.str))) GL := G7.kp (Kp.of w8) fun b xs _ e => w8 _ _ e
      have KT8 := KT7.same w8
      have s68 := s67.trans w8
      have hR8 := hR.kp (Kp.of w8)
      generalize upd H7 l2 (.lst (SK.map V.str)) = H8 at w8 hl2 f8 gl8 G8 KT8 s68 hR8 ⊢
      clear KT7 f7 gl7 G7 s67 hR w8
      have I0 : QInv mv z XL i fun d => d ∈ SK.take 0 := by
        refine ⟨I5.asc, I5.sound, I5.tau, I5.vis, fun y hy a ha => ?_, I5.st, fun y hy => ?_, I5.nd, I5.ne⟩
        · rw [List.take_zero] at ha; cases ha
        · rcases I5.ord y hy with h | ⟨b, y, a, h1, h2, h3⟩
          · exact .inl h
          · exact .inr ⟨b, y, a, h1, h2, .inl (h3.resolve_right fun h => h.2)⟩
      have memR : ∀ (a : Str) (q : BP), q ∈ (tgG R a).map (·.2) ↔ ∃ p ∈ x.pl, (a, q) ∈ mv p := fun a q => by
        have e1 : (a, q) ∈ mvR R ↔ ∃ p ∈ x.pl, (a, q) ∈ mv p := by rw [eR, exs, List.mem_flatMap]
        rw [← e1, List.mem_map, List.mem_map]
        constructor
        · rintro ⟨y, hy, rfl⟩
          exact ⟨_, tgG_mem.1 hy, rfl⟩
        · rintro ⟨y, hy, e⟩
          injection e with e1 e2
          refine ⟨y.2, tgG_mem.2 ?_, e2⟩
          rw [← e1]
          exact hy
      have lR : R.length ≤ 1000000 := by
        have e := congrArg List.length eR
        rw [List.length_map] at e
        rw [e]
        refine Nat.le_trans (flat_leM mv 1000 lmv (g.pl.map (·.2))) ?_
        rw [List.length_map]
        exact Nat.mul_le_mul_right 1000 lpl
      refine ⟨l2, rfl, ⟨_, SqL.of hl2⟩, for_list (K := K) (a := l2) (xs := SK.map V.str)
        (fun j σ H' => ∃ (GL' : List (Gq BP)) (XL' : List (XQ BP)) (r8 r9 : Option V), σ = [some sv, some (.ref ef), some (.ref sf), some (.ref fd), some (.ref gl), some (.int (i : Nat)), none, some (.ref td), r8, r9] ∧ Same H H' ∧ H' gl = some (.lst (refs (gqs GL'))) ∧ GqAt M gl H' GL' ∧ PQ GL' XL' ∧ QInv mv z XL' i (fun d => d ∈ SK.take j) ∧
          M.fnd H' fd (XL'.flatMap (·.pl)) ∧ (∀ p ∈ XL'.flatMap (·.pl), p ∈ U) ∧ GL.length ≤ GL'.length ∧ (∀ k, k ≤ i → XL'[k]? = XL[k]?) ∧ H' l2 = some (.lst (SK.map V.str)) ∧ KTg (fun b => b ≠ gl) H' td R kvs ks ∧ Pvs M H' (R.map (·.2)))
        ⟨GL, XL, _, _, rfl, s68, gl8, G8, PQ5, I0, f8, U5, Nat.le_refl _, fun _ _ => rfl, hl2, KT8, hR8⟩ (fun j σ H' _ ⟨_, _, _, _, _, _, _, _, _, _, _, _, _, _, h, _⟩ => SqL.of h) ?_ ?_⟩
      · clear s68 gl8 G8 PQ5 I0 I5 f8 U5 hl2 KT8 hR8 lX lG
        rintro j v σ H9 hv ⟨GL', XL', r8, r9, rfl, s9, gl9, G9, P9, I9, f9, U9, lG9, old9, hl9, KT9, hR9⟩
        rw [List.getElem?_map] at hv
        obtain ⟨a, ha, rfl⟩ := Option.map_eq_some_iff.mp hv
        have ain := List.mem_of_getElem? ha
        have ak := (mSK a).1 ain
        have lX9 : (XL'.flatMap (·.pl)).length ≤ U.length := nd_le _ _ I9.nd U9
        have lG9' : GL'.length ≤ U.length := by have := I9.len; rw [P9.len]; omega
        have hx9 : XL'[i]? = some x := (old9 i (Nat.le_refl _)).trans hx
        have lix := (List.getElem?_eq_some_iff.mp hx9).1
        have tkE : (fun d => d ∈ SK.take (j + 1)) = fun d => d ∈ SK.take j ∨ d = a := funext fun d => propext (by rw [List.take_succ, ha]; simp)
        have les : ∀ d, d ∈ SK.take j → sLt d a := fun d hd => by
          obtain ⟨k, hk⟩ := List.getElem?_of_mem hd
          have lk : k < j := by have := (List.getElem?_eq_some_iff.mp hk).1; rw [List.length_take] at this; omega
          rw [List.getElem?_take_of_lt lk] at hk
          obtain ⟨l1, e1⟩ := List.getElem?_eq_some_iff.mp hk
          obtain ⟨l2, e2⟩ := List.getElem?_eq_some_iff.mp ha
          have := List.pairwise_iff_getElem.mp aSK k j l1 l2 lk
          rw [e1, e2] at this
          exact this
        obtain ⟨na, nea⟩ := (KT9.mem a).1 ak
        obtain ⟨bl, hbl, hbv, obl⟩ := KT9.val a ak
        have gd := DGet.k (k := .inr a) KT9.at_
        rw [hbl] at gd
        have tgU : ∀ y ∈ tgG R a, y.2 ∈ U := fun y hy => by
          obtain ⟨p, hp, h⟩ := (memR a y.2).1 (List.mem_map_of_mem hy)
          exact cU p (U9 p (List.mem_flatMap.mpr ⟨x, List.mem_of_getElem? hx9, hp⟩)) _ h
        have ltg := tgG_len R a
        refine VJ.nm ?_
        refine ⟨_, rfl, _, rfl, td, _, rfl, gd, _, rfl, _, rfl, bl, ef, fd, tgG R a, XL'.flatMap (·.pl), U, mv, H, φ, sp, rfl, SqL.of hbv, fun y hy => hR9 y (List.mem_map.mpr ⟨(a, y), tgG_mem.1 hy, rfl⟩), by omega, s9, nfd, f9, I9.nd, U9, tgU, cU, lU, lmv, vc, hφ, run, fun pq NL H10 b10 k10 npq hpq hNL f10 new10 => ?_⟩
        have s10 : Same H H10 := fun c o e => b10 c o (ne_of_none e nfd) (s9 c o e)
        have gl10 := b10 _ _ dgl.symm gl9
        have lst10 : ∀ b xs, H9 b = some (.lst xs) → H10 b = some (.lst xs) := fun b xs e => by
          obtain ⟨fo9, hfo9, n9, _⟩ := M.obj f9
          refine b10 b _ (fun h => ?_) e
          rw [h, hfo9] at e
          exact n9 xs (Option.some.inj e)
        have G10 : GqAt M gl H10 GL' := G9.kp k10 fun b xs _ e => lst10 b xs e
        have hl10 := lst10 _ _ hl9
        have KT10 : KTg (fun b => b ≠ gl) H10 td R kvs ks := KT9.mono ((b10 _ _ tdfd KT9.at_).trans KT9.at_.symm) fun b xs h n => ⟨lst10 b xs h, n⟩
        have hR10 := hR9.kp k10
        have I10 := I9.add hx9 les na (memR a) rfl new10
        have NU : ∀ p ∈ NL.map (·.2), p ∈ U := fun p hp => by
          have r : ∀ {q}, Rts mv ((tgG R a).map (·.2)) q → q ∈ U := fun {q} r => by
            induction r with
            | base h => obtain ⟨y, hy, rfl⟩ := List.mem_map.mp h; exact tgU y hy
            | step _ e ih => exact cU _ ih _ e
          exact r (new10.from_ p hp)
        have pgl : pq ≠ gl := (ne_of_none gl9 npq).symm
        clear G9 gl9 KT9 hR9 hl9 s9 b10 k10
        refine ⟨_, rfl, !(vs1 NL).isEmpty, .inl ⟨_, SqL.of hpq, rfl⟩, ?_⟩
        by_cases eN : NL = []
        · subst eN
          rw [if_pos (by rfl)] at I10
          rw [List.map_nil, List.append_nil] at f10
          refine iteF (VJ.nxT ?_)
          exact ⟨GL', XL', _, _, rfl, s10, gl10, G10, P9, by rw [tkE]; exact I10, f10, U9, lG9, old9, hl10, KT10, hR10⟩
        · have en : (!(vs1 NL).isEmpty) = true := by cases NL with
            | nil => exact absurd rfl eN
            | cons _ _ => rfl
          have en2 : NL.map (·.2) ≠ [] := fun h => eN (List.map_eq_nil_iff.mp h)
          rw [if_neg en2] at I10
          rw [en]
          refine iteT ?_
          refine ⟨_, rfl, .inl ⟨rfl, _, SqL.of gl10⟩, _, rfl, _, rfl, _, rfl, (by show 3 ≤ sizeLine; omega), fun tq ntq => ?_⟩
          have w1 := same_upd ntq (.tup [.ref pq, .int (i : Nat), .str a])
          have htq : upd H10 tq (.tup [.ref pq, .int (i : Nat), .str a]) tq = some (.tup [.ref pq, .int (i : Nat), .str a]) := upd_same
          have gl11 := w1 _ _ gl10
          refine ⟨gl, _, _, rfl, rfl, gl11, by rw [List.length_map, List.length_map]; omega, ?_⟩
          have kq := (Kp.of w1).trans (Kp.updL gl11 (.lst (refs (gqs GL') ++ [V.ref tq])))
          have up : ∀ b xs, b ≠ gl → H10 b = some (.lst xs) → upd (upd H10 tq (.tup [.ref pq, .int (i : Nat), .str a])) gl (.lst (refs (gqs GL') ++ [V.ref tq])) b = some (.lst xs) := fun b xs n e => by rw [upd_ne n]; exact w1 _ _ e
          obtain ⟨fo10, hfo10, _, _⟩ := M.obj f10
          have ef' : XL'.flatMap (·.pl) ++ NL.map (·.2) = (XL' ++ [(⟨x.tr ++ [a], NL.map (·.2)⟩ : XQ BP)]).flatMap (fun y => y.pl) := by rw [List.flatMap_append, List.flatMap_singleton]
          have P11 := P9.add hx9 (g := ⟨tq, pq, NL, i, a⟩) rfl
          have htq2 := (Kp.updL gl11 (.lst (refs (gqs GL') ++ [V.ref tq]))).tup _ _ htq
          refine ⟨GL' ++ [⟨tq, pq, NL, i, a⟩], _, _, _, rfl, sameIn (s10.trans w1) nglH, by rw [upd_same]; unfold gqs refs; rw [List.map_append, List.map_append] <;> rfl, fun y hy => ?_, P11, by rw [tkE]; exact I10, by rw [← ef']; exact M.fkp f10 kq (by rw [upd_ne dgl]; exact (w1 _ _ hfo10).trans hfo10.symm), fun p hp => ?_, by rw [List.length_append]; omega, fun k lk => ?_, up _ _ l2gl hl10, KT10.mono (by rw [upd_ne tdgl]; exact (w1 _ _ KT10.at_).trans KT10.at_.symm) fun b xs h n => ⟨up b xs n h, n⟩, hR10.kp kq⟩
          · rcases List.mem_append.mp hy with h | h
            · obtain ⟨h1, h2, h3, h4⟩ := G10 y h
              exact ⟨kq.tup _ _ h1, up _ _ h4 h2, h3.kp kq, h4⟩
            · rw [List.mem_singleton.mp h]
              exact ⟨htq2, up _ _ pgl hpq, hNL.kp kq, pgl⟩
          · rw [← ef'] at hp
            rcases List.mem_append.mp hp with h | h
            · exact U9 p h
            · exact NU p h
          · rw [List.getElem?_append_left (by omega)]
            exact old9 k lk
      · rintro σ H9 ⟨GL', XL', r8, r9, rfl, s9, gl9, G9, P9, I9, f9, U9, lG9, old9, hl9, KT9, hR9⟩
        rw [List.length_map, List.take_length] at I9
        have hx9 : XL'[i]? = some x := (old9 i (Nat.le_refl _)).trans hx
        have lX9 : (XL'.flatMap (·.pl)).length ≤ U.length := nd_le _ _ I9.nd U9
        have lG9' : GL'.length ≤ U.length := by have := I9.len; rw [P9.len]; omega
        refine ⟨_, rfl, _, _, rfl, rfl, ?_⟩
        refine ⟨_, (by show U.length + 1 - (i + 1) < U.length + 1 - i; omega), i + 1, GL', XL', _, _, _, rfl, rfl, s9, gl9, G9, P9, I9.next fun y hy a nda p hp q hq nt => ?_, f9, U9, by omega, fun k y hy lk p hp => ?_⟩
        · rw [hx9] at hy
          obtain rfl := Option.some.inj hy
          refine absurd ((mSK a).2 ((KT9.mem a).2 ⟨nt, ?_⟩)) nda
          intro e0
          have h := (memR a q).2 ⟨p, hp, hq⟩
          rw [e0] at h
          exact absurd h List.not_mem_nil
        · by_cases e : k < i
          · rw [old9 k (by omega)] at hy
            exact nr5 k y hy e p hp
          · obtain rfl : k = i := by omega
            rw [hx9] at hy
            obtain rfl := Option.some.inj hy
            exact nrx p hp
  · have e : i = GL.length := by have := of_decide_eq_false c; omega
    refine VJ.nx ?_
    have I6 : QInv mv z XL XL.length (fun _ => False) := by rw [← PQ5.len, ← e]; exact I5
    refine qn H5 s5 (I6.none_ (right := fun p => right p = true) fun y hy p hp => ?_)
    obtain ⟨j, hj⟩ := List.getElem?_of_mem hy
    exact nr5 j y hj (by rw [e, PQ5.len]; exact (List.getElem?_eq_some_iff.mp hj).1) p hp
end
end MGB
end MG
end LW

set_option Elab.async false
set_option linter.all false
set_option maxRecDepth 100000
set_option maxHeartbeats 4000000
namespace LW
open PySem PySem.Spec PyProof.Rows L2 LamX NdefX VB VM VP VE VX
abbrev s_System___eq__ : Stmt := inClass (top 31) 1
section
variable {P : Program} {w : World} {K : PySem.W.Frag} {mg : Str → Option Value} {base : Heap}
/-- systems compared -/
def reqB (K : PySem.W.Frag) (C : Addr) : Addr → Addr → Bool → Hp → Prop := fun a b r H => ∃ (φ ψ : Addr → Prop) (n m : Int) (E F : List Ed), SysAt K φ C H a n E ∧ SysAt K ψ C H b m F ∧ r = decide (n = m ∧ E = F)
end
end LW

set_option Elab.async false
set_option linter.all false
set_option maxRecDepth 100000
set_option maxHeartbeats 4000000
namespace LW
open PySem PySem.Spec PyProof.Rows L2 LamX NdefX VB VM VP VE VX
section
variable {P : Program} {w : World} {K : PySem.W.Frag} {mg : Str → Option Value} {base : Heap}
def spEvs (K : PySem.W.Frag) (C : Addr) : Sp := fun vs H Q _ => ∃ (φ : Addr → Prop) (p : Addr) (n : Int) (E0 : List Ed), vs = [.ref p] ∧ SysAt K φ C H p n E0 ∧ E0.length ≤ 1000 ∧
  ∀ (q : Addr) (H' : Hp), Same H H' → H' q = some (.tup ((srtS (evs E0)).map V.str)) → Q (.ref q) H'
end
end LW

set_option Elab.async false
set_option linter.all false
set_option maxRecDepth 100000
set_option maxHeartbeats 4000000
namespace LW
open PySem PySem.Spec PyProof.Rows L2 LamX NdefX VB VM VP VE VX
theorem sc_System_leaving : FnScope ["self", "state"] ["self", "state"] (defScope s_System_leaving) := ⟨rfl, rfl, rfl, by decide +kernel, rfl, by decide +kernel, by decide +kernel⟩
section
variable {P : Program} {w : World} {K : PySem.W.Frag} {mg : Str → Option Value} {base : Heap}
/-- a copy of the row -/
def spLeavX (K : PySem.W.Frag) (C CB : Addr) : Sp := fun vs H Q E => ∃ (φ : Addr → Prop) (p : Addr) (n : Int) (E0 : List Ed) (s : Int), vs = [.ref p, .int s] ∧ SysAt K φ C H p n E0 ∧ (¬ (0 ≤ s ∧ s < n) → E (.ref CB) none H) ∧
  (0 ≤ s ∧ s < n → ∀ (q : Addr) (LP : List (Addr × Pr)), H q = none → LP.map (·.2) = leav E0 s → Pqs K H LP → Q (.ref q) (upd H q (.lst (refs LP))))
theorem c_leavingX {C CB f : Addr} {fd : FuncData} (T : SysTxt K C) (me : Meth K C "leaving" f) (F : FunD K "leaving" "System.leaving" (defArgs s_System_leaving) (defBody s_System_leaving) (defScope s_System_leaving) [] [] f fd)
    (z_list : mg "list" = none) (c_System__check_state : VE.MetX P w K mg base 1 C "_check_state" (spStX K C CB)) : VE.MetX P w K mg base 2 C "leaving" (spLeavX K C CB) := by
  refine metXOf T.cl me F sc_System_leaving (fun _ _ _ _ _ _ us hl => match us, hl with | [_, _], _ => rfl) (fun vs H Q E h => ?_) (fun cdv A outer s H vs Q E hr h => ?_)
  · obtain ⟨φ, p, n, E0, s, rfl, _⟩ := h
    rfl
  obtain ⟨φ, p, n, E0, s, rfl, SA, qe, q⟩ := h
  have SA' := SA
  obtain ⟨⟨dx, te, ll, td, LE, rows, kvs, S⟩, _, _⟩ := SA
  refine ⟨_, (pss_cons (ps_expr (VE.pe_mX c_System__check_state hr (by first | decide | omega) (takes_of rfl rfl rfl rfl) (pv 0) (pa_cons (pv 1) pa_nil)))
    (pss_one (ps_ret (pe_callTy (VK.listQ (K := K) rfl) (by rfl) z_list (by decide +kernel) (pa_cons (pe_ix (VK.ixL (K := K) rfl) (pe_fld (pv 0) rfl) (pv 1) (fun _ _ => rfl)) pa_nil))))), ?_⟩
  refine ⟨_, rfl, p, dx, _, rfl, S.hp, fl_none n te ll td (by decide +kernel) (by decide +kernel) (by decide +kernel) (by decide +kernel), _, rfl, φ, p, n, E0, s, rfl, SA', fun hs => ?_, qe⟩
  obtain ⟨a, LP, hat, g1, g2, g3⟩ := S.rowAt hs.1 hs.2
  exact ⟨_, rfl, p, C, dx, _, _, rfl, S.hp, T.cl, T.n2, fl_leav n te ll td, _, rfl, ll, _, _, _, rfl, rfl, SqL.of S.hl, hat, a, _, rfl, .inl (SqL.of g1), fun q' nq => q hs q' LP nq g3 g2⟩
end
end LW

set_option Elab.async false
set_option linter.all false
set_option maxRecDepth 100000
set_option maxHeartbeats 400000
namespace LW
open PySem PySem.Spec PyProof.Rows L2 LamX NdefX VB VM VP VE VX VQ VZ VD
namespace MG
/-! what a system's traces lead to -/
/-- the last action is "tick" -/
def lastT (u : List Str) : Bool := decide (u.getLast? = some ("tick" : Str))
theorem lastT_snoc (u : List Str) (a : Str) : lastT (u ++ [a]) = decide (a = ("tick" : Str)) := by
  unfold lastT
  simp
def stp (b : Bool) (x : Pr) : Str × BP := (x.1, (x.2, decide (x.1 = ("tick" : Str)) || (decide (x.1 = ("tau" : Str)) && b)))
def mvB (E : List Ed) (p : BP) : List (Str × BP) := (leav E p.1).map (stp p.2)
theorem mvB_mem {E : List Ed} {p q : BP} {a : Str} : (a, q) ∈ mvB E p ↔ (a, q.1) ∈ leav E p.1 ∧ q.2 = (decide (a = ("tick" : Str)) || (decide (a = ("tau" : Str)) && p.2)) := by
  unfold mvB
  rw [List.mem_map]
  constructor
  · rintro ⟨x, hx, e⟩
    injection e with e1 e2
    subst e1
    rw [← e2]
    exact ⟨hx, rfl⟩
  · rintro ⟨h1, h2⟩
    refine ⟨(a, q.1), h1, ?_⟩
    unfold stp
    rw [← h2]
theorem rpB {E : List Ed} {u : List Str} {p : BP} : Rp (mvB E) (0, false) u p ↔ Rp (leav E) 0 u p.1 ∧ p.2 = lastT u := by
  constructor
  · intro h
    induction h with
    | st => exact ⟨.st, rfl⟩
    | tau _ e ih =>
      obtain ⟨h1, h2⟩ := mvB_mem.1 e
      refine ⟨.tau ih.1 h1, ?_⟩
      rw [h2, ih.2, decide_eq_false (by decide +kernel), decide_eq_true rfl, Bool.false_or, Bool.true_and]
    | vis _ e na ih =>
      obtain ⟨h1, h2⟩ := mvB_mem.1 e
      refine ⟨.vis ih.1 h1 na, ?_⟩
      rw [h2, lastT_snoc, decide_eq_false na, Bool.false_and, Bool.or_false]
  · rintro ⟨h, e⟩
    obtain ⟨s, b⟩ := p
    replace h : Rp (leav E) 0 u s := h
    replace e : b = lastT u := e
    subst e
    induction h with
    | st => exact .st
    | tau _ e ih =>
      refine .tau ih (mvB_mem.2 ⟨e, ?_⟩)
      rw [decide_eq_false (by decide +kernel), decide_eq_true rfl, Bool.false_or, Bool.true_and]
    | vis _ e na ih =>
      refine .vis ih (mvB_mem.2 ⟨e, ?_⟩) na
      rw [lastT_snoc, decide_eq_false na, Bool.false_and, Bool.or_false]
/-- states after a trace -/
theorem rp_runs {E : List Ed} {c0 : List Int} (h0 : IsClo E [0] c0) : ∀ {u : List Str} {cs : List Int}, Runs E c0 u.reverse cs → (∀ a ∈ u, a ≠ ("tau" : Str)) → ∀ s, s ∈ cs ↔ Rp (leav E) 0 u.reverse s
  | [], cs, r, _, s => by
    rw [List.reverse_nil] at r ⊢
    obtain rfl : c0 = cs := by simpa [Runs, eq_comm] using r
    rw [h0.2]
    constructor
    · intro h
      induction h with
      | base h => rw [List.mem_singleton.mp h]; exact .st
      | step _ e ih => exact .tau ih (leav_mem.2 e)
    · intro h
      have k : ∀ {v : List Str} {t : Int}, Rp (leav E) 0 v t → v = [] → Rch E [0] t := fun {v t} h => by
        induction h with
        | st => exact fun _ => .base (List.mem_singleton.mpr rfl)
        | tau _ e ih => exact fun z => .step (ih z) (leav_mem.1 e)
        | vis _ _ _ _ => exact fun z => absurd z (by simp)
      exact k h rfl
  | a :: u, cs, r, nt, s => by
    rw [List.reverse_cons] at r ⊢
    obtain ⟨es, r1, r2⟩ := runs_snoc.1 r
    have ih := rp_runs h0 r1 fun b hb => nt b (List.mem_cons_of_mem _ hb)
    have na := nt a List.mem_cons_self
    rw [r2.2]
    constructor
    · intro h
      induction h with
      | base h =>
        obtain ⟨t, ht, e⟩ := aft_mem.mp h
        exact .vis ((ih t).1 ht) (leav_mem.2 e) na
      | step _ e ih => exact .tau ih (leav_mem.2 e)
    · intro h
      have k : ∀ {v : List Str} {t : Int}, Rp (leav E) 0 v t → v = u.reverse ++ [a] → Rch E (aft E es a) t := fun {v t} h => by
        induction h with
        | st => exact fun z => absurd z.symm (by simp)
        | tau _ e ih => exact fun z => .step (ih z) (leav_mem.1 e)
        | vis g e na _ =>
          intro z
          obtain ⟨z1, z2⟩ := List.append_inj' z rfl
          injection z2 with z2 _
          rw [z1] at g
          rw [z2] at e
          exact .base (aft_mem.mpr ⟨_, (ih _).2 g, leav_mem.1 e⟩)
      exact k h rfl
/-- a system gets stuck after a trace -/
def StuckP (E : List Ed) (u : List Str) : Prop := lastT u = false ∧ ∃ s, Rp (leav E) 0 u s ∧ leav E s = []
def rightB (E : List Ed) (p : BP) : Bool := !p.2 && (leav E p.1).isEmpty
theorem rightB_iff {E : List Ed} {u : List Str} : (∃ p, Rp (mvB E) (0, false) u p ∧ rightB E p = true) ↔ StuckP E u := by
  constructor
  · rintro ⟨p, h, r⟩
    obtain ⟨h1, h2⟩ := rpB.1 h
    obtain ⟨r1, r2⟩ := Bool.and_eq_true_iff.mp r
    refine ⟨?_, p.1, h1, List.isEmpty_iff.mp r2⟩
    rw [← h2]
    simpa using r1
  · rintro ⟨h1, s, h2, h3⟩
    refine ⟨(s, lastT u), rpB.2 ⟨h2, rfl⟩, ?_⟩
    unfold rightB
    rw [h1, h3]
    rfl
/-- a trace with what is asked, and no one before it -/
def LstP (A : List Str → Prop) (u : List Str) : Prop := A u ∧ ∀ v, A v → tle u v
theorem Lst.p {α : Type} {mv : α → List (Str × α)} {z : α} {r : α → Prop} {A : List Str → Prop} (h : ∀ u, (∃ p, Rp mv z u p ∧ r p) ↔ A u) {u : List Str} (l : Lst mv z r u) : LstP A u := ⟨(h u).1 l.1, fun v a => l.2 v ((h v).2 a)⟩
theorem LstP.uniq {A : List Str → Prop} {u v : List Str} (h : LstP A u) (g : LstP A v) : u = v := tle_anti (h.2 _ g.1) (g.2 _ h.1)
end MG
theorem sc_ticking_edges : FnScope ["system", "place", "state", "is_ended", "found", "action", "target"] ["system", "place"] (defScope s_ticking_edges) := ⟨rfl, rfl, rfl, by decide +kernel, rfl, by decide +kernel, by decide +kernel⟩
theorem sc_is_stuck_after : FnScope ["system", "trace", "state"] ["system", "trace"] (defScope s_is_stuck_after) := ⟨rfl, rfl, rfl, by decide +kernel, rfl, by decide +kernel, by decide +kernel⟩
namespace MG
section
variable {P : Program} {w : World} {K : PySem.W.Frag} {mg : Str → Option Value} {base : Heap}
theorem tick_or {s : Str} {b : Bool} {i j : Nat} {σ : L2.St} {H : Hp} {Q : VK} (hi : σ[i]? = some (some (.str s))) (hj : σ[j]? = some (some (.bl b))) (q : Q (.bl (decide (s = ("tick" : Str)) || (decide (s = ("tau" : Str)) && b))) H) :
    tOrV (tOp rEq (tVar i) (tC (V.str ("tick" : Str)))) (tAndV (tOp rEq (tVar i) (tC (V.str ("tau" : Str)))) (tVar j)) σ H Q := by
  refine ⟨_, hi, rfl, _, rfl, VUt.ite2b (fun c => ?_) (fun c => ?_)⟩
  · have e : s = ("tick" : Str) := by simpa using c
    rw [decide_eq_true e, Bool.true_or] at q
    exact q
  · have e : s ≠ ("tick" : Str) := by simpa using c
    rw [decide_eq_false e, Bool.false_or] at q
    refine ⟨_, hi, rfl, _, rfl, VUt.ite2b (fun c => ?_) (fun c => ?_)⟩
    · have e : s = ("tau" : Str) := by simpa using c
      rw [decide_eq_true e, Bool.true_and] at q
      exact ⟨_, hj, q⟩
    · have e : s ≠ ("tau" : Str) := by simpa using c
      rw [decide_eq_false e, Bool.false_and] at q
      exact q
def spTick (P : Program) (w : World) (K : PySem.W.Frag) (C : Addr) : Sp := fun vs H Q _ => ∃ (φ : Addr → Prop) (p a : Addr) (n : Int) (E0 : List Ed) (pl : BP), vs = [.ref p, .ref a] ∧ SysAt K φ C H p n E0 ∧ E0.length ≤ 1000 ∧ 0 ≤ pl.1 ∧ pl.1 < n ∧ BpAt K H a pl ∧
  ∀ (q : Addr) (LV : List (Addr × (Str × (V × BP)))) (H' : Hp), Same H H' → H q = none → H' q = some (.lst (refs LV)) → Lvs K (KB P w K) H' LV → mvR (LV.map (·.2)) = mvB E0 pl → Q (.ref q) H'
theorem c_tick {C CB : Addr} (D : Df K mg "ticking_edges" s_ticking_edges) (c_System_leaving : C8.Met P w K mg base 2 C "leaving" (calm (spLeavX K C CB)) []) : C8.Cal P w K mg base 3 "ticking_edges" (spTick P w K C) [] := by
  refine D.cal sc_ticking_edges (fun _ _ _ _ _ _ us hl => match us, hl with | [_, _], _ => rfl) (fun vs H Q E h => ?_) (fun f cdv A outer s0 H vs Q E hr h => ?_)
  · obtain ⟨_, _, _, _, _, _, rfl, _⟩ := h
    rfl
  obtain ⟨φ, p, a, n, E0, pl, rfl, SA, lenE, p0, p1, ha, fin⟩ := h
  refine ⟨_, (pss_cons (ps_asg (pv 1) (pg_tup rfl (pgs_cons (pg_name (i := 2) sc_ticking_edges.nd rfl (Or.inl rfl)) (pgs_cons (pg_name (i := 3) sc_ticking_edges.nd rfl (Or.inl rfl)) pgs_nil))))
    (pss_cons (ps_set (i := 4) sc_ticking_edges.nd rfl (Or.inl rfl) (pe_lst pa_nil))
    (pss_cons (ps_for PassesOwn.never rfl (pi_list (C8.pe_mt c_System_leaving hr (by first | decide | omega) (pv 0) (pa_cons (pv 2) pa_nil))) (pg_tup rfl (pgs_cons (pg_name (i := 5) sc_ticking_edges.nd rfl (Or.inl rfl)) (pgs_cons (pg_name (i := 6) sc_ticking_edges.nd rfl (Or.inl rfl)) pgs_nil)))
      (pss_one (ps_expr (pe_bm PySem.F.plainAttrs_list PySem.F.slot_list_append PySem.F.type_list_append mt_append (pv 4) (pa_cons (pe_tup (pa_cons (pv 5) (pa_cons (pe_tup (pa_cons (pv 6) (pa_cons (pe_or (pe_cmpR op_eq (pv 5) pe_str (nomark _)) (pe_one (pe_and (pe_cmpR op_eq (pv 5) pe_str (nomark _)) (pe_one (pv 3))))) pa_nil))) pa_nil))) pa_nil)))))
    (pss_one (ps_ret (pv 4)))))), ?_⟩
  have zl := sizeLine_eq
  refine ⟨_, rfl, a, _, rfl, ha, rfl, .int pl.1, _, rfl, .bl pl.2, _, rfl, rfl, ?_⟩
  refine ⟨Nat.zero_le _, fun fl nfl => ?_⟩
  have u1 := same_upd nfl (.lst [])
  have hfl : upd H fl (.lst []) fl = some (.lst (refs ([] : List (Addr × (Str × (V × BP)))))) := upd_same
  generalize upd H fl (.lst []) = H1 at u1 hfl ⊢
  refine VJ.nmS ?_
  have SA1 := SA.same u1
  obtain ⟨⟨dx, te, ll, td, LE, rows, kvs, S3⟩, _⟩ := id SA1
  refine ⟨_, rfl, p, dx, _, rfl, S3.hp, fl_none n te ll td (by decide +kernel) (by decide +kernel) (by decide +kernel) (by decide +kernel), _, rfl, φ, p, n, E0, pl.1, rfl, SA1, fun z => z ⟨p0, p1⟩, fun _ q LP nq eLP hLP => ?_⟩
  have u2 := same_upd nq (.lst (refs LP))
  have hq : upd H1 q (.lst (refs LP)) q = some (.lst (refs LP)) := upd_same
  have hLP2 := hLP.kp (Kp.of u2)
  have hfl2 := u2 _ _ hfl
  have qfl : q ≠ fl := (ne_of_none hfl nq).symm
  have u12 := u1.trans u2
  generalize upd H1 q (.lst (refs LP)) = H2 at u12 hq hLP2 hfl2 ⊢
  have lLP : LP.length ≤ 1000 := by
    have e := congrArg List.length eLP
    rw [List.length_map] at e
    have z : (leav E0 pl.1).length ≤ E0.length := by unfold leav; rw [List.length_map]; exact List.length_filter_le _ _
    omega
  refine ⟨q, rfl, ⟨_, SqL.of hq⟩, for_list (K := K) (a := q) (xs := refs LP)
    (fun j σ H' => ∃ (LV : List (Addr × (Str × (V × BP)))) (r5 r6 : Option V), σ = [some (.ref p), some (.ref a), some (.int pl.1), some (.bl pl.2), some (.ref fl), r5, r6] ∧ Same H H' ∧ H' q = some (.lst (refs LP)) ∧ Pqs K H' LP ∧ H' fl = some (.lst (refs LV)) ∧ Lvs K (KB P w K) H' LV ∧ mvR (LV.map (·.2)) = ((LP.take j).map (·.2)).map (stp pl.2) ∧ LV.length ≤ j)
    ⟨[], none, none, rfl, u12, hq, hLP2, hfl2, fun x hx => absurd hx List.not_mem_nil, rfl, Nat.le_refl _⟩ (fun j σ H' _ ⟨_, _, _, _, _, z, _⟩ => SqL.of z) ?_ ?_⟩
  · clear hq hLP2 hfl2 u12 hLP u2 hfl
    rintro j v σ H3 hv ⟨LV, r5, r6, rfl, s3, hq, hLP, hfl, hLV, eLV, lLV⟩
    obtain ⟨x, hx, rfl⟩ := refs_at hv
    have xin := List.mem_of_getElem? hx
    have ltj := (List.getElem?_eq_some_iff.mp hx).1
    have tk : (LP.take (j + 1)).map (·.2) = (LP.take j).map (·.2) ++ [x.2] := by rw [List.take_succ, hx, Option.toList_some, List.map_append] <;> rfl
    refine ⟨x.1, _, rfl, hLP x xin, rfl, .str x.2.1, _, rfl, .int x.2.2, _, rfl, rfl, ?_⟩
    refine ⟨_, rfl, .inl ⟨rfl, _, SqL.of hfl⟩, _, rfl, _, rfl, tick_or (s := x.2.1) (b := pl.2) rfl rfl ?_⟩
    obtain ⟨bb, ebb⟩ : ∃ bb, bb = (decide (x.2.1 = ("tick" : Str)) || (decide (x.2.1 = ("tau" : Str)) && pl.2)) := ⟨_, rfl⟩
    rw [← ebb]
    refine ⟨(by show 2 ≤ sizeLine; omega), fun t1 nt1 => ⟨(by show 2 ≤ sizeLine; omega), fun t2 nt2 => ?_⟩⟩
    have w1 := same_upd nt1 (.tup [.int x.2.2, .bl bb])
    have w2 := same_upd nt2 (.tup [.str x.2.1, .ref t1])
    have h1 := w2 _ _ (upd_same (H := H3) (a := t1) (o := .tup [.int x.2.2, .bl bb]))
    have h2 : upd (upd H3 t1 (.tup [.int x.2.2, .bl bb])) t2 (.tup [.str x.2.1, .ref t1]) t2 = some (.tup [.str x.2.1, .ref t1]) := upd_same
    have w := w1.trans w2
    generalize upd (upd H3 t1 (.tup [.int x.2.2, .bl bb])) t2 (.tup [.str x.2.1, .ref t1]) = H4 at h1 h2 w ⊢
    have hfl4 := w _ _ hfl
    refine ⟨fl, _, _, rfl, rfl, hfl4, by rw [refs_len]; omega, ?_⟩
    have kq := Kp.updL hfl4 (.lst (refs LV ++ [V.ref t2]))
    refine ⟨LV ++ [(t2, (x.2.1, (.ref t1, (x.2.2, bb))))], _, _, rfl, sameIn (s3.trans w) nfl, by rw [upd_ne qfl]; exact w _ _ hq, (hLP.kp (Kp.of w)).kp kq, by rw [upd_same, refs_snoc], fun y hy => ?_, ?_, by rw [List.length_append, List.length_singleton]; omega⟩
    · rcases List.mem_append.mp hy with z | z
      · exact ((hLV.kp (Kp.of w)).kp kq) y z
      · rw [List.mem_singleton.mp z]
        exact ⟨.inl (.inl (kq.tup _ _ h2)), t1, rfl, .inl (.inl (kq.tup _ _ h1))⟩
    · rw [tk, List.map_append, List.map_append (f := stp pl.2), ← eLV]
      unfold mvR
      rw [List.map_append, ebb] <;> rfl
  · rintro σ H3 ⟨LV, r5, r6, rfl, s3, hq, hLP, hfl, hLV, eLV, lLV⟩
    rw [refs_len, List.take_length, eLP] at eLV
    exact ⟨_, rfl, fin fl LV H3 s3 nfl hfl hLV eLV⟩
def spIsS (K : PySem.W.Frag) (C : Addr) : Sp := fun vs H Q _ => ∃ (φ : Addr → Prop) (p a : Addr) (n : Int) (E0 : List Ed) (xs : List Str), vs = [.ref p, .ref a] ∧ SysAt K φ C H p n E0 ∧ 1 ≤ n ∧ n ≤ 60 ∧ E0.length ≤ 1000 ∧ SqT K H a (xs.map V.str) ∧ (∀ x ∈ xs, x ≠ ("tau" : Str)) ∧
  ∀ (b : Bool) (H' : Hp), Same H H' → (b = true ↔ StuckP E0 xs) → Q (.bl b) H'
theorem c_isStuck {C CB : Addr} (D : Df K mg "is_stuck_after" s_is_stuck_after) (z_len : mg "len" = none) (z_any : mg "any" = none) (c_states_after : C8.Cal P w K mg base 5 "states_after" (spStA K C) []) (c_System_leaving : C8.Met P w K mg base 2 C "leaving" (calm (spLeavX K C CB)) []) : C8.Cal P w K mg base 6 "is_stuck_after" (spIsS K C) [] := by
  refine D.cal sc_is_stuck_after (fun _ _ _ _ _ _ us hl => match us, hl with | [_, _], _ => rfl) (fun vs H Q E h => ?_) (fun f cdv A outer s0 H vs Q E hr h => ?_)
  · obtain ⟨_, _, _, _, _, _, rfl, _⟩ := h
    rfl
  obtain ⟨φ, p, a, n, E0, xs, rfl, SA, n1, n60, lenE, ha, nt, fin⟩ := h
  refine ⟨_, (pss_cons (ps_if (PW.pt (pw_and (pt_cmpR op_gt (pe_callB (VK.lenQ (K := K) rfl) (by rfl) z_len PySem.boot_len (pa_cons (pv 1) pa_nil)) pe_int (nomark _)) (pw_and1 (pt_cmpR op_eq (pe_ix (VK.ixT (K := K) rfl) (pv 1) (pe_un un_neg pe_int) (fun _ _ => rfl)) pe_str (nomark _)))))
      (pss_one (ps_ret pe_bl))
      pss_nil)
    (pss_one (ps_ret (pe_callB (VKA.anyL (K := K) rfl rfl) (by rfl) z_any (by decide +kernel) (pa_cons (pe_lc (own := [("state", 2)]) (tt := tYes) rfl sc_is_stuck_after.nd (pi_tup (C8.pe_c c_states_after hr (by first | decide | omega) rfl (pa_cons (pv 0) (pa_cons (pv 1) pa_nil)))) (blkOk_by (N := ["system", "trace", "state"]) (sc := defScope s_is_stuck_after) (by decide +kernel)) (fun _ _ _ _ _ => (pg_name (i := 2) sc_is_stuck_after.nd rfl (Or.inl rfl) (hf := Or.inr rfl))) (fun _ _ _ _ _ => pts_nil) (fun _ _ _ _ _ => (VNT.pe_notTK (K := K) rfl (C8.pe_mt c_System_leaving hr (by first | decide | omega) (pv 0) (pa_cons (pv 2) pa_nil))))) pa_nil))))), ?_⟩
  have zl := sizeLine_eq
  have go : ∀ (H1 : Hp), Same H H1 → lastT xs = false → (tRet (tCB (rAny K) (tCons (tLc (iTup K (tCall (spStA K C) [] C8.E0 (tCons (tVar 0) (tCons (tVar 1) tNil)))) (gName 2) tYes (tNotT K (tMeth C ("leaving") (calm (spLeavX K C CB)) [] C8.E0 (tVar 0) (tCons (tVar 2) tNil))) (List.map (fun x => x.snd) [(("state" : Str), 2)])) tNil))) { nx := fun x H' => Q V.non H', rt := Q } (L2.start ["system", "trace", "state"] [V.ref p, V.ref a]) H1 := fun H1 s1 lt => by
    refine ⟨_, rfl, _, rfl, φ, p, a, n, E0, xs, rfl, SA.same s1, n1, n60, lenE, VB.Same.sqT s1 ha, fun qa H2 c0 cs s2 hqa hc0 hr1 rng lcs => ?_⟩
    have s12 := s1.trans s2
    refine ⟨qa, rfl, ⟨_, .inl (.inl hqa)⟩, fun D1 nD => ?_⟩
    refine lc_tup (K := K) (a := qa) (xs := cs.map V.int) (fun j H3 => Same H2 H3 ∧ H3 D1 = some (.lst (((cs.take j).map fun y => (leav E0 y).isEmpty).map V.bl)))
      ⟨same_upd nD _, upd_same⟩ (fun j H3 _ z => VB.Same.sqT z.1 (.inl (.inl hqa))) ?_ ?_
    · rintro j v H3 hv ⟨s3, hD⟩
      rw [List.getElem?_map] at hv
      obtain ⟨y, hy, rfl⟩ := Option.map_eq_some_iff.mp hv
      have yin := List.mem_of_getElem? hy
      have ltj := (List.getElem?_eq_some_iff.mp hy).1
      refine ⟨rfl, ?_⟩
      unfold tYes
      refine iteT ?_
      have SA3 := SA.same (s12.trans s3)
      obtain ⟨⟨dx, te, ll, td, LE, rows, kvs, S3⟩, _⟩ := id SA3
      refine ⟨_, rfl, p, dx, _, rfl, S3.hp, fl_none n te ll td (by decide +kernel) (by decide +kernel) (by decide +kernel) (by decide +kernel), _, rfl, φ, p, n, E0, y, rfl, SA3, fun z => z (rng y yin), fun _ q LP nq eLP hLP => ?_⟩
      refine ⟨_, .inl ⟨_, SqL.of upd_same, rfl⟩, ?_⟩
      have w := same_upd nq (.lst (refs LP))
      have e : (!!(refs LP).isEmpty) = (leav E0 y).isEmpty := by
        rw [Bool.not_not, ← eLP]
        cases LP <;> rfl
      rw [e]
      refine ⟨_, w _ _ hD, ?_, sameIn (s3.trans w) nD, ?_⟩
      · rw [List.length_map, List.length_map, List.length_take]; omega
      · rw [upd_same, List.take_succ, hy, Option.toList_some, List.map_append, List.map_append] <;> rfl
    rintro H3 ⟨s3, hD⟩
    rw [List.length_map, List.take_length] at hD
    refine ⟨D1, _, rfl, SqL.of hD, fin _ H3 (s12.trans s3) ?_⟩
    have mem := rp_runs (u := xs.reverse) hc0 (by rw [List.reverse_reverse]; exact hr1) fun x hx => nt x (List.mem_reverse.mp hx)
    rw [List.reverse_reverse] at mem
    rw [List.any_map, List.any_eq_true]
    constructor
    · rintro ⟨y, hy, h⟩
      exact ⟨lt, y, (mem y).1 hy, List.isEmpty_iff.mp h⟩
    · rintro ⟨_, y, h1, h2⟩
      refine ⟨y, (mem y).2 h1, ?_⟩
      show (leav E0 y).isEmpty = true
      rw [h2] <;> rfl
  refine ⟨_, rfl, a, _, rfl, .inr ha, _, _, rfl, rfl, _, rfl, ?_⟩
  rcases List.eq_nil_or_concat xs with rfl | ⟨r, y, rfl⟩
  · refine iteF (iteF (VJ.nxT ?_))
    exact go H (Same.refl H) rfl
  · rw [List.concat_eq_append] at *
    refine VUt.ite2b (fun c => ?_) (fun c => ?_)
    · have ha2 := ha
      rw [List.map_append, List.map_singleton] at ha2
      refine ⟨_, rfl, _, rfl, a, _, _, _, rfl, rfl, ha2, atI_last _ _, rfl, _, rfl, VUt.ite2b (fun c => ?_) (fun c => ?_)⟩
      · have e : y = ("tick" : Str) := by simpa using c
        refine fin false H (Same.refl H) ⟨(fun z => nomatch z), fun z => ?_⟩
        have := z.1
        rw [lastT_snoc, decide_eq_true e] at this
        cases this
      · have e : y ≠ ("tick" : Str) := by simpa using c
        exact VJ.nxT (go H (Same.refl H) (by rw [lastT_snoc, decide_eq_false e]))
    · exfalso
      rw [List.length_map, List.length_append, List.length_singleton] at c
      have := of_decide_eq_false c
      omega
end
end MG
end LW

set_option Elab.async false
set_option linter.all false
set_option maxRecDepth 100000
set_option maxHeartbeats 4000000
namespace LW
open PySem PySem.Spec PyProof.Rows L2 LamX NdefX VB VM VP VE VX VQ VZ VD
/-- the addresses that a Tracker keeps: its system, its list of tuples, its three dicts -/
structure TA where
  x : Addr
  tl : Addr
  dn : Addr
  dt : Addr
  dm : Addr
def TA.own (t : TA) (b : Addr) : Prop := b = t.tl ∨ b = t.dn ∨ b = t.dt ∨ b = t.dm
structure TrF (fs : List (Str × V)) (t : TA) : Prop where
  f0 : fs.lookup ("system" : Str) = some (.ref t.x)
  f1 : fs.lookup ("tuples" : Str) = some (.ref t.tl)
  f2 : fs.lookup ("_numbers" : Str) = some (.ref t.dn)
  f3 : fs.lookup ("_targets" : Str) = some (.ref t.dt)
  f4 : fs.lookup ("_moves" : Str) = some (.ref t.dm)
  m0 : fs.lookup ("number" : Str) = none
  m1 : fs.lookup ("target" : Str) = none
  m2 : fs.lookup ("moves" : Str) = none
structure TrTxt (K : PySem.W.Frag) (C : Addr) : Prop where
  cl : Cls K C
  n0 : NoAttr K C "system"
  n1 : NoAttr K C "tuples"
  n2 : NoAttr K C "_numbers"
  n3 : NoAttr K C "_targets"
  n4 : NoAttr K C "_moves"
  n5 : NoAttr K C "start"
def kyI (c : List Int) : List Key := c.map Sum.inl
/-- the dict of the numbers of tuples -/
def numK : Nat → List (List Int) → List (List Key × V)
  | _, [] => []
  | i, c :: r => (kyI c, .int i) :: numK (i + 1) r
theorem valV_cons {κ : Type} [DecidableEq κ] (k k' : κ) (v : V) (r : List (κ × V)) : valV ((k, v) :: r) k' = if k = k' then some v else valV r k' := by
  unfold valV
  rw [List.find?_cons]
  by_cases h : k = k'
  · simp [h]
  · simp [h]
/-- what comes behind a tuple of states -/
def IsAft (E : List Ed) (c : List Int) (a : Str) (d : List Int) : Prop := IsClo E (aft E c a) d
def keyT (i : Nat) (a : Str) : List Key := [.inl ((i : Nat) : Int), .inr a]
/-- the dict of targets -/
structure TgOk (E : List Ed) (CS : List (List Int)) (kvT : List (List Key × V)) : Prop where
  some_ : ∀ k v, valV kvT k = some v → ∃ (i : Nat) (a : Str) (j : Nat) (c d : List Int), k = keyT i a ∧ v = .int ((j : Nat) : Int) ∧ CS[i]? = some c ∧ CS[j]? = some d ∧ IsAft E c a d ∧ a ∈ acts
  nd : (kvT.map (·.1)).Nodup
/-- the rows of a list of moves -/
abbrev Mv := Str × Nat
def Mvs (H : Hp) (RL : List (Addr × Mv)) : Prop := ∀ q ∈ RL, H q.1 = some (.tup [.str q.2.1, .int ((q.2.2 : Nat) : Int)])
/-- the moves of a tuple of states -/
structure MvR (E : List Ed) (CS : List (List Int)) (c : List Int) (rows : List Mv) : Prop where
  acts : rows.map (·.1) = srtS (c.flatMap fun s => srtS (acs E s))
  tg : ∀ r ∈ rows, ∃ d, CS[r.2]? = some d ∧ IsAft E c r.1 d
structure MvOk (tl : Addr) (H : Hp) (E : List Ed) (CS : List (List Int)) (kvM : List (Key × V)) : Prop where
  some_ : ∀ k v, valV kvM k = some v → ∃ (i : Nat) (b : Addr) (c : List Int) (RL : List (Addr × Mv)), k = .inl ((i : Nat) : Int) ∧ v = .ref b ∧ CS[i]? = some c ∧ b ≠ tl ∧ H b = some (.lst (refs RL)) ∧ Mvs H RL ∧ MvR E CS c (RL.map (·.2))
  nd : (kvM.map (·.1)).Nodup
structure TrAt (K : PySem.W.Frag) (C CT : Addr) (φ : Addr → Prop) (t : TA) (H0 H : Hp) (p : Addr) (n : Int) (E : List Ed) (CS : List (List Int)) : Prop where
  hp : ∃ dx fs, H p = some (.ins CT dx fs) ∧ TrF fs t
  s0 : Same H0 H
  sys : SysAt K φ C H0 t.x n E
  new : H0 t.tl = none ∧ H0 t.dn = none ∧ H0 t.dt = none ∧ H0 t.dm = none
  tl : ∃ TL : List (Addr × List Int), H t.tl = some (.lst (refs TL)) ∧ (∀ q ∈ TL, H q.1 = some (.tup (q.2.map V.int))) ∧ TL.map (·.2) = CS
  nd : CS.Nodup
  rg : ∀ c ∈ CS, (∀ y ∈ c, 0 ≤ y ∧ y < n) ∧ c.Pairwise (· < ·)
  dn : H t.dn = some (.dT (numK 0 CS))
  dt : ∃ kvT, H t.dt = some (.dT kvT) ∧ TgOk E CS kvT
  dm : ∃ kvM, H t.dm = some (.dK kvM) ∧ MvOk t.tl H E CS kvM
  ne : t.dn ≠ t.dt
/-- all but the Tracker's own stays -/
def FrO (t : TA) (H H' : Hp) : Prop := ∀ b o, ¬ t.own b → H b = some o → H' b = some o
def FrN (t : TA) (H H' : Hp) : Prop := ∀ b o, b ≠ t.tl → b ≠ t.dn → H b = some o → H' b = some o
theorem FrO.of {t : TA} {H H' : Hp} (s : Same H H') : FrO t H H' := fun b o _ h => s b o h
theorem FrO.trans {t : TA} {H H' H'' : Hp} (a : FrO t H H') (b : FrO t H' H'') : FrO t H H'' := fun c o n h => b c o n (a c o n h)
/-- all ascending tuples of numbers below -/
def subs : List Int → List (List Int)
  | [] => [[]]
  | x :: r => subs r ++ (subs r).map (x :: ·)
theorem subs_len : ∀ l : List Int, (subs l).length = 2 ^ l.length
  | [] => rfl
  | x :: r => by unfold subs; rw [List.length_append, List.length_map, subs_len r, List.length_cons, Nat.pow_succ]; omega
theorem sub_mem : ∀ {l c : List Int}, l.Pairwise (· < ·) → c.Pairwise (· < ·) → (∀ y ∈ c, y ∈ l) → c ∈ subs l
  | [], c, _, _, h => by
    cases c with
    | nil => exact List.mem_singleton.mpr rfl
    | cons y r => exact absurd (h y List.mem_cons_self) List.not_mem_nil
  | x :: r, c, hl, hc, h => by
    obtain ⟨l1, l2⟩ := List.pairwise_cons.mp hl
    unfold subs
    cases c with
    | nil => exact List.mem_append_left _ (sub_mem l2 List.Pairwise.nil fun y hy => absurd hy List.not_mem_nil)
    | cons y s =>
      obtain ⟨c1, c2⟩ := List.pairwise_cons.mp hc
      by_cases e : y = x
      · subst e
        refine List.mem_append_right _ (List.mem_map.mpr ⟨s, sub_mem l2 c2 fun z hz => ?_, rfl⟩)
        rcases List.mem_cons.mp (h z (List.mem_cons_of_mem _ hz)) with e | g
        · have := c1 z hz; omega
        · exact g
      · refine List.mem_append_left _ (sub_mem l2 hc fun z hz => ?_)
        have hy : x < y := by
          rcases List.mem_cons.mp (h y List.mem_cons_self) with e2 | g
          · exact absurd e2 e
          · exact l1 y g
        rcases List.mem_cons.mp (h z hz) with e2 | g
        · rcases List.mem_cons.mp hz with e3 | g2
          · omega
          · have := c1 z g2; omega
        · exact g
theorem rng_ascW (m : Nat) : (rng m).Pairwise (· < ·) := by
  unfold rng
  refine List.pairwise_map.mpr (List.pairwise_lt_range.imp fun h => by omega)
theorem pre_at {α : Type} {l m : List α} (h : l <+: m) {i : Nat} {x : α} (e : l[i]? = some x) : m[i]? = some x := by
  obtain ⟨r, rfl⟩ := h
  rw [List.getElem?_append_left (List.getElem?_eq_some_iff.mp e).1]
  exact e
theorem TgOk.mono {E : List Ed} {CS CS' : List (List Int)} {kvT : List (List Key × V)} (T : TgOk E CS kvT) (h : CS <+: CS') : TgOk E CS' kvT :=
  ⟨fun k v e => by
    obtain ⟨i, a, j, c, d, e1, e2, e3, e4, e5⟩ := T.some_ k v e
    exact ⟨i, a, j, c, d, e1, e2, pre_at h e3, pre_at h e4, e5⟩, T.nd⟩
theorem MvR.mono {E : List Ed} {CS CS' : List (List Int)} {c : List Int} {rows : List Mv} (M : MvR E CS c rows) (h : CS <+: CS') : MvR E CS' c rows :=
  ⟨M.acts, fun r hr => by
    obtain ⟨d, e1, e2⟩ := M.tg r hr
    exact ⟨d, pre_at h e1, e2⟩⟩
theorem MvOk.mono {tl : Addr} {H H' : Hp} {E : List Ed} {CS CS' : List (List Int)} {kvM : List (Key × V)} (M : MvOk tl H E CS kvM) (h : CS <+: CS') (hl : ∀ b xs, b ≠ tl → H b = some (.lst xs) → H' b = some (.lst xs)) (ht : ∀ b xs, H b = some (.tup xs) → H' b = some (.tup xs)) : MvOk tl H' E CS' kvM :=
  ⟨fun k v e => by
    obtain ⟨i, b, c, RL, e1, e2, e3, e4, e5, e6, e7⟩ := M.some_ k v e
    exact ⟨i, b, c, RL, e1, e2, pre_at h e3, e4, hl _ _ e4 e5, fun q hq => ht _ _ (e6 q hq), e7.mono h⟩, M.nd⟩
theorem TrAt.few {K : PySem.W.Frag} {C CT : Addr} {φ : Addr → Prop} {t : TA} {H0 H : Hp} {p : Addr} {n : Int} {E : List Ed} {CS : List (List Int)} (T : TrAt K C CT φ t H0 H p n E CS) (h : n ≤ 10) : CS.length ≤ 1024 := by
  have z := nd_le CS (subs (rng n.toNat)) T.nd fun c hc => sub_mem (rng_ascW _) (T.rg c hc).2 fun y hy => rng_mem.2 (by have := (T.rg c hc).1 y hy; omega)
  rw [subs_len] at z
  have l : (rng n.toNat).length = n.toNat := by unfold rng; rw [List.length_map, List.length_range]
  rw [l] at z
  refine Nat.le_trans z (Nat.le_trans (Nat.pow_le_pow_right (by decide) (show n.toNat ≤ 10 by omega)) (by decide))
section
variable {P : Program} {w : World} {K : PySem.W.Frag} {mg : Str → Option Value} {base : Heap}
def spNum (K : PySem.W.Frag) (C CT : Addr) : Sp := fun vs H Q _ => ∃ (φ : Addr → Prop) (t : TA) (H0 : Hp) (p a : Addr) (n : Int) (E0 : List Ed) (CS : List (List Int)) (c : List Int), vs = [.ref p, .ref a] ∧ TrAt K C CT φ t H0 H p n E0 CS ∧
  H a = some (.tup (c.map V.int)) ∧ (∀ y ∈ c, 0 ≤ y ∧ y < n) ∧ c.Pairwise (· < ·) ∧ n ≤ 10 ∧
  ∀ (H' : Hp) (CS' : List (List Int)) (j : Nat), FrN t H H' → TrAt K C CT φ t H0 H' p n E0 CS' → CS <+: CS' → CS'[j]? = some c → Q (.int ((j : Nat) : Int)) H'
end
end LW

set_option Elab.async false
set_option linter.all false
set_option maxRecDepth 100000
set_option maxHeartbeats 4000000
namespace LW
open PySem PySem.Spec PyProof.Rows L2 LamX NdefX VB VM VP VE VX VQ VZ VD
theorem valV_mem {κ : Type} [DecidableEq κ] : ∀ {kvs : List (κ × V)} {k : κ}, k ∈ kvs.map (·.1) → ∃ v, valV kvs k = some v
  | [], k, h => by cases h
  | (a, b) :: r, k, h => by
    rw [valV_cons]
    by_cases e : a = k
    · rw [if_pos e]; exact ⟨b, rfl⟩
    · rw [if_neg e]
      rcases List.mem_cons.mp h with z | z
      · exact absurd z.symm e
      · exact valV_mem z
theorem prod_len : ∀ m : Nat, ((List.range m).flatMap fun i => acts.map (keyT i)).length = m * acts.length
  | 0 => by rw [Nat.zero_mul] <;> rfl
  | m + 1 => by
    rw [List.range_succ, List.flatMap_append, List.length_append, prod_len m, List.flatMap_cons, List.flatMap_nil, List.append_nil, List.length_map, Nat.succ_mul]
theorem acts_len : acts.length ≤ 10 := by decide +kernel
theorem TgOk.len {E : List Ed} {CS : List (List Int)} {kvT : List (List Key × V)} (T : TgOk E CS kvT) : kvT.length ≤ 10 * CS.length := by
  have z := nd_le (kvT.map (·.1)) ((List.range CS.length).flatMap fun i => acts.map (keyT i)) T.nd fun k hk => by
    obtain ⟨v, hv⟩ := valV_mem hk
    obtain ⟨i, a, j, c, d, e1, e2, e3, e4, e5, e6⟩ := T.some_ k v hv
    exact List.mem_flatMap.mpr ⟨i, List.mem_range.mpr (List.getElem?_eq_some_iff.mp e3).1, List.mem_map.mpr ⟨a, e6, e1.symm⟩⟩
  rw [prod_len, List.length_map] at z
  have y := Nat.mul_le_mul_left CS.length acts_len
  omega
theorem MvOk.len {tl : Addr} {H : Hp} {E : List Ed} {CS : List (List Int)} {kvM : List (Key × V)} (M : MvOk tl H E CS kvM) : kvM.length ≤ CS.length := by
  have z := nd_le (kvM.map (·.1)) ((List.range CS.length).map fun i => (Sum.inl ((i : Nat) : Int) : Key)) M.nd fun k hk => by
    obtain ⟨v, hv⟩ := valV_mem hk
    obtain ⟨i, b, c, RL, e1, e2, e3, e4⟩ := M.some_ k v hv
    exact List.mem_map.mpr ⟨i, List.mem_range.mpr (List.getElem?_eq_some_iff.mp e3).1, e1.symm⟩
  rw [List.length_map, List.length_map, List.length_range] at z
  exact z
/-- all but the tuples, numbers and targets of the Tracker stays -/
def FrT (t : TA) (H H' : Hp) : Prop := ∀ b o, b ≠ t.tl → b ≠ t.dn → b ≠ t.dt → H b = some o → H' b = some o
theorem FrT.of {t : TA} {H H' : Hp} (s : Same H H') : FrT t H H' := fun b o _ _ _ e => s b o e
theorem FrT.trans {t : TA} {H H' H'' : Hp} (a : FrT t H H') (b : FrT t H' H'') : FrT t H H'' := fun c o x y z e => b c o x y z (a c o x y z e)
theorem TrAt.same {K : PySem.W.Frag} {C CT : Addr} {φ : Addr → Prop} {t : TA} {H0 H H' : Hp} {p : Addr} {n : Int} {E : List Ed} {CS : List (List Int)} (T : TrAt K C CT φ t H0 H p n E CS) (s : Same H H') : TrAt K C CT φ t H0 H' p n E CS := by
  obtain ⟨⟨dx, fs, hp, f⟩, s0, sys, nw, ⟨TL, htl, hT, eT⟩, nd, rgs, hdn, ⟨kvT, hdt, tgT⟩, ⟨kvM, hdm, mvM⟩, ne⟩ := T
  exact ⟨⟨dx, fs, s _ _ hp, f⟩, s0.trans s, sys, nw, ⟨TL, s _ _ htl, fun q hq => s _ _ (hT q hq), eT⟩, nd, rgs, s _ _ hdn, ⟨kvT, s _ _ hdt, tgT⟩, ⟨kvM, s _ _ hdm, mvM.mono List.prefix_rfl (fun b xs _ h => s _ _ h) fun b xs h => s _ _ h⟩, ne⟩
theorem TrAt.setM {K : PySem.W.Frag} {C CT : Addr} {φ : Addr → Prop} {t : TA} {H0 H : Hp} {p : Addr} {n : Int} {E : List Ed} {CS : List (List Int)} (T : TrAt K C CT φ t H0 H p n E CS) {kvM : List (Key × V)} (h : MvOk t.tl H E CS kvM) : TrAt K C CT φ t H0 (upd H t.dm (.dK kvM)) p n E CS := by
  obtain ⟨⟨dx, fs, hp, f⟩, s0, sys, nw, ⟨TL, htl, hT, eT⟩, nd, rgs, hdn, ⟨kv, hdt, tgT⟩, ⟨kvM', hdm, mvM⟩, ne⟩ := T
  have u : ∀ b o, b ≠ t.dm → H b = some o → upd H t.dm (.dK kvM) b = some o := fun b o e z => by rw [upd_ne e]; exact z
  exact ⟨⟨dx, fs, u _ _ (ne_of hp hdm (fun z => nomatch z)) hp, f⟩, sameIn s0 nw.2.2.2, sys, nw, ⟨TL, u _ _ (ne_of htl hdm (fun z => nomatch z)) htl, fun q hq => u _ _ (ne_of (hT q hq) hdm (fun z => nomatch z)) (hT q hq), eT⟩, nd, rgs, u _ _ (ne_of hdn hdm (fun z => nomatch z)) hdn, ⟨kv, u _ _ (ne_of hdt hdm (fun z => nomatch z)) hdt, tgT⟩,
    ⟨kvM, upd_same, h.mono List.prefix_rfl (fun b xs _ h => u _ _ (ne_of h hdm (fun z => nomatch z)) h) fun b xs h => u _ _ (ne_of h hdm (fun z => nomatch z)) h⟩, ne⟩
theorem TrAt.updL {K : PySem.W.Frag} {C CT : Addr} {φ : Addr → Prop} {t : TA} {H0 H : Hp} {p : Addr} {n : Int} {E : List Ed} {CS : List (List Int)} (T : TrAt K C CT φ t H0 H p n E CS) {D : Addr} {ys zs : List V} (hD : H D = some (.lst ys)) (n0 : H0 D = none) (n1 : D ≠ t.tl)
    (n2 : ∀ kvM k b, H t.dm = some (.dK kvM) → valV kvM k = some (.ref b) → b ≠ D) : TrAt K C CT φ t H0 (upd H D (.lst zs)) p n E CS := by
  obtain ⟨⟨dx, fs, hp, f⟩, s0, sys, nw, ⟨TL, htl, hT, eT⟩, nd, rgs, hdn, ⟨kv, hdt, tgT⟩, ⟨kvM, hdm, mvM⟩, ne⟩ := T
  have u : ∀ b o, b ≠ D → H b = some o → upd H D (.lst zs) b = some o := fun b o e z => by rw [upd_ne e]; exact z
  refine ⟨⟨dx, fs, u _ _ (ne_of hp hD (fun z => nomatch z)) hp, f⟩, sameIn s0 n0, sys, nw, ⟨TL, u _ _ n1.symm htl, fun q hq => u _ _ (ne_of (hT q hq) hD (fun z => nomatch z)) (hT q hq), eT⟩, nd, rgs, u _ _ (ne_of hdn hD (fun z => nomatch z)) hdn, ⟨kv, u _ _ (ne_of hdt hD (fun z => nomatch z)) hdt, tgT⟩,
    ⟨kvM, u _ _ (ne_of hdm hD (fun z => nomatch z)) hdm, ⟨fun k v h => ?_, mvM.nd⟩⟩, ne⟩
  obtain ⟨i, b, c, RL, e1, e2, e3, e4, e5, e6, e7⟩ := mvM.some_ k v h
  exact ⟨i, b, c, RL, e1, e2, e3, e4, u _ _ (n2 kvM k b hdm (by rw [h, e2])) e5, fun q hq => u _ _ (ne_of (e6 q hq) hD (fun z => nomatch z)) (e6 q hq), e7⟩
section
variable {P : Program} {w : World} {K : PySem.W.Frag} {mg : Str → Option Value} {base : Heap}
def spTgt (K : PySem.W.Frag) (C CT : Addr) : Sp := fun vs H Q _ => ∃ (φ : Addr → Prop) (t : TA) (H0 : Hp) (p : Addr) (n : Int) (E0 : List Ed) (CS : List (List Int)) (i : Nat) (a : Str) (c : List Int), vs = [.ref p, .int ((i : Nat) : Int), .str a] ∧ TrAt K C CT φ t H0 H p n E0 CS ∧
  CS[i]? = some c ∧ a ∈ acts ∧ n ≤ 10 ∧ E0.length ≤ 1000 ∧
  ∀ (H' : Hp) (CS' : List (List Int)) (j : Nat) (d : List Int), FrT t H H' → TrAt K C CT φ t H0 H' p n E0 CS' → CS <+: CS' → CS'[j]? = some d → IsAft E0 c a d → Q (.int ((j : Nat) : Int)) H'
end
end LW

set_option Elab.async false
set_option linter.all false
set_option maxRecDepth 100000
set_option maxHeartbeats 4000000
namespace LW
open PySem PySem.Spec PyProof.Rows L2 LamX NdefX VB VM VP VE VX VQ VZ VD
theorem srtS_memW {l : List Str} {x : Str} : x ∈ srtS l ↔ x ∈ l := by
  unfold srtS
  rw [List.mem_mergeSort, onceG_mem]
  simp
theorem srtS_nd (l : List Str) : (srtS l).Nodup := by
  unfold srtS
  exact (List.mergeSort_perm _ _).nodup_iff.mpr (onceG_nodup _ _ List.nodup_nil)
theorem srtS_ten {l : List Str} (h : ∀ x ∈ l, x ∈ acts) : (srtS l).length ≤ 10 := by
  have z := nd_le (srtS l) acts (srtS_nd l) fun x hx => h x (srtS_memW.1 hx)
  exact Nat.le_trans z acts_len
/-- a list that is none of the Tracker's lists of moves -/
def NotMv (t : TA) (H : Hp) (l : Addr) : Prop := ∀ kvM k, H t.dm = some (.dK kvM) → valV kvM k ≠ some (.ref l)
theorem NotMv.keep {t : TA} {H H' : Hp} {l : Addr} (h : NotMv t H l) (e : ∀ kvM, H' t.dm = some (.dK kvM) → H t.dm = some (.dK kvM)) : NotMv t H' l := fun kvM k x => h kvM k (e kvM x)
section
variable {P : Program} {w : World} {K : PySem.W.Frag} {mg : Str → Option Value} {base : Heap}
def spMov (K : PySem.W.Frag) (C CT : Addr) : Sp := fun vs H Q _ => ∃ (φ : Addr → Prop) (t : TA) (H0 : Hp) (p : Addr) (n : Int) (E0 : List Ed) (CS : List (List Int)) (i : Nat) (c : List Int), vs = [.ref p, .int ((i : Nat) : Int)] ∧ TrAt K C CT φ t H0 H p n E0 CS ∧
  CS[i]? = some c ∧ n ≤ 10 ∧ E0.length ≤ 1000 ∧
  ∀ (H' : Hp) (CS' : List (List Int)) (b : Addr) (RL : List (Addr × Mv)), FrO t H H' → TrAt K C CT φ t H0 H' p n E0 CS' → CS <+: CS' → H' b = some (.lst (refs RL)) → Mvs H' RL → MvR E0 CS' c (RL.map (·.2)) → (∀ l o, H l = some o → NotMv t H l → NotMv t H' l) → ¬ t.own b → Q (.ref b) H'
end
end LW

set_option Elab.async false
set_option linter.all false
set_option maxRecDepth 100000
set_option maxHeartbeats 4000000
namespace LW
open PySem PySem.Spec PyProof.Rows L2 LamX NdefX VB VM VP VE VX VQ VZ VD
abbrev ft1 (x : Addr) : List (Str × V) := putF "system" (.ref x) []
abbrev ft2 (x tl : Addr) : List (Str × V) := putF "tuples" (.ref tl) (ft1 x)
abbrev ft3 (x tl dn : Addr) : List (Str × V) := putF "_numbers" (.ref dn) (ft2 x tl)
abbrev ft4 (x tl dn dt : Addr) : List (Str × V) := putF "_targets" (.ref dt) (ft3 x tl dn)
abbrev ft5 (x tl dn dt dm : Addr) : List (Str × V) := putF "_moves" (.ref dm) (ft4 x tl dn dt)
theorem TrF.put {fs : List (Str × V)} {t : TA} (f : TrF fs t) (v : V) : TrF (putF "start" v fs) t := by
  constructor <;> rw [lookup_putF, if_neg (by decide +kernel)]
  · exact f.f0
  · exact f.f1
  · exact f.f2
  · exact f.f3
  · exact f.f4
  · exact f.m0
  · exact f.m1
  · exact f.m2
section
variable {P : Program} {w : World} {K : PySem.W.Frag} {mg : Str → Option Value} {base : Heap}
def spInitTx (K : PySem.W.Frag) (C CT : Addr) : Sp := fun vs H Q _ => ∃ (φ : Addr → Prop) (H0 : Hp) (p dx x : Addr) (n : Int) (E0 : List Ed), vs = [.ref p, .ref x] ∧ H p = some (.ins CT dx []) ∧ Same H0 H ∧ H0 p = none ∧ SysAt K φ C H0 x n E0 ∧ 1 ≤ n ∧ n ≤ 10 ∧ E0.length ≤ 1000 ∧
  ∀ (t : TA) (H' : Hp) (CS : List (List Int)) (c0 : List Int) (j : Nat) (dx' : Addr) (fs : List (Str × V)), But p H H' → t.x = x → TrAt K C CT φ t H0 H' p n E0 CS → H' p = some (.ins CT dx' fs) → fs.lookup ("start" : Str) = some (.int ((j : Nat) : Int)) → CS[j]? = some c0 → IsClo E0 [0] c0 → (∀ l, NotMv t H' l) → Q .non H'
def spInitT (K : PySem.W.Frag) (C CT : Addr) : Sp := fun vs H Q _ => ∃ (φ : Addr → Prop) (H0 : Hp) (p dx x : Addr) (n : Int) (E0 : List Ed), vs = [.ref p, .ref x] ∧ H p = some (.ins CT dx []) ∧ Same H0 H ∧ H0 p = none ∧ SysAt K φ C H0 x n E0 ∧ 1 ≤ n ∧ n ≤ 10 ∧ E0.length ≤ 1000 ∧
  ∀ (t : TA) (H' : Hp) (CS : List (List Int)) (c0 : List Int) (j : Nat) (dx' : Addr) (fs : List (Str × V)), But p H H' → TrAt K C CT φ t H0 H' p n E0 CS → H' p = some (.ins CT dx' fs) → fs.lookup ("start" : Str) = some (.int ((j : Nat) : Int)) → CS[j]? = some c0 → IsClo E0 [0] c0 → (∀ l, NotMv t H' l) → Q .non H'
end
end LW

set_option Elab.async false
set_option linter.all false
set_option maxRecDepth 100000
set_option maxHeartbeats 4000000
namespace LW
open PySem PySem.Spec PyProof.Rows L2 LamX NdefX VB VM VP VE VX VQ VZ VD
/-- the actions that a tuple of states offers -/
def actsC (E : List Ed) (c : List Int) : List Str := srtS (c.flatMap fun s => srtS (acs E s))
open Classical in
noncomputable def nextF (E : List Ed) (c : List Int) (a : Str) : List Int := if h : ∃ d, IsAft E c a d then Classical.choose h else []
theorem nextF_eq {E : List Ed} {c d : List Int} {a : Str} (h : IsAft E c a d) : nextF E c a = d := by
  unfold nextF
  rw [dif_pos ⟨d, h⟩]
  exact (Classical.choose_spec (⟨d, h⟩ : ∃ d, IsAft E c a d)).uniq h
/-- a trace with the states after it -/
abbrev Tc := List Str × List Int
noncomputable def nexts (E : List Ed) (r : Tc) : List Tc := (actsC E r.2).map fun a => (r.1 ++ [a], nextF E r.2 a)
noncomputable def stepL (E : List Ed) (l : List Tc) : List Tc := l.flatMap (nexts E)
/-- a row of a level: its tuple, its trace's tuple, the trace, the number, the states -/
structure Rw where
  q : Addr
  a : Addr
  tr : List Str
  i : Nat
  c : List Int
abbrev Rw.pure (r : Rw) : Tc := (r.tr, r.c)
abbrev qs (L : List Rw) : List V := L.map fun r => V.ref r.q
def LvOk (H : Hp) (CS : List (List Int)) (L : List Rw) : Prop := ∀ r ∈ L, H r.q = some (.tup [.ref r.a, .int ((r.i : Nat) : Int)]) ∧ H r.a = some (.tup (r.tr.map V.str)) ∧ CS[r.i]? = some r.c
theorem LvOk.keep {H H' : Hp} {CS CS' : List (List Int)} {L : List Rw} (h : LvOk H CS L) (ht : ∀ b xs, H b = some (.tup xs) → H' b = some (.tup xs)) (pre : CS <+: CS') : LvOk H' CS' L := fun r hr => by
  obtain ⟨h1, h2, h3⟩ := h r hr
  exact ⟨ht _ _ h1, ht _ _ h2, pre_at pre h3⟩
theorem stepL_snoc (E : List Ed) (l : List Tc) (r : Tc) : stepL E (l ++ [r]) = stepL E l ++ nexts E r := by
  unfold stepL
  rw [List.flatMap_append, List.flatMap_cons, List.flatMap_nil, List.append_nil]
theorem NotMv.same {K : PySem.W.Frag} {C CT : Addr} {φ : Addr → Prop} {t : TA} {H0 H H' : Hp} {p : Addr} {n : Int} {E : List Ed} {CS : List (List Int)} (T : TrAt K C CT φ t H0 H p n E CS) (s : Same H H') {l : Addr} (h : NotMv t H l) : NotMv t H' l := by
  obtain ⟨kv, hdm, M⟩ := T.dm
  refine h.keep fun kvM e => ?_
  rw [s _ _ hdm] at e
  rw [hdm, e]
section
variable {P : Program} {w : World} {K : PySem.W.Frag} {mg : Str → Option Value} {base : Heap}
def spLng (K : PySem.W.Frag) (C CT : Addr) : Sp := fun vs H Q _ => ∃ (φ : Addr → Prop) (t : TA) (H0 : Hp) (p l : Addr) (n : Int) (E0 : List Ed) (CS : List (List Int)) (L : List Rw), vs = [.ref p, .ref l] ∧ TrAt K C CT φ t H0 H p n E0 CS ∧
  H l = some (.lst (qs L)) ∧ ¬ t.own l ∧ LvOk H CS L ∧ (∀ r ∈ L, r.tr.length ≤ 1000) ∧ n ≤ 10 ∧ E0.length ≤ 1000 ∧ (stepL E0 (L.map Rw.pure)).length ≤ 100000 ∧
  ∀ (H' : Hp) (CS' : List (List Int)) (l' : Addr) (L' : List Rw), FrO t H H' → TrAt K C CT φ t H0 H' p n E0 CS' → CS <+: CS' → H l' = none → H' l' = some (.lst (qs L')) → LvOk H' CS' L' → L'.map Rw.pure = stepL E0 (L.map Rw.pure) →
    (∀ x o, H x = some o → NotMv t H x → NotMv t H' x) → Q (.ref l') H'
end
end LW

set_option Elab.async false
set_option linter.all false
set_option maxRecDepth 100000
set_option maxHeartbeats 4000000
namespace LW
open PySem PySem.Spec PyProof.Rows L2 LamX NdefX VB VM VP VE VX VQ VZ VD
/-- the states that follow, action by action -/
noncomputable def nx (E : List Ed) (c : List Int) : List (List Int) := (actsC E c).map (nextF E c)
/-- what a dict of numbers and how many stands for -/
def exW (CS : List (List Int)) (W : List (Nat × Nat)) : List (List Int) := W.flatMap fun q => List.replicate q.2 (CS[q.1]?.getD [])
def kvW (W : List (Nat × Nat)) : List (Key × V) := W.map fun q => (.inl ((q.1 : Nat) : Int), .int ((q.2 : Nat) : Int))
def sumW (W : List (Nat × Nat)) : Nat := (W.map (·.2)).sum
def getW : List (Nat × Nat) → Nat → Nat
  | [], _ => 0
  | (j, k) :: r, i => if j = i then k else getW r i
def addW : List (Nat × Nat) → Nat → Nat → List (Nat × Nat)
  | [], i, m => [(i, m)]
  | (j, k) :: r, i, m => if j = i then (j, k + m) :: r else (j, k) :: addW r i m
end LW

set_option Elab.async false
set_option linter.all false
set_option maxRecDepth 100000
set_option maxHeartbeats 4000000
namespace LW
open PySem PySem.Spec PyProof.Rows L2 LamX NdefX VB VM VP VE VX VQ VZ VD
theorem sc__law_traces : FnScope ["edges", "length", "most", "found", "rows", "turn", "longer", "trace", "place", "action", "row"] ["edges", "length", "most"] (defScope s__law_traces) := ⟨rfl, rfl, rfl, by decide +kernel, rfl, by decide +kernel, by decide +kernel⟩
theorem actsC_L (E : List Ed) (c : List Int) : actsC E c = srtS (acsL E c) := by
  unfold actsC srtS
  refine VB.sort_mem (onceG_nodup _ _ List.nodup_nil) (onceG_nodup _ _ List.nodup_nil) fun x => ?_
  rw [onceG_mem, onceG_mem]
  simp only [List.not_mem_nil, false_or]
  unfold acsL
  rw [List.mem_flatMap, List.mem_map]
  constructor
  · rintro ⟨s, hs, h⟩
    have h2 := srtS_memW.1 h
    unfold acs at h2
    obtain ⟨p, hp, rfl⟩ := List.mem_map.mp h2
    obtain ⟨h3, h4⟩ := List.mem_filter.mp hp
    exact ⟨(s, p), List.mem_filter.mpr ⟨leav_mem.1 h3, decide_eq_true ⟨hs, of_decide_eq_true h4⟩⟩, rfl⟩
  · rintro ⟨e, he, rfl⟩
    obtain ⟨h1, h2⟩ := List.mem_filter.mp he
    obtain ⟨h3, h4⟩ := of_decide_eq_true h2
    refine ⟨e.1, h3, srtS_memW.2 ?_⟩
    unfold acs
    exact List.mem_map.mpr ⟨e.2, List.mem_filter.mpr ⟨leav_mem.2 h1, decide_eq_true h4⟩, rfl⟩
/-- the traces by their lengths -/
noncomputable def lvl (E : List Ed) (c0 : List Int) : Nat → List Tc
  | 0 => [([], c0)]
  | k + 1 => stepL E (lvl E c0 k)
noncomputable def conc (E : List Ed) (c0 : List Int) : Nat → List (List Str)
  | 0 => [[]]
  | k + 1 => conc E c0 k ++ (lvl E c0 (k + 1)).map (·.1)
theorem lvl_nil {E : List Ed} {c0 : List Int} {k : Nat} (h : lvl E c0 k = []) : ∀ j, lvl E c0 (k + j) = []
  | 0 => h
  | j + 1 => by
    show stepL E (lvl E c0 (k + j)) = []
    rw [lvl_nil h j] <;> rfl
theorem conc_nil {E : List Ed} {c0 : List Int} {k : Nat} (h : lvl E c0 k = []) : ∀ j, conc E c0 (k + j) = conc E c0 k
  | 0 => rfl
  | j + 1 => by
    show conc E c0 (k + j) ++ (lvl E c0 (k + (j + 1))).map (·.1) = _
    rw [lvl_nil h (j + 1), conc_nil h j, List.map_nil, List.append_nil]
/-- a row of the law's levels: its tuple, its trace's and its place's tuples -/
structure Lr where
  q : Addr
  a : Addr
  b : Addr
  tr : List Str
  c : List Int
abbrev Lr.pure (r : Lr) : Tc := (r.tr, r.c)
abbrev lqs (L : List Lr) : List V := L.map fun r => V.ref r.q
theorem lqs_snoc (G : List Lr) (r : Lr) : lqs (G ++ [r]) = lqs G ++ [V.ref r.q] := by
  show List.map _ _ = _
  rw [List.map_append] <;> rfl
def LrOk (H : Hp) (L : List Lr) : Prop := ∀ r ∈ L, H r.q = some (.tup [.ref r.a, .ref r.b]) ∧ H r.a = some (.tup (r.tr.map V.str)) ∧ H r.b = some (.tup (r.c.map V.int))
theorem LrOk.keep {H H' : Hp} {L : List Lr} (h : LrOk H L) (ht : ∀ b xs, H b = some (.tup xs) → H' b = some (.tup xs)) : LrOk H' L := fun r hr => by
  obtain ⟨h1, h2, h3⟩ := h r hr
  exact ⟨ht _ _ h1, ht _ _ h2, ht _ _ h3⟩
def TrsOk (H : Hp) (FL : List (Addr × List Str)) : Prop := ∀ r ∈ FL, H r.1 = some (.tup (r.2.map V.str))
theorem TrsOk.keep {H H' : Hp} {L : List (Addr × List Str)} (h : TrsOk H L) (ht : ∀ b xs, H b = some (.tup xs) → H' b = some (.tup xs)) : TrsOk H' L := fun r hr => ht _ _ (h r hr)
def rwD (r : Tc) : PyData := .tuple [.tuple (r.1.map PyData.str), .tuple (r.2.map PyData.int)]
theorem strs_canW {xs : List Str} (h : ∀ x ∈ xs, PyData.strOk x = true) : PyData.canLayAll0 (xs.map PyData.str) = true := by
  induction xs with
  | nil => rfl
  | cons x xs ih => rw [List.map_cons]; simp [PyData.canLayAll0, PyData.canLay0, h x List.mem_cons_self, ih fun y hy => h y (List.mem_cons_of_mem _ hy)]
theorem ints_canW (xs : List Int) : PyData.canLayAll0 (xs.map PyData.int) = true := by
  induction xs with
  | nil => rfl
  | cons x xs ih => rw [List.map_cons]; simp [PyData.canLayAll0, PyData.canLay0, ih]
theorem strs_depW : ∀ ss : List Str, PyData.depthAll (ss.map PyData.str) = 0
  | [] => rfl
  | s :: ss => by rw [List.map_cons]; unfold PyData.depthAll; rw [strs_depW ss] <;> rfl
theorem ints_depW : ∀ ss : List Int, PyData.depthAll (ss.map PyData.int) = 0
  | [] => rfl
  | s :: ss => by rw [List.map_cons]; unfold PyData.depthAll; rw [ints_depW ss] <;> rfl
theorem rwD_can {r : Tc} (h : ∀ x ∈ r.1, PyData.strOk x = true) : (rwD r).canLay0 = true := by
  simp [rwD, PyData.canLay0, PyData.canLayAll0, strs_canW h, ints_canW r.2]
theorem rwD_dep (r : Tc) : (rwD r).depth = 2 := by
  simp [rwD, PyData.depth, PyData.depthAll, strs_depW, ints_depW]
theorem rwDs_can {l : List Tc} (h : ∀ r ∈ l, ∀ x ∈ r.1, PyData.strOk x = true) : PyData.canLayAll0 (l.map rwD) = true := by
  induction l with
  | nil => rfl
  | cons x xs ih => rw [List.map_cons]; simp [PyData.canLayAll0, rwD_can (h x List.mem_cons_self), ih fun y hy => h y (List.mem_cons_of_mem _ hy)]
theorem rwDs_dep : ∀ l : List Tc, PyData.depthAll (l.map rwD) ≤ 2
  | [] => Nat.zero_le _
  | x :: l => by
    rw [List.map_cons]
    unfold PyData.depthAll
    have z := rwDs_dep l
    have y := rwD_dep x
    omega
theorem rwDs_shaped {l : List Tc} (h : ∀ r ∈ l, ∀ x ∈ r.1, PyData.strOk x = true) : SeqAt.shaped (.list (l.map rwD)) = true := by
  have z := rwDs_dep l
  unfold SeqAt.shaped
  rw [show (PyData.list (l.map rwD)).canLay0 = PyData.canLayAll0 (l.map rwD) by rw [PyData.canLay0], rwDs_can h, Bool.true_and, decide_eq_true_eq]
  unfold PyData.depth
  omega
theorem rwDs_nil (l : List Tc) : PyData.eqv (.list (l.map rwD)) (.list []) = decide (l = []) := by
  cases l with
  | nil => rfl
  | cons c cs => simp [PyData.eqv, PyData.eqvAll]
theorem lrs_dp {K : PySem.W.Frag} {H : Hp} : ∀ {L : List Lr}, LrOk H L → DpAll K H (lqs L) ((L.map Lr.pure).map rwD)
  | [], _ => .nil
  | r :: L, h => by
    obtain ⟨h1, h2, h3⟩ := h r List.mem_cons_self
    have di : ∀ ss : List Int, DpAll K H (ss.map V.int) (ss.map PyData.int) := fun ss => by
      induction ss with
      | nil => exact .nil
      | cons s ss ih => exact .cons (.int s) ih
    exact .cons (.tup (.inl (.inl h1)) (.cons (.tup (.inl (.inl h2)) (VB.dpAll_strs _)) (.cons (.tup (.inl (.inl h3)) (di _)) .nil))) (lrs_dp fun q hq => h q (List.mem_cons_of_mem _ hq))
theorem lvl_acts {E : List Ed} (h : ∀ e ∈ E, e.2.1 ∈ acts) (c0 : List Int) : ∀ (k : Nat), ∀ r ∈ lvl E c0 k, ∀ x ∈ r.1, x ∈ acts
  | 0, r, hr, x, hx => by
    rw [List.mem_singleton.mp hr] at hx
    cases hx
  | k + 1, r, hr, x, hx => by
    obtain ⟨r0, h0, h1⟩ := List.mem_flatMap.mp (show r ∈ stepL E (lvl E c0 k) from hr)
    obtain ⟨y, hy, rfl⟩ := List.mem_map.mp h1
    rcases List.mem_append.mp hx with z | z
    · exact lvl_acts h c0 k r0 h0 x z
    · rw [List.mem_singleton.mp z]
      rw [actsC_L] at hy
      have hy2 := srtS_memW.1 hy
      unfold acsL at hy2
      obtain ⟨e, he, rfl⟩ := List.mem_map.mp hy2
      exact h e (List.mem_filter.mp he).1
section
variable {P : Program} {w : World} {K : PySem.W.Frag} {mg : Str → Option Value} {base : Heap}
def spLTr (K : PySem.W.Frag) : Sp := fun vs H Q _ => ∃ (a : Addr) (L : List (Addr × Ed)) (len most : Int), vs = [.ref a, .int len, .int most] ∧ SqL K H a (refs L) ∧ Eds K H L ∧ L.length ≤ 1000 ∧ (∀ p ∈ L, p.2.2.1 ∈ acts) ∧ 0 ≤ len ∧ len ≤ 100 ∧ 0 ≤ most ∧ most ≤ 1000 ∧
  ∀ (q : Addr) (H' : Hp) (c0 : List Int) (FL : List (Addr × List Str)), Same H H' → H' q = some (.lst (refs FL)) → TrsOk H' FL → IsClo (L.map (·.2)) [0] c0 →
    (FL.map (·.2) = conc (L.map (·.2)) c0 len.toNat ∨ (most < FL.length ∧ ∃ j : Nat, j ≤ len.toNat ∧ FL.map (·.2) = conc (L.map (·.2)) c0 j)) → FL.length ≤ 100000 → Q (.ref q) H'
theorem c_ltr (D0 : Df K mg "_law_traces" s__law_traces) (z_range : mg "range" = none) (z_len : mg "len" = none) (c__law_closed : C8.Cal P w K mg base 1 "_law_closed" (spCls K) []) (c__law_after : C8.Cal P w K mg base 2 "_law_after" (spAftL K) [])
    (c__law_actions : C8.Cal P w K mg base 2 "_law_actions" (spActL K) []) : C8.Cal P w K mg base 3 "_law_traces" (spLTr K) [] := by
  refine D0.cal sc__law_traces (fun _ _ _ _ _ _ us hl => match us, hl with | [_, _, _], _ => rfl) (fun vs H Q E h => ?_) (fun f cdv A outer s0 H vs Q E hr h => ?_)
  · obtain ⟨a, L, len, most, rfl, _⟩ := h
    rfl
  obtain ⟨a, L, len, most, rfl, hS, hE, lenL, hac, l0, l1, m0, m1, q⟩ := h
  refine ⟨_, (pss_cons (ps_set (i := 3) sc__law_traces.nd rfl (Or.inl rfl) (pe_lst (pa_cons (pe_tup pa_nil) pa_nil)))
    (pss_cons (ps_set (i := 4) sc__law_traces.nd rfl (Or.inl rfl) (pe_lst (pa_cons (pe_tup (pa_cons (pe_tup pa_nil) (pa_cons (C8.pe_c c__law_closed hr (by first | decide | omega) rfl (pa_cons (pv 0) (pa_cons (pe_lst (pa_cons pe_int pa_nil)) pa_nil))) pa_nil))) pa_nil)))
    (pss_cons (ps_for PassesOwn.never rfl (pi_range1 rfl z_range (pa_cons (pv 1) pa_nil)) (pg_name (i := 5) sc__law_traces.nd rfl (Or.inl rfl))
      (pss_cons (ps_set (i := 6) sc__law_traces.nd rfl (Or.inl rfl) (pe_lst pa_nil))
      (pss_cons (ps_for PassesOwn.never rfl (pi_list (pv 4)) (pg_tup rfl (pgs_cons (pg_name (i := 7) sc__law_traces.nd rfl (Or.inl rfl)) (pgs_cons (pg_name (i := 8) sc__law_traces.nd rfl (Or.inl rfl)) pgs_nil)))
        (pss_one (ps_for PassesOwn.never rfl (pi_list (C8.pe_c c__law_actions hr (by first | decide | omega) rfl (pa_cons (pv 0) (pa_cons (pv 8) pa_nil)))) (pg_name (i := 9) sc__law_traces.nd rfl (Or.inl rfl))
          (pss_one (ps_expr (pe_bm PySem.F.plainAttrs_list PySem.F.slot_list_append PySem.F.type_list_append mt_append (pv 6) (pa_cons (pe_tup (pa_cons (pe_op (VZ.catA (K := K) rfl) (pv 7) (pe_tup (pa_cons (pv 9) pa_nil))) (pa_cons (C8.pe_c c__law_after hr (by first | decide | omega) rfl (pa_cons (pv 0) (pa_cons (pv 8) (pa_cons (pv 9) pa_nil)))) pa_nil))) pa_nil)))))))
      (pss_cons (ps_set (i := 4) sc__law_traces.nd rfl (Or.inl rfl) (pv 6))
      (pss_cons (ps_set (i := 3) sc__law_traces.nd rfl (Or.inl rfl) (pe_op op_cat (pv 3) (pe_lc (own := [("row", 10)]) (tt := tYes) rfl sc__law_traces.nd (pi_list (pv 4)) (blkOk_by (N := ["edges", "length", "most", "found", "rows", "turn", "longer", "trace", "place", "action", "row"]) (sc := defScope s__law_traces) (by decide +kernel)) (fun _ _ _ _ _ => (pg_name (i := 10) sc__law_traces.nd rfl (Or.inl rfl) (hf := Or.inr rfl))) (fun _ _ _ _ _ => pts_nil) (fun _ _ _ _ _ => (pe_ix (VK.ixT (K := K) rfl) (pv 10) pe_int (fun _ _ => rfl))))))
      (pss_one (ps_if (PW.pt (pw_or (pt_cmpR op_gt (pe_callB (VK.lenQ (K := K) rfl) (by rfl) z_len PySem.boot_len (pa_cons (pv 3) pa_nil)) (pv 2) (nomark _)) (pw_or1 (pt_cmpR (VK.eqD (K := K) rfl hr.units) (pv 4) (pe_lst pa_nil) (nomark _)))))
        (pss_one ps_break)
        pss_nil)))))))
    (pss_one (ps_ret (pv 3)))))), ?_⟩
  have zl := sizeLine_eq
  refine ⟨Nat.zero_le _, fun t0 nt0 => ⟨(by show 1 ≤ sizeLine; omega), fun fl nfl => ?_⟩⟩
  have s1 := same_upd nt0 (.tup [])
  have s2 := s1.trans (same_upd nfl (.lst [.ref t0]))
  have hfl : upd (upd H t0 (.tup [])) fl (.lst [.ref t0]) fl = some (.lst (refs [(t0, ([] : List Str))])) := upd_same
  have ht0 : upd (upd H t0 (.tup [])) fl (.lst [.ref t0]) t0 = some (.tup ((([] : List Str)).map V.str)) := (same_upd nfl (.lst [.ref t0])) _ _ upd_same
  generalize upd (upd H t0 (.tup [])) fl (.lst [.ref t0]) = H1 at s2 hfl ht0 ⊢
  refine ⟨Nat.zero_le _, fun t1 nt1 => ?_⟩
  have s3 := same_upd nt1 (.tup [])
  refine ⟨_, rfl, (by show 1 ≤ sizeLine; omega), fun p5 np5 => ?_⟩
  have s4 := s3.trans (same_upd np5 (.lst [.int 0]))
  have ht1 : upd (upd H1 t1 (.tup [])) p5 (.lst [.int 0]) t1 = some (.tup ((([] : List Str)).map V.str)) := (same_upd np5 (.lst [.int 0])) _ _ upd_same
  refine ⟨a, p5, L, [0], rfl, (s2.trans s4).seq hS, hE.kp (Kp.of (s2.trans s4)), lenL, .inl (SqL.of upd_same), by decide, by decide, fun pl H2 c0 s5 hpl hc0 => ?_⟩
  refine ⟨(by show 2 ≤ sizeLine; omega), fun k0 nk0 => ?_⟩
  have s6 := same_upd nk0 (.tup [.ref t1, .ref pl])
  refine ⟨(by show 1 ≤ sizeLine; omega), fun rl nrl => ?_⟩
  have s7 := same_upd nrl (.lst [.ref k0])
  have s17 := ((s4.trans s5).trans s6).trans s7
  have hrl : upd (upd H2 k0 (.tup [.ref t1, .ref pl])) rl (.lst [.ref k0]) rl = some (.lst (lqs [⟨k0, t1, pl, [], c0⟩])) := upd_same
  have hok : LrOk (upd (upd H2 k0 (.tup [.ref t1, .ref pl])) rl (.lst [.ref k0])) [⟨k0, t1, pl, [], c0⟩] := fun r hr => by
    rw [List.mem_singleton.mp hr]
    exact ⟨s7 _ _ upd_same, s7 _ _ (s6 _ _ (s5 _ _ ht1)), s7 _ _ (s6 _ _ hpl)⟩
  have hfl7 := s17 _ _ hfl
  have ht07 := s17 _ _ ht0
  have sH := s2.trans s17
  generalize upd (upd H2 k0 (.tup [.ref t1, .ref pl])) rl (.lst [.ref k0]) = H7 at hrl hok hfl7 ht07 sH ⊢
  clear s1 s2 s3 s4 s5 s6 s7 s17 hfl ht0 ht1 hpl nk0 nrl np5 nt1 nfl nt0
  obtain ⟨E0, hE0⟩ : ∃ E0, E0 = L.map (·.2) := ⟨_, rfl⟩
  rw [← hE0] at q hc0
  refine ⟨_, rfl, len, rfl, by omega, by omega, for_range (lo := 0) (n := len.toNat)
    (fun j σ H' => ∃ (fl rl : Addr) (FL : List (Addr × List Str)) (R : List Lr) (r5 r6 r7 r8 r9 : Option V), σ = [some (.ref a), some (.int len), some (.int most), some (.ref fl), some (.ref rl), r5, r6, r7, r8, r9, none] ∧ Same H H' ∧ H' fl = some (.lst (refs FL)) ∧ TrsOk H' FL ∧
      H' rl = some (.lst (lqs R)) ∧ LrOk H' R ∧ R.map Lr.pure = lvl E0 c0 j ∧ FL.map (·.2) = conc E0 c0 j ∧ FL.length ≤ 1001 ∧ R.length ≤ 1001 ∧ (∀ r ∈ R, r.tr.length = j))
    ⟨fl, rl, [(t0, [])], [⟨k0, t1, pl, [], c0⟩], _, _, _, _, _, rfl, sH, hfl7, fun r hr => by rw [List.mem_singleton.mp hr]; exact ht07, hrl, hok, rfl, rfl, by simp, by simp, fun r hr => by rw [List.mem_singleton.mp hr] <;> rfl⟩ ?_ ?_⟩
  · rintro j σ H8 hj ⟨fl, rl, FL, R, r5, r6, r7, r8, r9, rfl, sH, hfl, hFL, hrl, hR, eR, eF, lF, lR, trl⟩
    refine ⟨Nat.zero_le _, fun lo nlo => ?_⟩
    have slo := same_upd nlo (.lst [])
    have lj : j < 100 := by omega
    refine ⟨_, rfl, rl, rfl, ⟨_, SqL.of (slo _ _ hrl)⟩, for_list (K := K) (a := rl) (xs := lqs R)
      (fun m σ H' => ∃ (G : List Lr) (r7 r8 r9 : Option V), σ = [some (.ref a), some (.int len), some (.int most), some (.ref fl), some (.ref rl), some (.int (0 + (j : Nat))), some (.ref lo), r7, r8, r9, none] ∧ Same H8 H' ∧ H' lo = some (.lst (lqs G)) ∧ LrOk H' G ∧
        G.map Lr.pure = stepL E0 ((R.take m).map Lr.pure) ∧ G.length ≤ 10 * m ∧ (∀ r ∈ G, r.tr.length = j + 1))
      ⟨[], _, _, _, rfl, slo, upd_same, fun r hr => absurd hr List.not_mem_nil, rfl, by simp, fun r hr => absurd hr List.not_mem_nil⟩ (fun m σ H' _ ⟨_, _, _, _, _, z, _⟩ => SqL.of (z _ _ hrl)) ?_ ?_⟩
    · rintro m v σ H9 hv ⟨G, r7, r8, r9, rfl, s9, hlo, hG, eG, lG, trG⟩
      rw [List.getElem?_map] at hv
      obtain ⟨r, hr0, rfl⟩ := Option.map_eq_some_iff.mp hv
      have rin := List.mem_of_getElem? hr0
      have ltm := (List.getElem?_eq_some_iff.mp hr0).1
      obtain ⟨g1, g2, g3⟩ := hR r rin
      have str := trl r rin
      refine ⟨r.q, _, rfl, .inl (.inl (s9 _ _ g1)), rfl, .ref r.a, _, rfl, .ref r.b, _, rfl, rfl, ?_⟩
      refine ⟨_, rfl, _, rfl, a, r.b, L, r.c, rfl, (sH.trans s9).seq hS, hE.kp (Kp.of (sH.trans s9)), lenL, .inl (.inl (s9 _ _ g3)), fun ac H10 s10 hacl nac => ?_⟩
      rw [← hE0, ← actsC_L] at hacl
      have lAS : (actsC E0 r.c).length ≤ 10 := by
        rw [actsC_L]
        refine srtS_ten fun x hx => ?_
        unfold acsL at hx
        obtain ⟨e, he, rfl⟩ := List.mem_map.mp hx
        obtain ⟨h1, _⟩ := List.mem_filter.mp he
        rw [hE0] at h1
        obtain ⟨p, hp, rfl⟩ := List.mem_map.mp h1
        exact hac p hp
      have lo_ac : lo ≠ ac := fun e => by rw [← e, hlo] at nac; cases nac
      have s910 := s9.trans s10
      refine ⟨ac, rfl, ⟨_, SqL.of hacl⟩, for_list (K := K) (a := ac) (xs := (actsC E0 r.c).map V.str)
        (fun u σ H' => ∃ (G2 : List Lr) (r9 : Option V), σ = [some (.ref a), some (.int len), some (.int most), some (.ref fl), some (.ref rl), some (.int (0 + (j : Nat))), some (.ref lo), some (.ref r.a), some (.ref r.b), r9, none] ∧ Same H8 H' ∧ H' ac = some (.lst ((actsC E0 r.c).map V.str)) ∧ H' lo = some (.lst (lqs (G ++ G2))) ∧ LrOk H' (G ++ G2) ∧
          G2.map Lr.pure = ((actsC E0 r.c).take u).map (fun x => (r.tr ++ [x], nextF E0 r.c x)) ∧ G2.length = u ∧ (∀ r ∈ G2, r.tr.length = j + 1))
        ⟨[], _, rfl, s910, hacl, by rw [List.append_nil]; exact s10 _ _ hlo, by rw [List.append_nil]; exact hG.keep (fun b xs h => s10 _ _ h), rfl, rfl, fun r hr => absurd hr List.not_mem_nil⟩ (fun u σ H' _ ⟨_, _, _, _, z, _⟩ => SqL.of z) ?_ ?_⟩
      · rintro u v σ H11 hvu ⟨G2, r9, rfl, s11, hac11, hlo11, hG11, eG2, lG2, trG2⟩
        rw [List.getElem?_map] at hvu
        obtain ⟨x, hx, rfl⟩ := Option.map_eq_some_iff.mp hvu
        have ltu := (List.getElem?_eq_some_iff.mp hx).1
        have g1' := s11 _ _ g2
        have g3' := s11 _ _ g3
        refine ⟨_, rfl, .inl ⟨rfl, _, SqL.of hlo11⟩, ?_⟩
        refine ⟨_, rfl, _, rfl, (by show 1 ≤ sizeLine; omega), fun t1 nt1 => ?_⟩
        have s5 := same_upd nt1 (.tup [.str x])
        have ht1 : upd H11 t1 (.tup [.str x]) t1 = some (.tup [.str x]) := upd_same
        have hra := s5 _ _ g1'
        have s45 := s5
        generalize upd H11 t1 (.tup [.str x]) = H5 at ht1 hra s45 ⊢
        refine ⟨r.a, t1, _, _, rfl, rfl, .inl (.inl hra), .inl (.inl ht1), by rw [List.length_map]; show _ + 1 ≤ _; omega, ?x1, ?x2, ?x3⟩
        case x2 => exact fun _ e => absurd e (by simp)
        case' x1 =>
          intro e0
          have etr : r.tr = [] := List.map_eq_nil_iff.mp e0
          have htn : H5 t1 = some (.tup ((r.tr ++ [x]).map V.str)) := by rw [etr]; exact ht1
          generalize H5 = H6 at htn s45 ⊢
          generalize t1 = tn at htn ⊢
        case' x3 =>
          intro ne _ tn ntn
          have s56 := same_upd ntn (.tup (r.tr.map V.str ++ [V.str x]))
          have htn : upd H5 tn (.tup (r.tr.map V.str ++ [V.str x])) tn = some (.tup ((r.tr ++ [x]).map V.str)) := by rw [upd_same, List.map_append] <;> rfl
          replace s45 := s45.trans s56
          generalize upd H5 tn (.tup (r.tr.map V.str ++ [V.str x])) = H6 at htn s45 ⊢
        all_goals
          have s06 := s11.trans s45
          refine ⟨_, rfl, _, rfl, _, rfl, a, r.b, L, r.c, x, rfl, (sH.trans s06).seq hS, hE.kp (Kp.of (sH.trans s06)), lenL, .inl (.inl (s06 _ _ g3)), fun pn H7 cn s67 hpn hcn => ?_⟩
          rw [← hE0] at hcn
          refine ⟨(by show 2 ≤ sizeLine; omega), fun k nk => ?_⟩
          have s78 := same_upd nk (.tup [.ref tn, .ref pn])
          have hk : upd H7 k (.tup [.ref tn, .ref pn]) k = some (.tup [.ref tn, .ref pn]) := upd_same
          have s48 := (s45.trans s67).trans s78
          have htn8 := s78 _ _ (s67 _ _ htn)
          have hpn8 := s78 _ _ hpn
          generalize upd H7 k (.tup [.ref tn, .ref pn]) = H12 at hk s48 htn8 hpn8 ⊢
          have hlo12 := s48 _ _ hlo11
          refine ⟨lo, _, _, rfl, rfl, hlo12, by rw [List.length_map, List.length_append]; omega, ?_⟩
          have up : ∀ b xs, H12 b = some (.tup xs) → upd H12 lo (.lst (lqs (G ++ G2) ++ [V.ref k])) b = some (.tup xs) := fun b xs h => by rw [upd_ne (ne_of h hlo12 (fun z => nomatch z))]; exact h
          refine ⟨G2 ++ [⟨k, tn, pn, r.tr ++ [x], cn⟩], _, rfl, sameIn (s11.trans s48) nlo, by rw [upd_ne lo_ac.symm]; exact s48 _ _ hac11, by rw [upd_same, ← List.append_assoc, lqs_snoc], fun g hg => ?_, ?_, by rw [List.length_append, lG2] <;> rfl, fun g hg => ?_⟩
          · rw [← List.append_assoc] at hg
            rcases List.mem_append.mp hg with z | z
            · obtain ⟨h1, h2, h3⟩ := hG11 g z
              exact ⟨up _ _ (s48 _ _ h1), up _ _ (s48 _ _ h2), up _ _ (s48 _ _ h3)⟩
            · rw [List.mem_singleton.mp z]
              exact ⟨up _ _ hk, up _ _ htn8, up _ _ hpn8⟩
          · rw [List.map_append, eG2, List.take_add_one, hx, Option.toList_some, List.map_append, List.map_cons, List.map_nil, List.map_cons, List.map_nil, nextF_eq (show IsAft E0 r.c x cn from hcn)]
          · rcases List.mem_append.mp hg with z | z
            · exact trG2 g z
            · rw [List.mem_singleton.mp z, List.length_append, str] <;> rfl
      · rintro σ H11 ⟨G2, r9, rfl, s11, hac11, hlo11, hG11, eG2, lG2, trG2⟩
        rw [List.length_map] at lG2
        rw [List.length_map, List.take_of_length_le (Nat.le_refl _)] at eG2
        refine ⟨G ++ G2, _, _, _, rfl, s11, hlo11, hG11, ?_, by rw [List.length_append]; omega, fun g hg => (List.mem_append.mp hg).elim (trG g) (trG2 g)⟩
        rw [List.map_append, eG, eG2, List.take_add_one, hr0, Option.toList_some, List.map_append, List.map_cons, List.map_nil, stepL_snoc] <;> rfl
    · rintro σ H9 ⟨G, r7, r8, r9, rfl, s9, hlo, hG, eG, lG, trG⟩
      rw [List.length_map] at lG
      rw [List.length_map, List.take_of_length_le (Nat.le_refl _), eR] at eG
      refine ⟨_, rfl, ?_⟩
      have hfl9 := s9 _ _ hfl
      refine ⟨_, rfl, _, rfl, lo, rfl, ⟨_, SqL.of hlo⟩, fun D nD => ?_⟩
      refine lc_list (K := K) (a := lo) (xs := lqs G) (fun m H2 => Same H9 H2 ∧ H2 D = some (.lst (refs ((G.take m).map fun r => (r.a, r.tr))))) ⟨same_upd nD _, upd_same⟩ (fun m H2 _ z => z.1.seq (SqL.of hlo)) ?_ ?_
      · rintro m v H2 hv ⟨s2, hD⟩
        rw [List.getElem?_map] at hv
        obtain ⟨r, hr0, rfl⟩ := Option.map_eq_some_iff.mp hv
        have rin := List.mem_of_getElem? hr0
        have ltm := (List.getElem?_eq_some_iff.mp hr0).1
        obtain ⟨g1, g2, g3⟩ := hG r rin
        refine ⟨rfl, ?_⟩
        refine ⟨_, rfl, r.q, _, _, _, rfl, rfl, .inl (.inl (s2 _ _ g1)), rfl, _, hD, by rw [refs_len, List.length_map, List.length_take]; omega, sameIn s2 nD, ?_⟩
        rw [upd_same, List.take_add_one, hr0, Option.toList_some, List.map_append, List.map_cons, List.map_nil, refs_snoc]
      · rintro H2 ⟨s2, hD⟩
        rw [List.length_map, List.take_of_length_le (Nat.le_refl _)] at hD
        refine ⟨fl, D, _, _, rfl, rfl, s2 _ _ hfl9, hD, by rw [refs_len, refs_len, List.length_map]; omega, fun nf nnf => ?_⟩
        have s3 := same_upd nnf (.lst (refs FL ++ refs (G.map fun r => (r.a, r.tr))))
        have hnf : upd H2 nf (.lst (refs FL ++ refs (G.map fun r => (r.a, r.tr)))) nf = some (.lst (refs (FL ++ G.map fun r => (r.a, r.tr)))) := by
          rw [upd_same]
          unfold refs
          rw [List.map_append]
        have s93 := s2.trans s3
        generalize upd H2 nf (.lst (refs FL ++ refs (G.map fun r => (r.a, r.tr)))) = H3 at hnf s93 ⊢
        have hlo3 := s93 _ _ hlo
        have hG3 := hG.keep fun b xs h => s93 _ _ h
        have sH3 := (sH.trans s9).trans s93
        have hF3 : TrsOk H3 (FL ++ G.map fun r => (r.a, r.tr)) := fun g hg => by
          rcases List.mem_append.mp hg with z | z
          · exact (s9.trans s93) _ _ (hFL g z)
          · obtain ⟨r, hr, rfl⟩ := List.mem_map.mp z
            exact (hG3 r hr).2.1
        have eG' : G.map Lr.pure = lvl E0 c0 (j + 1) := eG
        have eF3 : (FL ++ G.map fun r => (r.a, r.tr)).map (·.2) = conc E0 c0 (j + 1) := by
          show _ = conc E0 c0 j ++ (lvl E0 c0 (j + 1)).map (·.1)
          rw [List.map_append, eF, ← eG', List.map_map, List.map_map] <;> rfl
        have lF3 : (FL ++ G.map fun r => (r.a, r.tr)).length ≤ 20000 := by rw [List.length_append, List.length_map]; omega
        generalize (FL ++ G.map fun r => (r.a, r.tr)) = FL3 at hnf hF3 eF3 lF3 ⊢
        clear hG hlo hD s2 s3 s93 s9 hFL hfl9 hfl eF
        have ej : ((0 : Int) + (j : Nat)) = (j : Nat) := by omega
        refine ⟨_, rfl, nf, _, rfl, .inl (SqL.of hnf), _, rfl, ?_⟩
        rw [refs_len]
        refine ⟨_, _, rfl, rfl, _, rfl, ?_⟩
        have hE0a : ∀ e ∈ E0, e.2.1 ∈ acts := fun e he => by
          rw [hE0] at he
          obtain ⟨p, hp, rfl⟩ := List.mem_map.mp he
          exact hac p hp
        refine ite2 (fun c => ?_) (fun c => ?_)
        · have c' := of_decide_eq_true c
          exact ⟨_, rfl, q nf H3 c0 FL3 sH3 hnf hF3 hc0 (.inr ⟨by omega, j + 1, by omega, eF3⟩) (by omega)⟩
        · have c' : ¬ most < (FL3.length : Int) := fun z => c (decide_eq_true z)
          refine ⟨_, rfl, Nat.zero_le _, fun z nz => ?_⟩
          have sz := same_upd nz (.lst [])
          refine ⟨.list ((G.map Lr.pure).map rwD), .list [], .lst (SqL.of (sz _ _ hlo3)) (lrs_dp (hG3.keep fun b xs h => sz _ _ h)), .lst (SqL.of upd_same) .nil, rwDs_shaped (fun r hr x hx => ?_), rfl, _, rfl, ?_⟩
          · rw [eG'] at hr
            exact (acts_ok _ (lvl_acts hE0a c0 _ r hr x hx)).1
          rw [rwDs_nil]
          refine ite2 (fun c2 => ?_) (fun c2 => ?_)
          · have e0 : lvl E0 c0 (j + 1) = [] := by rw [← eG']; exact of_decide_eq_true c2
            have e1 := conc_nil e0 (len.toNat - (j + 1))
            rw [show j + 1 + (len.toNat - (j + 1)) = len.toNat by omega] at e1
            exact ⟨_, rfl, q nf _ c0 FL3 (sH3.trans sz) (sz _ _ hnf) (hF3.keep fun b xs h => sz _ _ h) hc0 (.inl (by rw [eF3, e1])) (by omega)⟩
          · have lGG : G.length ≤ FL3.length := by
              have a1 := congrArg List.length eF3
              have a2 := congrArg List.length eG'
              show _
              have a3 : (conc E0 c0 (j + 1)).length = (conc E0 c0 j).length + (lvl E0 c0 (j + 1)).length := by
                show (conc E0 c0 j ++ (lvl E0 c0 (j + 1)).map (·.1)).length = _
                rw [List.length_append, List.length_map]
              rw [List.length_map] at a1 a2
              omega
            exact ⟨nf, lo, FL3, G, _, _, _, _, _, rfl, sH3.trans sz, sz _ _ hnf, hF3.keep fun b xs h => sz _ _ h, sz _ _ hlo3, hG3.keep fun b xs h => sz _ _ h, eG', eF3, by omega, by omega, trG⟩
  · rintro σ H8 ⟨fl, rl, FL, R, r5, r6, r7, r8, r9, rfl, sH, hfl, hFL, hrl, hR, eR, eF, lF, lR, trl⟩
    exact ⟨_, rfl, q fl H8 c0 FL sH hfl hFL hc0 (.inl eF) (by omega)⟩
end
end LW

set_option Elab.async false
set_option linter.all false
set_option maxRecDepth 100000
set_option maxHeartbeats 400000
namespace LW
open PySem PySem.Spec PyProof.Rows L2 LamX NdefX VB VM VP VE VX VQ VZ
section
variable {E1 E2 : List Ed} {md : Str}
/-- what is reached is a pair of a state and an ascending tuple of states -/
theorem Rc.range {n1 n2 : Int} (ok1 : ∀ e ∈ E1, okE n1 e) (ok2 : ∀ e ∈ E2, okE n2 e) (p1 : 1 ≤ n1) (p2 : 1 ≤ n2) {tr : List Str} {s : Int} {T : List Int} (h : Rc E1 E2 md tr s T) : (0 ≤ s ∧ s < n2) ∧ T.Pairwise (· < ·) ∧ ∀ x ∈ T, 0 ≤ x ∧ x < n1 := by
  induction h with
  | st h => exact ⟨⟨Int.le_refl _, by omega⟩, h.asc, clo_range ok1 h fun x hx => by rw [List.mem_singleton.mp hx]; omega⟩
  | tau _ _ e ih => exact ⟨⟨(ok2 _ e).2.2.1, (ok2 _ e).2.2.2.1⟩, ih.2⟩
  | vis _ _ e _ c _ ih => exact ⟨⟨(ok2 _ e).2.2.1, (ok2 _ e).2.2.2.1⟩, c.asc, clo_range ok1 c (aft_range ok1)⟩
def allTP (n1 n2 : Nat) : List TP := (List.range n2).flatMap fun s => (VSub.subs n1).map fun T => (((s : Nat) : Int), T)
theorem allTP_len (n1 n2 : Nat) : (allTP n1 n2).length = n2 * 2 ^ n1 := by
  unfold allTP
  rw [List.length_flatMap]
  simp only [List.length_map, VSub.subs_len]
  rw [List.map_const', List.sum_replicate_nat, List.length_range]
theorem allTP_mem {n1 n2 : Nat} {s : Int} {T : List Int} (h0 : 0 ≤ s) (h1 : s < (n2 : Nat)) (asc : T.Pairwise (· < ·)) (rg : ∀ x ∈ T, 0 ≤ x ∧ x < (n1 : Nat)) : (s, T) ∈ allTP n1 n2 :=
  List.mem_flatMap.mpr ⟨s.toNat, List.mem_range.mpr (by omega), List.mem_map.mpr ⟨T, VSub.subs_mem n1 T asc rg, by rw [Int.toNat_of_nonneg h0]⟩⟩
end
theorem tup_nil : PySem.W.dataLt (.tuple []) (.tuple []) = false := lt_irr _
theorem lex_tup {x y : PyData} {xs ys : List PyData} (al : PySem.W.alike x y = true) : PySem.W.dataLt (.tuple (x :: xs)) (.tuple (y :: ys)) = if PyData.eqv x y = true then PySem.W.dataLt (.tuple xs) (.tuple ys) else PySem.W.dataLt x y := by
  obtain ⟨h1, h2⟩ := PySem.W.toks_eqv x y al
  have l : ∀ (z : PyData) (zs : List PyData), PySem.W.keyToks (.tuple (z :: zs)) = [Sum.inl 1] ++ (PySem.W.keyToks z ++ PySem.W.keyToksAll zs) := fun z zs => by
    rw [PySem.W.keyToks, PySem.W.toks_all_cons] <;> rfl
  unfold PySem.W.dataLt
  rw [l, l, PySem.W.lex_pre]
  cases e : PyData.eqv x y with
  | true =>
    rw [h1 e, PySem.W.lex_pre, if_pos rfl]
    simp only [PySem.W.keyToks]
  | false =>
    rw [if_neg (by decide), h2 e]
theorem int_eqv (a b : Int) : PyData.eqv (.int a) (.int b) = decide (a = b) := by
  simp only [PyData.eqv]
  exact Bool.eq_iff_iff.mpr (by rw [beq_iff_eq, decide_eq_true_eq])
theorem int_lt (a b : Int) : PySem.W.dataLt (.int a) (.int b) = decide (a < b) := PySem.W.dataLt_int a b
theorem strs_dp {K : PySem.W.Frag} {H : Hp} : ∀ T : List Str, DpAll K H (T.map V.str) (T.map PyData.str)
  | [] => .nil
  | x :: T => .cons (.str x) (strs_dp T)
theorem rowD_dp {K : PySem.W.Frag} {H : Hp} {a : Addr} {r : List Str} (h : SqT K H a (r.map V.str)) : Dp K H (.ref a) (rowD r) := .tup h (strs_dp r)
theorem strs_dep' : ∀ T : List Str, PyData.depthAll (T.map PyData.str) = 0
  | [] => rfl
  | x :: T => by rw [List.map_cons]; simp only [PyData.depthAll, PyData.depth, strs_dep' T, Nat.max_self]
theorem row_dep (r : List Str) : (rowD r).depth = 1 := by unfold rowD; simp only [PyData.depth, strs_dep']
end LW

set_option Elab.async false
set_option linter.all false
set_option maxRecDepth 100000
set_option maxHeartbeats 400000
namespace LW
open PySem PySem.Spec PyProof.Rows L2 LamX NdefX VB VM VP VE VX VQ VZ
/-! what is reached and not allowed hangs on which edges there are -/
section
variable {E1 E1' E2 E2' : List Ed} {md : Str}
end
end LW

set_option Elab.async false
set_option linter.all false
set_option maxRecDepth 100000
set_option maxHeartbeats 400000
namespace LW
open PySem PySem.Spec PyProof.Rows L2 LamX NdefX VB VM VP VE VX VQ VZ
/-! what a system does along traces, without tuples: for refinement as an order -/
/-- a state is reached along a trace -/
inductive Wk (E : List Ed) : List Str → Int → Prop
  | st : Wk E [] 0
  | tau {tr : List Str} {s s' : Int} : Wk E tr s → (s, ("tau" : Str), s') ∈ E → Wk E tr s'
  | vis {tr : List Str} {s s' : Int} {a : Str} : Wk E tr s → (s, a, s') ∈ E → a ≠ ("tau" : Str) → Wk E (tr ++ [a]) s'
/-- the tuple of states after a trace -/
inductive Af (E : List Ed) : List Str → List Int → Prop
  | st {T : List Int} : IsClo E [0] T → Af E [] T
  | vis {tr : List Str} {T T' : List Int} {a : Str} : Af E tr T → a ≠ ("tau" : Str) → IsClo E (aft E T a) T' → Af E (tr ++ [a]) T'
section
variable {E : List Ed}
/-- an initial piece of the trace leads the first system to endless silence -/
def OpnT (E1 : List Ed) (md : Str) (p : List Str) : Prop := md = "divergences" ∧ ∃ x, Wk E1 p x ∧ ¬ Halt E1 x
/-- what the second system does at a trace is allowed -/
def Cov (E1 E2 : List Ed) (md : Str) (tr : List Str) (s : Int) : Prop := (∃ p, p <+: tr ∧ OpnT E1 md p) ∨
  ((∃ x, Wk E1 tr x) ∧ (md = "divergences" → Halt E2 s) ∧ (md ≠ "traces" → tg E2 s ("tau" : Str) = [] → ∃ x, Wk E1 tr x ∧ tg E1 x ("tau" : Str) = [] ∧ ∀ a ∈ acs E1 x, a ∈ acs E2 s))
section
variable {E1 E2 E3 : List Ed} {md : Str}
/-- refinement: nothing is wrong -/
def Ref (E1 E2 : List Ed) (md : Str) : Prop := ∀ b, ¬ Bd E1 E2 md (Rc E1 E2 md) b
end
end
end LW

set_option Elab.async false
set_option linter.all false
set_option maxRecDepth 100000
set_option maxHeartbeats 400000
namespace LW
open PySem PySem.Spec PyProof.Rows L2 LamX NdefX VB VM VP VE VX VQ VZ VD
namespace MG
/-! the law's search, over all sets of states -/
section
variable {α : Type} {mv : α → List (Str × α)} {z : α} {XL : List (XQ α)} {D : Str → Prop}
theorem full_ (I : QInv mv z XL XL.length D) {v : List Str} {p : α} (r : Rp mv z v p) : ∃ y ∈ XL, p ∈ y.pl ∧ tle y.tr v := by
  induction r with
  | st =>
    obtain ⟨y, hy, hz, e⟩ := I.st
    exact ⟨y, hy, hz, .inl e⟩
  | tau _ e ih =>
    obtain ⟨y, h1, h2, h3⟩ := ih
    obtain ⟨w, hw, h4, h5⟩ := I.tau y h1 _ h2 _ e
    exact ⟨w, hw, h4, tle_trans h5 h3⟩
  | vis _ e na ih =>
    obtain ⟨y, h1, h2, h3⟩ := ih
    obtain ⟨i, hi⟩ := List.getElem?_of_mem h1
    obtain ⟨w, hw, h4, h5⟩ := I.vis i y hi (List.getElem?_eq_some_iff.mp hi).1 _ _ h2 _ e na
    exact ⟨w, hw, h4, tle_trans h5 (tle_snoc h3 _)⟩
theorem first_ (I : QInv mv z XL XL.length D) {i : Nat} {x : XQ α} (hx : XL[i]? = some x) {right : α → Prop} (h : ∀ j y, XL[j]? = some y → j < i → ∀ p ∈ y.pl, ¬ right p) (g : ∃ p ∈ x.pl, right p) : Lst mv z right x.tr := by
  refine ⟨?_, fun v ⟨p, r, rp⟩ => ?_⟩
  · obtain ⟨p, hp, r⟩ := g
    exact ⟨p, I.sound x (List.mem_of_getElem? hx) p hp, r⟩
  · obtain ⟨y, hy, h1, h2⟩ := full_ I r
    obtain ⟨j, hj⟩ := List.getElem?_of_mem hy
    by_cases l : j < i
    · exact absurd rp (h j y hj l p h1)
    · by_cases e : j = i
      · subst e
        rw [hx] at hj
        obtain rfl := Option.some.inj hj
        exact h2
      · obtain ⟨l1, e1⟩ := List.getElem?_eq_some_iff.mp hx
        obtain ⟨l2, e2⟩ := List.getElem?_eq_some_iff.mp hj
        have := List.pairwise_iff_getElem.mp I.asc i j l1 l2 (by omega)
        rw [e1, e2] at this
        exact tle_trans (.inr this) h2
end
section
variable {α : Type} {mv : α → List (Str × α)} {z : α} {XL : List (XQ α)} {at_ : Nat} {D : Str → Prop}
/-- a group's trace is no longer than its place in the row -/
theorem _root_.LW.QInv.trlen (I : QInv mv z XL at_ D) (i : Nat) (x : XQ α) (h : XL[i]? = some x) : x.tr.length ≤ i := by
  induction i using Nat.strongRecOn generalizing x with
  | ind i ih =>
    rcases I.ord x (List.mem_of_getElem? h) with e | ⟨b, w, a, h1, h2, _⟩
    · rw [e]; exact Nat.zero_le _
    · have lt : b < i := by
        refine Classical.byContradiction fun n => ?_
        have t : tlt w.tr x.tr := by rw [h2]; exact tlt_self _ _
        obtain ⟨l1, e1⟩ := List.getElem?_eq_some_iff.mp h
        obtain ⟨l2, e2⟩ := List.getElem?_eq_some_iff.mp h1
        by_cases e : b = i
        · subst e
          rw [h] at h1
          obtain rfl := Option.some.inj h1
          exact tlt_irrefl _ t
        · have := List.pairwise_iff_getElem.mp I.asc i b l1 l2 (by omega)
          rw [e1, e2] at this
          exact tlt_irrefl _ (tlt_trans this t)
      have := ih b lt w h1
      rw [h2, List.length_append, List.length_singleton]
      omega
end
/-- a set of states, and whether the last action was "tick" -/
abbrev LP := List Int × Bool
noncomputable def mvL (E : List Ed) (p : LP) : List (Str × LP) := (actsC E p.1).map fun a => (a, (nextF E p.1 a, decide (a = ("tick" : Str))))
theorem mvL_mem {E : List Ed} {p q : LP} {a : Str} : (a, q) ∈ mvL E p ↔ a ∈ actsC E p.1 ∧ q = (nextF E p.1 a, decide (a = ("tick" : Str))) := by
  unfold mvL
  rw [List.mem_map]
  constructor
  · rintro ⟨b, hb, e⟩
    injection e with e1 e2
    subst e1
    exact ⟨hb, e2.symm⟩
  · rintro ⟨h, e⟩
    exact ⟨a, h, by rw [e]⟩
theorem actsC_mem {E : List Ed} {c : List Int} {a : Str} : a ∈ actsC E c ↔ a ≠ ("tau" : Str) ∧ aft E c a ≠ [] := by
  rw [actsC_L, srtS_memW]
  unfold acsL
  rw [List.mem_map]
  constructor
  · rintro ⟨e, he, rfl⟩
    obtain ⟨h1, h2⟩ := List.mem_filter.mp he
    obtain ⟨h3, h4⟩ := of_decide_eq_true h2
    exact ⟨h4, List.ne_nil_of_mem (aft_mem.mpr ⟨e.1, h3, h1⟩)⟩
  · rintro ⟨h1, h2⟩
    obtain ⟨t, r, e⟩ := List.exists_cons_of_ne_nil h2
    obtain ⟨s, hs, he⟩ := aft_mem.mp (show t ∈ aft E c a by rw [e]; exact List.mem_cons_self)
    exact ⟨_, List.mem_filter.mpr ⟨he, decide_eq_true ⟨hs, h1⟩⟩, rfl⟩
theorem actsC_asc (E : List Ed) (c : List Int) : (actsC E c).Pairwise sLt := by
  have eS : (PySem.W.dataLe false PyData.str : Str → Str → Bool) = VS.leS := PySem.W.dataLe_str (fun x => x)
  unfold actsC srtS
  rw [← eS]
  exact sorted_sLtm (onceG_nodup _ _ List.nodup_nil)
theorem clo_exM (E : List Ed) (ss : List Int) : ∃ c, IsClo E ss c :=
  ⟨_, (clsG_clo E (onceG_nodup ss [] List.nodup_nil) (Nat.le_refl _)).congr (fun _ => Iff.rfl) fun x => by rw [onceG_mem]; simp⟩
theorem nextF_is (E : List Ed) (c : List Int) (a : Str) : IsClo E (aft E c a) (nextF E c a) := by
  obtain ⟨d, h⟩ := clo_exM E (aft E c a)
  rw [nextF_eq h]
  exact h
theorem runs_ex (E : List Ed) (c0 : List Int) : ∀ u : List Str, ∃ c, Runs E c0 u.reverse c
  | [] => ⟨c0, rfl⟩
  | a :: u => by
    obtain ⟨c, h⟩ := runs_ex E c0 u
    refine ⟨nextF E c a, ?_⟩
    rw [List.reverse_cons]
    exact runs_snoc.2 ⟨c, h, nextF_is E c a⟩
theorem rp_nt {α : Type} {mv : α → List (Str × α)} {z p : α} {u : List Str} (h : Rp mv z u p) : ∀ a ∈ u, a ≠ ("tau" : Str) := by
  induction h with
  | st => exact fun a h => absurd h List.not_mem_nil
  | tau _ _ ih => exact ih
  | vis _ _ na ih =>
    intro a h
    rcases List.mem_append.mp h with h | h
    · exact ih a h
    · rw [List.mem_singleton.mp h]; exact na
/-- sets behind traces -/
theorem rpL_to {E : List Ed} {c0 : List Int} {u : List Str} {p : LP} (h : Rp (mvL E) (c0, false) u p) : Runs E c0 u p.1 ∧ p.2 = lastT u := by
  induction h with
  | st => exact ⟨rfl, rfl⟩
  | tau _ e _ => exact absurd rfl (actsC_mem.1 (mvL_mem.1 e).1).1
  | vis _ e na ih =>
    obtain ⟨h1, h2⟩ := mvL_mem.1 e
    rw [h2]
    exact ⟨runs_snoc.2 ⟨_, ih.1, nextF_is _ _ _⟩, by rw [lastT_snoc]⟩
theorem rpL_of {E : List Ed} {c0 : List Int} : ∀ (u : List Str) (c : List Int), Runs E c0 u.reverse c → c ≠ [] → (∀ a ∈ u, a ≠ ("tau" : Str)) → Rp (mvL E) (c0, false) u.reverse (c, lastT u.reverse)
  | [], c, r, _, _ => by
    rw [List.reverse_nil] at r ⊢
    obtain rfl : c0 = c := by simpa [Runs, eq_comm] using r
    exact .st
  | a :: u, c, r, ne, nt => by
    rw [List.reverse_cons] at r ⊢
    obtain ⟨es, r1, r2⟩ := runs_snoc.1 r
    have na := nt a List.mem_cons_self
    have nea : aft E es a ≠ [] := fun z => by
      obtain ⟨x, t, e⟩ := List.exists_cons_of_ne_nil ne
      have h := (r2.2 x).1 (by rw [e]; exact List.mem_cons_self)
      rw [z] at h
      have k : ∀ {y}, Rch E [] y → False := fun h => by
        induction h with
        | base h => exact List.not_mem_nil h
        | step _ _ ih => exact ih
      exact k h
    have nes : es ≠ [] := fun z => nea (by rw [z] <;> rfl)
    have ih := rpL_of u es r1 nes fun b hb => nt b (List.mem_cons_of_mem _ hb)
    refine .vis ih (mvL_mem.2 ⟨actsC_mem.2 ⟨na, nea⟩, ?_⟩) na
    rw [nextF_eq r2, lastT_snoc]
/-- what holds of a state after a trace, by sets -/
theorem sets {E : List Ed} {c0 : List Int} (h0 : IsClo E [0] c0) (A : Int → Prop) (B : Bool → Prop) (u : List Str) : (∃ p, Rp (mvL E) (c0, false) u p ∧ B p.2 ∧ ∃ s ∈ p.1, A s) ↔ (B (lastT u) ∧ ∃ s, Rp (leav E) 0 u s ∧ A s) := by
  constructor
  · rintro ⟨p, hp, hb, s, hs, ha⟩
    obtain ⟨r1, r2⟩ := rpL_to hp
    have mem := rp_runs (u := u.reverse) h0 (by rw [List.reverse_reverse]; exact r1) fun x hx => rp_nt hp x (List.mem_reverse.mp hx)
    rw [List.reverse_reverse] at mem
    exact ⟨by rw [← r2]; exact hb, s, (mem s).1 hs, ha⟩
  · rintro ⟨hb, s, hs, ha⟩
    obtain ⟨c, hc⟩ := runs_ex E c0 u.reverse
    have nt : ∀ x ∈ u.reverse, x ≠ ("tau" : Str) := fun x hx => rp_nt hs x (List.mem_reverse.mp hx)
    have mem := rp_runs h0 hc nt
    have sin := (mem s).2 (by rw [List.reverse_reverse]; exact hs)
    have r := rpL_of u.reverse c hc (List.ne_nil_of_mem sin) nt
    rw [List.reverse_reverse] at r
    exact ⟨_, r, hb, s, sin, ha⟩
theorem stuckL {E : List Ed} {c0 : List Int} (h0 : IsClo E [0] c0) (u : List Str) : (∃ p, Rp (mvL E) (c0, false) u p ∧ (p.2 = false ∧ ∃ s ∈ p.1, leav E s = [])) ↔ StuckP E u := sets h0 (fun s => leav E s = []) (fun b => b = false) u
theorem sets_rg {n : Int} {E : List Ed} (ok : ∀ e ∈ E, okE n e) (n1 : 1 ≤ n) {c0 : List Int} (h0 : IsClo E [0] c0) {u : List Str} {p : LP} (h : Rp (mvL E) (c0, false) u p) : p.1.Pairwise (· < ·) ∧ ∀ x ∈ p.1, 0 ≤ x ∧ x < n := by
  induction h with
  | st => exact ⟨h0.asc, clo_range ok h0 fun x hx => by rw [List.mem_singleton.mp hx]; omega⟩
  | tau _ e _ => exact absurd rfl (actsC_mem.1 (mvL_mem.1 e).1).1
  | vis _ e na ih =>
    rw [(mvL_mem.1 e).2]
    exact ⟨(nextF_is _ _ _).asc, clo_range ok (nextF_is _ _ _) (aft_range ok)⟩
/-- there are few sets -/
theorem sets_few {n : Int} {E : List Ed} (ok : ∀ e ∈ E, okE n e) (n1 : 1 ≤ n) (n5 : n ≤ 5) {c0 : List Int} (h0 : IsClo E [0] c0) {L : List LP} (nd : L.Nodup) (h : ∀ p ∈ L, ∃ u, Rp (mvL E) (c0, false) u p) : L.length ≤ 64 := by
  have z := nd_le (L.map fun p => ((if p.2 = true then (1 : Int) else 0), p.1)) (allTP 5 2) ?_ fun q hq => ?_
  · rw [List.length_map, allTP_len] at z
    exact z
  · refine List.Pairwise.map _ (fun p q (hpq : p ≠ q) e => hpq ?_) (List.nodup_iff_pairwise_ne.mp nd)
    obtain ⟨a, b⟩ := p
    obtain ⟨c, d⟩ := q
    injection e with e1 e2
    have e2 : a = c := e2
    subst e2
    cases b <;> cases d <;> first | rfl | simp at e1
  · obtain ⟨p, hp, rfl⟩ := List.mem_map.mp hq
    obtain ⟨u, r⟩ := h p hp
    obtain ⟨h1, h2⟩ := sets_rg ok n1 h0 r
    exact allTP_mem (by split <;> omega) (by split <;> decide) h1 fun x hx => by have := h2 x hx; omega
/-- one set found at a time -/
theorem newL {E : List Ed} {F : List LP} (nd : F.Nodup) (q : LP) : NewP (mvL E) [q] F (if q ∈ F then [] else [q]) := by
  have nt : ∀ (p t : LP), (("tau" : Str), t) ∉ mvL E p := fun p t h => (actsC_mem.1 (mvL_mem.1 h).1).1 rfl
  by_cases h : q ∈ F
  · rw [if_pos h]
    exact ⟨by rw [List.append_nil]; exact nd, fun p hp => by rw [List.mem_singleton.mp hp]; exact .inl h, fun p hp => absurd hp List.not_mem_nil, fun p hp => absurd hp List.not_mem_nil⟩
  · rw [if_neg h]
    exact ⟨List.nodup_append.mpr ⟨nd, by simp, fun a ha b hb e => h (by rw [← List.mem_singleton.mp hb, ← e]; exact ha)⟩, fun p hp => .inr hp, fun p _ t ht => absurd ht (nt p t), fun p hp => .base hp⟩
end MG
end LW

set_option Elab.async false
set_option linter.all false
set_option maxRecDepth 100000
set_option maxHeartbeats 400000
/-! pairs of numbers as data; rows of data -/
namespace LW
open PySem PySem.Spec PyProof.Rows L2 LamX NdefX VB VM VP VE VX
section
variable {K : PySem.W.Frag}
abbrev DRow := V × PyData
abbrev NPair := Int × Int
def npV (p : NPair) : List V := [.int p.1, .int p.2]
def Nps (K : PySem.W.Frag) (H : Hp) (L : List (Addr × NPair)) : Prop := ∀ p ∈ L, SqT K H p.1 (npV p.2)
theorem Nps.kp {K : PySem.W.Frag} {H H' : Hp} {L : List (Addr × NPair)} (h : Nps K H L) (x : Kp H H') : Nps K H' L := fun p hp => x.sqT (h p hp)
def npD (p : NPair) : PyData := .tuple [.int p.1, .int p.2]
def npRows (L : List (Addr × NPair)) : List DRow := L.map fun p => (V.ref p.1, npD p.2)
end
end LW

set_option Elab.async false
set_option linter.all false
set_option maxRecDepth 100000
set_option maxHeartbeats 400000
namespace LW
open PySem PySem.Spec PyProof.Rows L2 LamX NdefX VB VM VP VE VX VQ VZ VD
theorem sc__law_is_dead : FnScope ["edges", "place", "state", "edge"] ["edges", "place"] (defScope s__law_is_dead) := ⟨rfl, rfl, rfl, by decide +kernel, rfl, by decide +kernel, by decide +kernel⟩
theorem sc__law_first : FnScope ["rows", "right", "k"] ["rows", "right"] (defScope s__law_first) := ⟨rfl, rfl, rfl, by decide +kernel, rfl, by decide +kernel, by decide +kernel⟩
namespace MG
section
variable {P : Program} {w : World} {K : PySem.W.Frag} {mg : Str → Option Value} {base : Heap}
theorem ints_shapedL (l : List Int) : SeqAt.shaped (.list (l.map PyData.int)) = true := by
  have a := ints_canW l
  have b := ints_depW l
  unfold SeqAt.shaped
  rw [PyData.canLay0, a, Bool.true_and, decide_eq_true_eq]
  unfold PyData.depth
  omega
theorem eds_nil (l : List (Addr × Ed)) : PyData.eqv (.list (l.map fun x => edD x.2)) (.list []) = decide (l = []) := by
  cases l with
  | nil => rfl
  | cons x xs => simp [PyData.eqv, PyData.eqvAll]
def spDead (K : PySem.W.Frag) : Sp := fun vs H Q _ => ∃ (a b : Addr) (L : List (Addr × Ed)) (c : List Int), vs = [.ref a, .ref b] ∧ SqL K H a (refs L) ∧ Eds K H L ∧ L.length ≤ 1000 ∧ (∀ p ∈ L, p.2.2.1 ∈ acts) ∧ SqT K H b (c.map V.int) ∧ c.length ≤ 1000 ∧
  ∀ (bo : Bool) (H' : Hp), Same H H' → (bo = true ↔ ∃ s ∈ c, leav (L.map (·.2)) s = []) → Q (.bl bo) H'
theorem c_dead (D : Df K mg "_law_is_dead" s__law_is_dead) : C8.Cal P w K mg base 1 "_law_is_dead" (spDead K) [] := by
  refine D.cal sc__law_is_dead (fun _ _ _ _ _ _ us hl => match us, hl with | [_, _], _ => rfl) (fun vs H Q E h => ?_) (fun f cdv A outer s0 H vs Q E hr h => ?_)
  · obtain ⟨_, _, _, _, rfl, _⟩ := h
    rfl
  obtain ⟨a, b, L, c, rfl, hS, hE, lenL, hac, hT, lc, fin⟩ := h
  refine ⟨_, (pss_one (ps_ret (pe_cmpR (VK.neD (K := K) rfl hr.units) (pe_lc (own := [("state", 2)]) rfl sc__law_is_dead.nd (pi_tup (pv 1)) (blkOk_by (N := ["edges", "place", "state", "edge"]) (sc := defScope s__law_is_dead) (by decide +kernel)) (fun _ _ _ _ _ => (pg_name (i := 2) sc__law_is_dead.nd rfl (Or.inr rfl) (hf := Or.inl rfl))) (fun _ _ _ _ _ => (pts_one (pt_cmpR (VK.eqD (K := K) rfl hr.units) (pe_lc (own := [("edge", 3)]) rfl sc__law_is_dead.nd (VD.piL (K := K) rfl (pv 0)) (blkOk_by (N := ["edges", "place", "state", "edge"]) (by rfl)) (fun _ _ _ _ _ => (pg_name (i := 3) sc__law_is_dead.nd rfl (Or.inl rfl) (hf := Or.inr rfl))) (fun _ _ _ _ _ => (pts_one (pt_cmpR op_eq (pe_ix (VK.ixT (K := K) rfl) (pv 3) pe_int (fun _ _ => rfl)) (pv 2) (nomark _)))) (fun _ _ _ _ _ => (pv 3))) (pe_lst pa_nil) (nomark _)))) (fun _ _ _ _ _ => (pv 2))) (pe_lst pa_nil) (nomark _)))), ?_⟩
  have zl := sizeLine_eq
  refine ⟨_, rfl, b, rfl, ⟨_, hT⟩, fun D nD => ?_⟩
  refine lc_tup (K := K) (a := b) (xs := c.map V.int) (fun i H2 => Same H H2 ∧ H2 D = some (.lst (((c.take i).filter fun s => decide (leav (L.map (·.2)) s = [])).map V.int)))
    ⟨same_upd nD _, upd_same⟩ (fun i H2 _ z => VB.Same.sqT z.1 hT) ?_ ?_
  · rintro i v H2 hv ⟨s2, hD⟩
    rw [List.getElem?_map] at hv
    obtain ⟨s, hs, rfl⟩ := Option.map_eq_some_iff.mp hv
    have lti := (List.getElem?_eq_some_iff.mp hs).1
    have tk : c.take (i + 1) = c.take i ++ [s] := by rw [List.take_succ, hs] <;> rfl
    have lD : ((c.take i).filter fun s => decide (leav (L.map (·.2)) s = [])).length ≤ 1000 := Nat.le_trans (List.length_filter_le _ _) (by rw [List.length_take]; omega)
    refine ⟨rfl, ?_⟩
    refine ⟨_, rfl, a, rfl, ⟨_, s2.seq hS⟩, fun D2 nD2 => ?_⟩
    refine lc_list (K := K) (a := a) (xs := refs L) (fun j H3 => Same H2 H3 ∧ H3 D2 = some (.lst (refs ((L.take j).filter fun x => decide (x.2.1 = s)))))
      ⟨same_upd nD2 _, upd_same⟩ (fun j H3 _ z => (s2.trans z.1).seq hS) ?_ ?_
    · rintro j v H3 hv ⟨s3, hD2⟩
      obtain ⟨r, hr, rfl⟩ := refs_at hv
      have rin := List.mem_of_getElem? hr
      have ltj := (List.getElem?_eq_some_iff.mp hr).1
      have tkj : L.take (j + 1) = L.take j ++ [r] := by rw [List.take_succ, hr] <;> rfl
      have hp := (hE.kp (Kp.of (s2.trans s3))) r rin
      have l2 : ((L.take j).filter fun x => decide (x.2.1 = s)).length ≤ 1000 := Nat.le_trans (List.length_filter_le _ _) (by rw [List.length_take]; omega)
      refine ⟨rfl, ?_⟩
      refine ⟨_, rfl, r.1, _, _, _, rfl, rfl, hp, rfl, _, rfl, rfl, _, rfl, VUt.ite2b (fun cc => ?_) (fun cc => ?_)⟩
      · have e : r.2.1 = s := by simpa using cc
        refine ⟨_, rfl, _, hD2, by rw [refs_len]; omega, sameIn s3 nD2, ?_⟩
        rw [upd_same, tkj, List.filter_append, List.filter_cons_of_pos (by simpa using e), List.filter_nil, refs_snoc]
      · have e : r.2.1 ≠ s := by simpa using cc
        refine ⟨s3, ?_⟩
        rw [hD2, tkj, List.filter_append, List.filter_cons_of_neg (by simpa using e), List.filter_nil, List.append_nil]
    rintro H3 ⟨s3, hD2⟩
    rw [refs_len, List.take_length] at hD2
    have s23 := s2.trans s3
    have hEf : Eds K H3 (L.filter fun x => decide (x.2.1 = s)) := fun x hx => (hE.kp (Kp.of s23)) x (List.mem_filter.mp hx).1
    refine ⟨Nat.zero_le _, fun z nz => ?_⟩
    have w := same_upd nz (.lst [])
    have shp : SeqAt.shaped (.list ((L.filter fun x => decide (x.2.1 = s)).map fun x => edD x.2)) = true := by
      have z := eds_shaped (L := (L.filter fun x => decide (x.2.1 = s)).map (·.2)) fun e he => by
        obtain ⟨x, hx, rfl⟩ := List.mem_map.mp he
        exact (acts_ok _ (hac x (List.mem_filter.mp hx).1)).1
      rw [List.map_map] at z
      exact z
    refine ⟨_, _, .lst (w.seq (SqL.of hD2)) ((hEf.kp (Kp.of w)).all), .lst (SqL.of upd_same) .nil, shp, rfl, _, rfl, ?_⟩
    have e1 : PyData.eqv (.list ((L.filter fun x => decide (x.2.1 = s)).map fun x => edD x.2)) (.list []) = decide (leav (L.map (·.2)) s = []) := by
      have q : (L.filter fun x => decide (x.2.1 = s)) = [] ↔ leav (L.map (·.2)) s = [] := by
        unfold leav
        rw [List.map_eq_nil_iff, List.filter_eq_nil_iff, List.filter_eq_nil_iff]
        constructor
        · intro h e he
          obtain ⟨x, hx, rfl⟩ := List.mem_map.mp he
          exact h x hx
        · intro h x hx
          exact h x.2 (List.mem_map_of_mem hx)
      rw [eds_nil]
      exact decide_eq_decide.mpr q
    rw [e1]
    have hD4 := (s3.trans w) _ _ hD
    refine VUt.ite2b (fun cc => ?_) (fun cc => ?_)
    · refine ⟨_, rfl, _, hD4, by rw [List.length_map]; omega, sameIn (s23.trans w) nD, ?_⟩
      rw [upd_same, tk, List.filter_append, List.filter_cons_of_pos (by simpa using cc), List.filter_nil, List.map_append] <;> rfl
    · refine ⟨s23.trans w, ?_⟩
      rw [hD4, tk, List.filter_append, List.filter_cons_of_neg (by simpa using cc), List.filter_nil, List.append_nil]
  rintro H2 ⟨s2, hD⟩
  rw [List.length_map, List.take_length] at hD
  refine ⟨Nat.zero_le _, fun z nz => ?_⟩
  have w := same_upd nz (.lst [])
  have cv : ∀ l : List Int, PyData.eqv (.list (l.map PyData.int)) (.list []) = decide (l = []) := fun l => by
    cases l with
    | nil => rfl
    | cons x xs => simp [PyData.eqv, PyData.eqvAll]
  have di : ∀ {H : Hp} (ss : List Int), DpAll K H (ss.map V.int) (ss.map PyData.int) := fun ss => by
    induction ss with
    | nil => exact .nil
    | cons s ss ih => exact .cons (.int s) ih
  refine ⟨.list ((c.filter fun s => decide (leav (L.map (·.2)) s = [])).map PyData.int), .list [], .lst (w.seq (SqL.of hD)) (di _), .lst (SqL.of upd_same) .nil, ints_shapedL _, rfl, ?_⟩
  rw [cv]
  refine fin _ _ (s2.trans w) ?_
  rw [Bool.not_eq_true', decide_eq_false_iff_not, List.filter_eq_nil_iff]
  constructor
  · intro h
    refine Classical.byContradiction fun n => h fun s hs z => n ⟨s, hs, of_decide_eq_true z⟩
  · rintro ⟨s, hs, h⟩ g
    exact g s hs (decide_eq_true h)
def spFirst (K : PySem.W.Frag) : Sp := fun vs H Q _ => ∃ (a b : Addr) (R : List Lr) (bs : List Bool), vs = [.ref a, .ref b] ∧ H a = some (.lst (lqs R)) ∧ LrOk H R ∧ R.length ≤ 1000 ∧ SqL K H b (bs.map V.bl) ∧ bs.length = R.length ∧
  (∀ H', Same H H' → (∀ x ∈ bs, x = false) → Q .non H') ∧ (∀ (i : Nat) (r : Lr) (H' : Hp), Same H H' → R[i]? = some r → bs[i]? = some true → (∀ j : Nat, j < i → bs[j]? = some false) → Q (.ref r.a) H')
theorem c_first (D : Df K mg "_law_first" s__law_first) (z_len : mg "len" = none) (z_range : mg "range" = none) : C8.Cal P w K mg base 1 "_law_first" (spFirst K) [] := by
  refine D.cal sc__law_first (fun _ _ _ _ _ _ us hl => match us, hl with | [_, _], _ => rfl) (fun vs H Q E h => ?_) (fun f cdv A outer s0 H vs Q E hr h => ?_)
  · obtain ⟨_, _, _, _, rfl, _⟩ := h
    rfl
  obtain ⟨a, b, R, bs, rfl, ha, hR, lR, hb, lbs, qn, qt⟩ := h
  refine ⟨_, (pss_cons (ps_for PassesOwn.never rfl (pi_range1 rfl z_range (pa_cons (pe_callB (VK.lenQ (K := K) rfl) (by rfl) z_len PySem.boot_len (pa_cons (pv 0) pa_nil)) pa_nil)) (pg_name (i := 2) sc__law_first.nd rfl (Or.inl rfl))
      (pss_one (ps_if (pt_val (pe_ix (VK.ixL (K := K) rfl) (pv 1) (pv 2) (fun _ _ => rfl)))
        (pss_one (ps_ret (pe_ix (VK.ixT (K := K) rfl) (pe_ix (VK.ixL (K := K) rfl) (pv 0) (pv 2) (fun _ _ => rfl)) pe_int (fun _ _ => rfl))))
        pss_nil)))
    (pss_one (ps_ret pe_non))), ?_⟩
  have zl := sizeLine_eq
  have lL : (lqs R).length = R.length := List.length_map _
  refine ⟨_, rfl, a, _, rfl, .inl (SqL.of ha), _, rfl, by rw [lL]; omega, by rw [lL]; omega, for_range (lo := 0) (n := (((lqs R).length : Nat) : Int).toNat)
    (fun i σ H' => H' = H ∧ (∃ r2 : Option V, σ = [some (.ref a), some (.ref b), r2]) ∧ ∀ j : Nat, j < i → bs[j]? = some false) ⟨rfl, ⟨none, rfl⟩, fun j l => absurd l (Nat.not_lt_zero _)⟩ ?_ ?_⟩
  · rintro i σ H' hi ⟨rfl, ⟨r2, rfl⟩, before⟩
    have li : i < R.length := by rw [lL] at hi; omega
    have hbi : bs[i]? = some bs[i] := List.getElem?_eq_getElem (by omega)
    generalize bs[i]'(by omega) = bo at hbi
    have hat : atI (bs.map V.bl) (0 + (i : Nat)) = some (.bl bo) := by
      rw [Int.zero_add]
      exact atI_nat (by rw [List.getElem?_map, hbi] <;> rfl)
    refine VJ.nm ?_
    refine ⟨_, rfl, _, rfl, b, _, _, _, rfl, rfl, hb, hat, bo, rfl, ?_⟩
    cases bo with
    | true =>
      refine iteT ?_
      have hri : R[i]? = some R[i] := List.getElem?_eq_getElem li
      generalize R[i] = r at hri
      obtain ⟨g1, g2, g3⟩ := hR r (List.mem_of_getElem? hri)
      have hat2 : atI (lqs R) (0 + (i : Nat)) = some (.ref r.q) := by
        rw [Int.zero_add]
        exact atI_nat (by rw [List.getElem?_map, hri] <;> rfl)
      refine ⟨_, rfl, _, rfl, a, _, _, _, rfl, rfl, SqL.of ha, hat2, r.q, _, _, _, rfl, rfl, .inl (.inl g1), rfl, ?_⟩
      exact qt i r H' (Same.refl _) hri hbi before
    | false =>
      refine iteF (VJ.nxT ⟨rfl, ⟨_, rfl⟩, fun j l => ?_⟩)
      by_cases e : j = i
      · subst e; exact hbi
      · exact before j (by omega)
  · rintro σ H' ⟨rfl, ⟨r2, rfl⟩, before⟩
    refine qn H' (Same.refl _) fun x hx => ?_
    obtain ⟨j, hj⟩ := List.getElem?_of_mem hx
    have l := (List.getElem?_eq_some_iff.mp hj).1
    rw [before j (by omega)] at hj
    exact (Option.some.inj hj).symm
end
end MG
end LW

set_option Elab.async false
set_option linter.all false
set_option maxRecDepth 100000
set_option maxHeartbeats 4000000
namespace LW
open PySem PySem.Spec PyProof.Rows L2 LamX NdefX VB VM VP VE VX VQ VZ VD

theorem sc__law_places : FnScope ["edges", "most", "start", "rows", "seen", "k", "trace", "place", "action", "behind"] ["edges", "most"] (defScope s__law_places) := ⟨rfl, rfl, rfl, by decide +kernel, rfl, by decide +kernel, by decide +kernel⟩

namespace MG
/-- the search's groups, as the law's rows say -/
def lpR (r : Lr) : LP := (r.c, lastT r.tr)
def xlR (R : List Lr) : List (XQ LP) := R.map fun r => ⟨r.tr, [lpR r]⟩
theorem xlR_flat (R : List Lr) : (xlR R).flatMap (·.pl) = R.map lpR := by
  unfold xlR
  induction R with
  | nil => rfl
  | cons r R ih => rw [List.map_cons, List.flatMap_cons, List.map_cons, ih] <;> rfl
theorem xlR_len (R : List Lr) : (xlR R).length = R.length := List.length_map _
theorem xlR_at {R : List Lr} {i : Nat} {r : Lr} (h : R[i]? = some r) : (xlR R)[i]? = some ⟨r.tr, [lpR r]⟩ := by
  unfold xlR
  rw [List.getElem?_map, h] <;> rfl
def lpD (p : LP) : PyData := .tuple [.tuple (p.1.map PyData.int), .bool p.2]
theorem int_eqvs : ∀ a b : List Int, PyData.eqvAll (a.map PyData.int) (b.map PyData.int) = decide (a = b)
  | [], [] => rfl
  | [], _ :: _ => rfl
  | _ :: _, [] => rfl
  | x :: a, y :: b => by
    rw [List.map_cons, List.map_cons]
    unfold PyData.eqvAll
    rw [int_eqvs a b]
    rw [show PyData.eqv (.int x) (.int y) = decide (x = y) from rfl]
    by_cases h : x = y <;> by_cases g : a = b <;> simp [h, g]
theorem lpD_eqv (p q : LP) : PyData.eqv (lpD p) (lpD q) = decide (p = q) := by
  obtain ⟨a, b⟩ := p
  obtain ⟨c, d⟩ := q
  simp only [lpD, PyData.eqv, PyData.eqvAll, int_eqvs]
  cases b <;> cases d <;> simp [PyData.eqv]
theorem lpD_ok (p : LP) : (lpD p).canLay0 = true ∧ (lpD p).depth ≤ 10 := by
  have a := ints_canW p.1
  have b := ints_depW p.1
  constructor
  · simp [lpD, PyData.canLay0, PyData.canLayAll0, a]
  · simp [lpD, PyData.depth, PyData.depthAll, b]
theorem lpD_shaped (p : LP) : SeqAt.shaped (lpD p) = true := by
  obtain ⟨a, b⟩ := lpD_ok p
  unfold SeqAt.shaped
  rw [a, Bool.true_and, decide_eq_true_eq]
  omega
theorem lpD_any (q : LP) : ∀ L : List LP, ((L.map lpD).any fun z => PyData.eqv z (lpD q)) = decide (q ∈ L)
  | [] => by simp
  | x :: L => by
    rw [List.map_cons, List.any_cons, lpD_any q L, lpD_eqv]
    by_cases h : x = q
    · subst h; simp
    · have h2 : ¬ q = x := fun z => h z.symm
      simp [h, h2]
/-- what the law has seen -/
def SnOk (H : Hp) (S : List (Addr × Lr)) : Prop := ∀ x ∈ S, H x.1 = some (.tup [.ref x.2.b, .bl (lastT x.2.tr)])
section
variable {P : Program} {w : World} {K : PySem.W.Frag} {mg : Str → Option Value} {base : Heap}
theorem lp_dp {H : Hp} {q b : Addr} {c : List Int} {e : Bool} (h : H q = some (.tup [.ref b, .bl e])) (hb : H b = some (.tup (c.map V.int))) : Dp K H (.ref q) (lpD (c, e)) := by
  have di : ∀ ss : List Int, DpAll K H (ss.map V.int) (ss.map PyData.int) := fun ss => by
    induction ss with
    | nil => exact .nil
    | cons s ss ih => exact .cons (.int s) ih
  exact .tup (.inl (.inl h)) (.cons (.tup (.inl (.inl hb)) (di c)) (.cons (.bl e) .nil))
def spPlc (K : PySem.W.Frag) : Sp := fun vs H Q _ => ∃ (a : Addr) (L : List (Addr × Ed)) (n : Int), vs = [.ref a, .int 70] ∧ SqL K H a (refs L) ∧ Eds K H L ∧ L.length ≤ 1000 ∧ (∀ p ∈ L, okE n p.2) ∧ 1 ≤ n ∧ n ≤ 5 ∧
  ∀ (q : Addr) (H' : Hp) (c0 : List Int) (R : List Lr), Same H H' → H' q = some (.lst (lqs R)) → LrOk H' R → IsClo (L.map (·.2)) [0] c0 → QInv (mvL (L.map (·.2))) (c0, false) (xlR R) (xlR R).length (fun _ => False) → R.length ≤ 70 → Q (.ref q) H'
theorem c_plc (D0 : Df K mg "_law_places" s__law_places) (z_range : mg "range" = none) (z_len : mg "len" = none) (c__law_closed : C8.Cal P w K mg base 1 "_law_closed" (spCls K) []) (c__law_after : C8.Cal P w K mg base 2 "_law_after" (spAftL K) [])
    (c__law_actions : C8.Cal P w K mg base 2 "_law_actions" (spActL K) []) : C8.Cal P w K mg base 3 "_law_places" (spPlc K) [] := by
  refine D0.cal sc__law_places (fun _ _ _ _ _ _ us hl => match us, hl with | [_, _], _ => rfl) (fun vs H Q E h => ?_) (fun f cdv A outer s0 H vs Q E hr h => ?_)
  · obtain ⟨_, _, _, rfl, _⟩ := h
    rfl
  obtain ⟨a, L, n, rfl, hS, hE, lenL, okL, n1, n5, fin⟩ := h
  refine ⟨_, (pss_cons (ps_set (i := 2) sc__law_places.nd rfl (Or.inl rfl) (C8.pe_c c__law_closed hr (by first | decide | omega) rfl (pa_cons (pv 0) (pa_cons (pe_lst (pa_cons pe_int pa_nil)) pa_nil))))
    (pss_cons (ps_set (i := 3) sc__law_places.nd rfl (Or.inl rfl) (pe_lst (pa_cons (pe_tup (pa_cons (pe_tup pa_nil) (pa_cons (pv 2) pa_nil))) pa_nil)))
    (pss_cons (ps_set (i := 4) sc__law_places.nd rfl (Or.inl rfl) (pe_lst (pa_cons (pe_tup (pa_cons (pv 2) (pa_cons pe_bl pa_nil))) pa_nil)))
    (pss_cons (ps_for PassesOwn.never rfl (pi_range1 rfl z_range (pa_cons (pv 1) pa_nil)) (pg_name (i := 5) sc__law_places.nd rfl (Or.inl rfl))
      (pss_one (ps_if (pt_cmpR op_lt (pv 5) (pe_callB (VK.lenQ (K := K) rfl) (by rfl) z_len PySem.boot_len (pa_cons (pv 3) pa_nil)) (nomark _))
        (pss_cons (ps_asg (pe_ix (VK.ixL (K := K) rfl) (pv 3) (pv 5) (fun _ _ => rfl)) (pg_tup rfl (pgs_cons (pg_name (i := 6) sc__law_places.nd rfl (Or.inl rfl)) (pgs_cons (pg_name (i := 7) sc__law_places.nd rfl (Or.inl rfl)) pgs_nil))))
        (pss_one (ps_for PassesOwn.never rfl (pi_list (C8.pe_c c__law_actions hr (by first | decide | omega) rfl (pa_cons (pv 0) (pa_cons (pv 7) pa_nil)))) (pg_name (i := 8) sc__law_places.nd rfl (Or.inl rfl))
          (pss_cons (ps_set (i := 9) sc__law_places.nd rfl (Or.inl rfl) (C8.pe_c c__law_after hr (by first | decide | omega) rfl (pa_cons (pv 0) (pa_cons (pv 7) (pa_cons (pv 8) pa_nil)))))
          (pss_one (ps_if (pt_cmpR (VP.notInD (K := K) rfl (VP.un65 hr)) (pe_tup (pa_cons (pv 9) (pa_cons (pe_cmpR op_eq (pv 8) pe_str (nomark _)) pa_nil))) (pv 4) rfl)
            (pss_cons (ps_expr (pe_bm PySem.F.plainAttrs_list PySem.F.slot_list_append PySem.F.type_list_append mt_append (pv 4) (pa_cons (pe_tup (pa_cons (pv 9) (pa_cons (pe_cmpR op_eq (pv 8) pe_str (nomark _)) pa_nil))) pa_nil)))
            (pss_one (ps_expr (pe_bm PySem.F.plainAttrs_list PySem.F.slot_list_append PySem.F.type_list_append mt_append (pv 3) (pa_cons (pe_tup (pa_cons (pe_op (VZ.catA (K := K) rfl) (pv 6) (pe_tup (pa_cons (pv 8) pa_nil))) (pa_cons (pv 9) pa_nil))) pa_nil)))))
            pss_nil))))))
        pss_nil)))
    (pss_one (ps_ret (pv 3))))))), ?_⟩
  have zl := sizeLine_eq
  obtain ⟨E0, hE0⟩ : ∃ E0, E0 = L.map (·.2) := ⟨_, rfl⟩
  rw [← hE0] at fin
  have ok0 : ∀ e ∈ E0, okE n e := fun e he => by
    rw [hE0] at he
    obtain ⟨p, hp, rfl⟩ := List.mem_map.mp he
    exact okL p hp
  refine ⟨_, rfl, (by show 1 ≤ sizeLine; omega), fun p5 np5 => ?_⟩
  have s4 := same_upd np5 (.lst [.int 0])
  refine ⟨a, p5, L, [0], rfl, s4.seq hS, hE.kp (Kp.of s4), lenL, .inl (SqL.of upd_same), by decide, by decide, fun pl H2 c0 s5 hpl hc0 => VJ.nmS ?_⟩
  rw [← hE0] at hc0
  have s45 := s4.trans s5
  clear s4 s5 np5
  refine ⟨Nat.zero_le _, fun t0 nt0 => ⟨_, rfl, (by show 2 ≤ sizeLine; omega), fun k0 nk0 => ⟨(by show 1 ≤ sizeLine; omega), fun rl nrl => VJ.nmS ?_⟩⟩⟩
  have w1 := same_upd nt0 (.tup [])
  have w2 := same_upd nk0 (.tup [.ref t0, .ref pl])
  have w3 := same_upd nrl (.lst [.ref k0])
  have ht0 := w3 _ _ (w2 _ _ (upd_same (H := H2) (a := t0) (o := .tup [])))
  have hk0 := w3 _ _ (upd_same (H := upd H2 t0 (.tup [])) (a := k0) (o := .tup [.ref t0, .ref pl]))
  have hrl : upd (upd (upd H2 t0 (.tup [])) k0 (.tup [.ref t0, .ref pl])) rl (.lst [.ref k0]) rl = some (.lst (lqs [⟨k0, t0, pl, [], c0⟩])) := upd_same
  have w := (w1.trans w2).trans w3
  have hpl3 := w _ _ hpl
  have nrlH : H rl = none := (s45.trans (w1.trans w2)).free nrl
  have s3 := s45.trans w
  generalize upd (upd (upd H2 t0 (.tup [])) k0 (.tup [.ref t0, .ref pl])) rl (.lst [.ref k0]) = H3 at ht0 hk0 hrl hpl3 s3 ⊢
  clear w w1 w2 w3 nt0 nk0 hpl s45
  refine ⟨_, rfl, (by show 2 ≤ sizeLine; omega), fun k1 nk1 => ⟨(by show 1 ≤ sizeLine; omega), fun sl nsl => VJ.nmS ?_⟩⟩
  have w1 := same_upd nk1 (.tup [.ref pl, .bl false])
  have w2 := same_upd nsl (.lst [.ref k1])
  have hk1 := w2 _ _ (upd_same (H := H3) (a := k1) (o := .tup [.ref pl, .bl false]))
  have hsl : upd (upd H3 k1 (.tup [.ref pl, .bl false])) sl (.lst [.ref k1]) sl = some (.lst (refs [(k1, (⟨k0, t0, pl, [], c0⟩ : Lr))])) := upd_same
  have w := w1.trans w2
  have nslH : H sl = none := s3.free (w1.free nsl)
  have rls : rl ≠ sl := ne_of_none (w1 _ _ hrl) nsl
  have hrl4 := w _ _ hrl
  have s4 := s3.trans w
  have R4 : LrOk (upd (upd H3 k1 (.tup [.ref pl, .bl false])) sl (.lst [.ref k1])) [⟨k0, t0, pl, [], c0⟩] := fun r hr => by
    rw [List.mem_singleton.mp hr]
    exact ⟨w _ _ hk0, w _ _ ht0, w _ _ hpl3⟩
  generalize upd (upd H3 k1 (.tup [.ref pl, .bl false])) sl (.lst [.ref k1]) = H4 at hk1 hsl hrl4 s4 R4 ⊢
  clear w w1 w2 nk1 nsl hrl hpl3 hk0 ht0 s3
  have I0 : QInv (mvL E0) (c0, false) (xlR [⟨k0, t0, pl, [], c0⟩]) 0 fun _ => False := by
    have z := QInv.first (newL (E := E0) (F := []) List.nodup_nil (c0, false))
    rw [if_neg List.not_mem_nil] at z
    exact z
  refine ⟨_, rfl, 70, rfl, by decide, by decide, for_range (lo := 0) (n := 70)
    (fun k σ H' => ∃ (R : List Lr) (SL : List (Addr × Lr)) (at_ : Nat) (r5 r6 r7 r8 r9 : Option V), σ = [some (.ref a), some (.int 70), some (.ref pl), some (.ref rl), some (.ref sl), r5, r6, r7, r8, r9] ∧ Same H H' ∧ H' rl = some (.lst (lqs R)) ∧ LrOk H' R ∧ H' sl = some (.lst (refs SL)) ∧ SnOk H' SL ∧ SL.map (·.2) = R ∧
      QInv (mvL E0) (c0, false) (xlR R) at_ (fun _ => False) ∧ ((at_ = k ∧ k ≤ R.length) ∨ (at_ = R.length ∧ R.length ≤ k)))
    ⟨_, [(k1, ⟨k0, t0, pl, [], c0⟩)], 0, none, none, none, none, none, rfl, s4, hrl4, R4, hsl, fun x hx => by rw [List.mem_singleton.mp hx]; exact hk1, rfl, I0, .inl ⟨rfl, Nat.zero_le _⟩⟩ ?_ ?_⟩
  · clear hk1 hsl hrl4 s4 R4 I0
    rintro k σ H5 hk ⟨R, SL, at_, r5, r6, r7, r8, r9, rfl, s5, hrl, hR, hsl, hSL, eS, I, ca⟩
    have few : ∀ {R : List Lr} {at_ : Nat} {D : Str → Prop}, QInv (mvL E0) (c0, false) (xlR R) at_ D → R.length ≤ 64 := fun {R at_ D} I => by
      have nd := I.nd
      rw [xlR_flat] at nd
      have z := sets_few ok0 n1 n5 hc0 nd fun p hp => by
        rw [← xlR_flat] at hp
        obtain ⟨x, hx, h⟩ := List.mem_flatMap.mp hp
        exact ⟨x.tr, I.sound x hx p h⟩
      rw [List.length_map] at z
      exact z
    have lR := few I
    have lq : ∀ R : List Lr, (lqs R).length = R.length := fun R => List.length_map _
    refine VJ.nm ?_
    refine ⟨_, rfl, _, rfl, rl, _, rfl, .inl (SqL.of hrl), _, _, rfl, rfl, _, rfl, ?_⟩
    rw [lq]
    refine VUt.ite2b (fun c => ?_) (fun c => ?_)
    · have lt : k < R.length := by have := of_decide_eq_true c; omega
      have eat : at_ = k := by omega
      subst eat
      have hri : R[at_]? = some R[at_] := List.getElem?_eq_getElem lt
      generalize R[at_] = r at hri
      obtain ⟨g1, g2, g3⟩ := hR r (List.mem_of_getElem? hri)
      have hat : atI (lqs R) (0 + (at_ : Nat)) = some (.ref r.q) := by
        rw [Int.zero_add]
        exact atI_nat (by rw [List.getElem?_map, hri] <;> rfl)
      refine ⟨_, rfl, _, rfl, rl, _, _, _, rfl, rfl, SqL.of hrl, hat, r.q, _, rfl, .inl (.inl g1), rfl, .ref r.a, _, rfl, .ref r.b, _, rfl, rfl, ?_⟩
      refine ⟨_, rfl, _, rfl, a, r.b, L, r.c, rfl, s5.seq hS, hE.kp (Kp.of s5), lenL, .inl (.inl g3), fun ac H6 s6 hacl nac => ?_⟩
      rw [← hE0, ← actsC_L] at hacl
      have s56 := s5.trans s6
      have rlac : ac ≠ rl := (ne_of_none hrl nac).symm
      have slac : ac ≠ sl := (ne_of_none hsl nac).symm
      have asc := actsC_asc E0 r.c
      obtain ⟨AC, eAC⟩ : ∃ AC, AC = actsC E0 r.c := ⟨_, rfl⟩
      rw [← eAC] at hacl asc
      have I1 : QInv (mvL E0) (c0, false) (xlR R) at_ fun d => d ∈ AC.take 0 := by
        refine ⟨I.asc, I.sound, I.tau, I.vis, fun y hy a ha => ?_, I.st, fun y hy => ?_, I.nd, I.ne⟩
        · rw [List.take_zero] at ha; cases ha
        · rcases I.ord y hy with h | ⟨b, y, a, h1, h2, h3⟩
          · exact .inl h
          · exact .inr ⟨b, y, a, h1, h2, .inl (h3.resolve_right fun h => h.2)⟩
      refine ⟨ac, rfl, ⟨_, SqL.of hacl⟩, for_list (K := K) (a := ac) (xs := AC.map V.str)
        (fun u σ H' => ∃ (R' : List Lr) (SL' : List (Addr × Lr)) (r8 r9 : Option V), σ = [some (.ref a), some (.int 70), some (.ref pl), some (.ref rl), some (.ref sl), some (.int (0 + (at_ : Nat))), some (.ref r.a), some (.ref r.b), r8, r9] ∧ Same H H' ∧ H' ac = some (.lst (AC.map V.str)) ∧ H' rl = some (.lst (lqs R')) ∧ LrOk H' R' ∧ H' sl = some (.lst (refs SL')) ∧ SnOk H' SL' ∧ SL'.map (·.2) = R' ∧
          QInv (mvL E0) (c0, false) (xlR R') at_ (fun d => d ∈ AC.take u) ∧ R'[at_]? = some r ∧ R.length ≤ R'.length)
        ⟨R, SL, _, _, rfl, s56, hacl, s6 _ _ hrl, hR.keep (fun b xs h => s6 _ _ h), s6 _ _ hsl, fun x hx => s6 _ _ (hSL x hx), eS, I1, hri, Nat.le_refl _⟩ (fun u σ H' _ ⟨_, _, _, _, _, _, z, _⟩ => SqL.of z) ?_ ?_⟩
      · clear hrl hR hsl hSL eS I I1 hacl s6 s56 s5 g1 g2 g3 hri hat lR
        rintro u v σ H7 hv ⟨R, SL, r8, r9, rfl, s7, hac, hrl, hR, hsl, hSL, eS, I, hri, lRR⟩
        rw [List.getElem?_map] at hv
        obtain ⟨x, hx, rfl⟩ := Option.map_eq_some_iff.mp hv
        have xin : x ∈ actsC E0 r.c := by rw [← eAC]; exact List.mem_of_getElem? hx
        have lR := few I
        obtain ⟨g1, g2, g3⟩ := hR r (List.mem_of_getElem? hri)
        have tkE : (fun d => d ∈ AC.take (u + 1)) = fun d => d ∈ AC.take u ∨ d = x := funext fun d => propext (by rw [List.take_succ, hx]; simp)
        have les : ∀ d, d ∈ AC.take u → sLt d x := fun d hd => by
          obtain ⟨k, hk⟩ := List.getElem?_of_mem hd
          have lk : k < u := by have := (List.getElem?_eq_some_iff.mp hk).1; rw [List.length_take] at this; omega
          rw [List.getElem?_take_of_lt lk] at hk
          obtain ⟨l1, e1⟩ := List.getElem?_eq_some_iff.mp hk
          obtain ⟨l2, e2⟩ := List.getElem?_eq_some_iff.mp hx
          have := List.pairwise_iff_getElem.mp asc k u l1 l2 lk
          rw [e1, e2] at this
          exact this
        refine VJ.nm ?_
        refine ⟨_, rfl, _, rfl, _, rfl, a, r.b, L, r.c, x, rfl, s7.seq hS, hE.kp (Kp.of s7), lenL, .inl (.inl g3), fun pn H8 cn s8 hpn hcn => VJ.nmS ?_⟩
        rw [← hE0] at hcn
        have ecn := nextF_eq (show IsAft E0 r.c x cn from hcn)
        have s78 := s7.trans s8
        have hrl8 := s8 _ _ hrl
        have hsl8 := s8 _ _ hsl
        have hac8 := s8 _ _ hac
        have hR8 : LrOk H8 R := hR.keep fun b xs h => s8 _ _ h
        have hSL8 : SnOk H8 SL := fun y hy => s8 _ _ (hSL y hy)
        have g28 := s8 _ _ g2
        clear hrl hsl hac hR hSL s8 s7 g1 g2 g3
        obtain ⟨q, eq⟩ : ∃ q : LP, q = (cn, decide (x = ("tick" : Str))) := ⟨_, rfl⟩
        have In := I.add (xlR_at hri) les (actsC_mem.1 xin).1 (S := [q]) (F := R.map lpR) (fun q' => ?_) (xlR_flat R).symm (newL (E := E0) (by rw [← xlR_flat]; exact I.nd) q)
        case refine_1 =>
          rw [List.mem_singleton]
          constructor
          · rintro rfl
            exact ⟨lpR r, List.mem_singleton.mpr rfl, mvL_mem.2 ⟨xin, by rw [eq, ← ecn] <;> rfl⟩⟩
          · rintro ⟨p, hp, h⟩
            rw [List.mem_singleton.mp hp] at h
            rw [(mvL_mem.1 h).2, eq, ← ecn] <;> rfl
        rw [← tkE] at In
        have ed : decide (V.str x = V.str ("tick" : Str)) = decide (x = ("tick" : Str)) := decide_eq_decide.mpr ⟨fun h => by injection h, fun h => by rw [h]⟩
        refine ⟨_, rfl, _, rfl, rfl, ?_⟩
        rw [ed]
        refine ⟨(by show 2 ≤ sizeLine; omega), fun t1 nt1 => ?_⟩
        have w9 := same_upd nt1 (.tup [.ref pn, .bl (decide (x = ("tick" : Str)))])
        have ht1 : upd H8 t1 (.tup [.ref pn, .bl (decide (x = ("tick" : Str)))]) t1 = some (.tup [.ref pn, .bl (decide (x = ("tick" : Str)))]) := upd_same
        have hpn9 := w9 _ _ hpn
        have hrl9 := w9 _ _ hrl8
        have hsl9 := w9 _ _ hsl8
        have hac9 := w9 _ _ hac8
        have hR9 : LrOk (upd H8 t1 (.tup [.ref pn, .bl (decide (x = ("tick" : Str)))])) R := hR8.keep fun b xs h => w9 _ _ h
        have hSL9 : SnOk (upd H8 t1 (.tup [.ref pn, .bl (decide (x = ("tick" : Str)))])) SL := fun y hy => w9 _ _ (hSL8 y hy)
        have g29 := w9 _ _ g28
        have s79 := s78.trans w9
        generalize upd H8 t1 (.tup [.ref pn, .bl (decide (x = ("tick" : Str)))]) = H9 at ht1 hpn9 hrl9 hsl9 hac9 hR9 hSL9 g29 s79 ⊢
        clear w9 hrl8 hsl8 hac8 hR8 hSL8 g28 s78 hpn nt1
        have dps : ∀ {S : List (Addr × Lr)}, SnOk H9 S → LrOk H9 (S.map (·.2)) → DpAll K H9 (refs S) ((S.map fun y => lpR y.2).map lpD) := fun {S} h1 h2 => by
          induction S with
          | nil => exact .nil
          | cons y S ih => exact .cons (lp_dp (h1 y List.mem_cons_self) (h2 y.2 (List.mem_cons_self)).2.2) (ih (fun z hz => h1 z (List.mem_cons_of_mem _ hz)) fun z hz => h2 z (List.mem_cons_of_mem _ hz))
        have shp : SeqAt.shaped (.list ((SL.map fun y => lpR y.2).map lpD)) = true := by
          have k : ∀ L : List LP, PyData.canLayAll0 (L.map lpD) = true ∧ PyData.depthAll (L.map lpD) ≤ 10 := fun L => by
            induction L with
            | nil => exact ⟨rfl, Nat.zero_le _⟩
            | cons y L ih =>
              obtain ⟨a1, a2⟩ := lpD_ok y
              obtain ⟨b1, b2⟩ := ih
              rw [List.map_cons]
              refine ⟨by simp [PyData.canLayAll0, a1, b1], ?_⟩
              unfold PyData.depthAll
              omega
          obtain ⟨a1, a2⟩ := k (SL.map fun y => lpR y.2)
          unfold SeqAt.shaped
          rw [PyData.canLay0, a1, Bool.true_and, decide_eq_true_eq]
          unfold PyData.depth
          omega
        have eSR : (SL.map fun y => lpR y.2) = R.map lpR := by rw [← eS, List.map_map] <;> rfl
        refine ⟨_, rfl, lpD q, _, by rw [eq]; exact lp_dp ht1 hpn9, .lst (SqL.of hsl9) (dps hSL9 (by rw [eS]; exact hR9)), lpD_shaped _, shp, ?_⟩
        rw [lpD_any, eSR]
        have lSL : SL.length = R.length := by rw [← eS, List.length_map]
        refine ⟨_, rfl, VUt.ite2b (fun cc => ?_) (fun cc => ?_)⟩
        · have nin : q ∉ R.map lpR := by simpa using cc
          rw [if_neg nin, if_neg (by simp)] at In
          refine ⟨_, rfl, .inl ⟨rfl, _, SqL.of hsl9⟩, _, rfl, _, rfl, rfl, ?_⟩
          rw [ed]
          refine ⟨(by show 2 ≤ sizeLine; omega), fun t2 nt2 => ?_⟩
          have w1 := same_upd nt2 (.tup [.ref pn, .bl (decide (x = ("tick" : Str)))])
          have hsl10 := w1 _ _ hsl9
          refine ⟨sl, _, _, rfl, rfl, hsl10, by rw [refs_len]; omega, ?_⟩
          have ht2 := (Kp.updL hsl10 (.lst (refs SL ++ [V.ref t2]))).tup _ _ (upd_same (H := H9) (a := t2) (o := .tup [.ref pn, .bl (decide (x = ("tick" : Str)))]))
          have kq := (Kp.of w1).trans (Kp.updL hsl10 (.lst (refs SL ++ [V.ref t2])))
          have s10 : Same H (upd (upd H9 t2 (.tup [.ref pn, .bl (decide (x = ("tick" : Str)))])) sl (.lst (refs SL ++ [V.ref t2]))) := sameIn (s79.trans w1) nslH
          have hslN : upd (upd H9 t2 (.tup [.ref pn, .bl (decide (x = ("tick" : Str)))])) sl (.lst (refs SL ++ [V.ref t2])) sl = some (.lst (refs SL ++ [V.ref t2])) := upd_same
          have hrlN : upd (upd H9 t2 (.tup [.ref pn, .bl (decide (x = ("tick" : Str)))])) sl (.lst (refs SL ++ [V.ref t2])) rl = some (.lst (lqs R)) := by rw [upd_ne rls]; exact w1 _ _ hrl9
          have hacN : upd (upd H9 t2 (.tup [.ref pn, .bl (decide (x = ("tick" : Str)))])) sl (.lst (refs SL ++ [V.ref t2])) ac = some (.lst (AC.map V.str)) := by rw [upd_ne slac]; exact w1 _ _ hac9
          have hRN := hR9.keep fun b xs h => kq.tup _ _ h
          have hSLN : SnOk (upd (upd H9 t2 (.tup [.ref pn, .bl (decide (x = ("tick" : Str)))])) sl (.lst (refs SL ++ [V.ref t2]))) SL := fun y hy => kq.tup _ _ (hSL9 y hy)
          have g2N := kq.tup _ _ g29
          have hpnN := kq.tup _ _ hpn9
          generalize upd (upd H9 t2 (.tup [.ref pn, .bl (decide (x = ("tick" : Str)))])) sl (.lst (refs SL ++ [V.ref t2])) = H10 at ht2 s10 hslN hrlN hacN hRN hSLN g2N hpnN ⊢
          clear kq w1 hsl10 hsl9 hrl9 hac9 hR9 hSL9 g29 hpn9 s79 nt2 dps
          refine ⟨_, rfl, .inl ⟨rfl, _, SqL.of hrlN⟩, ?_⟩
          refine ⟨_, rfl, _, rfl, (by show 1 ≤ sizeLine; omega), fun t3 nt3 => ?_⟩
          have s5 := same_upd nt3 (.tup [.str x])
          have ht3 : upd H10 t3 (.tup [.str x]) t3 = some (.tup [.str x]) := upd_same
          have hra := s5 _ _ g2N
          have s45 := s5
          have ltr : r.tr.length ≤ 100 := by
            have z := I.trlen
            have := z at_ _ (xlR_at hri)
            have l := (List.getElem?_eq_some_iff.mp hri).1
            show r.tr.length ≤ 100
            have : r.tr.length ≤ at_ := this
            omega
          generalize upd H10 t3 (.tup [.str x]) = H5 at ht3 hra s45 ⊢
          refine ⟨r.a, t3, _, _, rfl, rfl, .inl (.inl hra), .inl (.inl ht3), by rw [List.length_map]; show _ + 1 ≤ _; omega, ?x1, ?x2, ?x3⟩
          case x2 => exact fun _ e => absurd e (by simp)
          case' x1 =>
            intro e0
            have etr : r.tr = [] := List.map_eq_nil_iff.mp e0
            have htn : H5 t3 = some (.tup ((r.tr ++ [x]).map V.str)) := by rw [etr]; exact ht3
            generalize H5 = H6 at htn s45 ⊢
            generalize t3 = tn at htn ⊢
          case' x3 =>
            intro ne _ tn ntn
            have s56 := same_upd ntn (.tup (r.tr.map V.str ++ [V.str x]))
            have htn : upd H5 tn (.tup (r.tr.map V.str ++ [V.str x])) tn = some (.tup ((r.tr ++ [x]).map V.str)) := by rw [upd_same, List.map_append] <;> rfl
            replace s45 := s45.trans s56
            generalize upd H5 tn (.tup (r.tr.map V.str ++ [V.str x])) = H6 at htn s45 ⊢
          all_goals
            refine ⟨_, rfl, (by show 2 ≤ sizeLine; omega), fun kk nkk => ?_⟩
            have s78 := same_upd nkk (.tup [.ref tn, .ref pn])
            have hkk : upd H6 kk (.tup [.ref tn, .ref pn]) kk = some (.tup [.ref tn, .ref pn]) := upd_same
            have s48 := s45.trans s78
            have htn8 := s78 _ _ htn
            generalize upd H6 kk (.tup [.ref tn, .ref pn]) = H12 at hkk s48 htn8 ⊢
            have hrl12 := s48 _ _ hrlN
            refine ⟨rl, _, _, rfl, rfl, hrl12, by rw [lq]; omega, ?_⟩
            have up : ∀ b xs, H12 b = some (.tup xs) → upd H12 rl (.lst (lqs R ++ [V.ref kk])) b = some (.tup xs) := fun b xs h => by rw [upd_ne (ne_of h hrl12 (fun z => nomatch z))]; exact h
            refine ⟨R ++ [⟨kk, tn, pn, r.tr ++ [x], cn⟩], SL ++ [(t2, ⟨kk, tn, pn, r.tr ++ [x], cn⟩)], _, _, rfl, sameIn (s10.trans s48) nrlH, by rw [upd_ne rlac]; exact s48 _ _ hacN, by rw [upd_same, lqs_snoc], fun g hg => ?_, by rw [upd_ne rls.symm]; exact (s48 _ _ hslN).trans (by rw [refs_snoc]), fun g hg => ?_, by rw [List.map_append, eS] <;> rfl, ?_, by rw [List.getElem?_append_left (List.getElem?_eq_some_iff.mp hri).1]; exact hri, by rw [List.length_append]; omega⟩
            · rcases List.mem_append.mp hg with z | z
              · obtain ⟨h1, h2, h3⟩ := hRN g z
                exact ⟨up _ _ (s48 _ _ h1), up _ _ (s48 _ _ h2), up _ _ (s48 _ _ h3)⟩
              · rw [List.mem_singleton.mp z]
                exact ⟨up _ _ hkk, up _ _ htn8, up _ _ (s48 _ _ hpnN)⟩
            · rcases List.mem_append.mp hg with z | z
              · exact up _ _ (s48 _ _ (hSLN g z))
              · rw [List.mem_singleton.mp z]
                have e : lastT (r.tr ++ [x]) = decide (x = ("tick" : Str)) := lastT_snoc _ _
                show upd H12 rl _ t2 = some (.tup [.ref pn, .bl (lastT (r.tr ++ [x]))])
                rw [e]
                exact up _ _ (s48 _ _ ht2)
            · have ex : xlR (R ++ [⟨kk, tn, pn, r.tr ++ [x], cn⟩]) = xlR R ++ [⟨r.tr ++ [x], [q]⟩] := by
                unfold xlR
                rw [List.map_append, List.map_singleton]
                unfold lpR
                rw [lastT_snoc, eq]
              rw [ex]
              exact In
        · have inn : q ∈ R.map lpR := by simpa using cc
          rw [if_pos inn, if_pos rfl] at In
          exact VJ.nxT ⟨R, SL, _, _, rfl, s79, hac9, hrl9, hR9, hsl9, hSL9, eS, In, hri, lRR⟩
      · rintro σ H7 ⟨R', SL', r8, r9, rfl, s7, hac, hrl, hR, hsl, hSL, eS, I, hri, lRR⟩
        rw [List.length_map, List.take_length] at I
        refine ⟨R', SL', at_ + 1, _, _, _, _, _, rfl, s7, hrl, hR, hsl, hSL, eS, I.next fun y hy b nb => ?_, .inl ⟨rfl, by omega⟩⟩
        rw [xlR_at hri] at hy
        obtain rfl := Option.some.inj hy
        intro p hp t ht _
        rw [List.mem_singleton.mp hp] at ht
        exact absurd (by rw [eAC]; exact (mvL_mem.1 ht).1) nb
    · have ge : R.length ≤ k := by have := of_decide_eq_false c; omega
      exact VJ.nxT ⟨R, SL, at_, _, _, _, _, _, rfl, s5, hrl, hR, hsl, hSL, eS, I, .inr ⟨by omega, by omega⟩⟩
  · rintro σ H5 ⟨R, SL, at_, r5, r6, r7, r8, r9, rfl, s5, hrl, hR, hsl, hSL, eS, I, ca⟩
    have nd := I.nd
    rw [xlR_flat] at nd
    have z := sets_few ok0 n1 n5 hc0 nd fun p hp => by
      rw [← xlR_flat] at hp
      obtain ⟨x, hx, h⟩ := List.mem_flatMap.mp hp
      exact ⟨x.tr, I.sound x hx p h⟩
    rw [List.length_map] at z
    have eat : at_ = R.length := by omega
    rw [eat] at I
    exact ⟨_, rfl, fin rl H5 c0 R s5 hrl hR hc0 (by rw [xlR_len]; exact I) (by omega)⟩
end
end MG
end LW

set_option Elab.async false
set_option linter.all false
set_option maxRecDepth 100000
set_option maxHeartbeats 4000000
namespace LW
open PySem PySem.Spec PyProof.Rows L2 LamX NdefX VB VM VP VE VX VQ VZ
theorem sc_diverging : FnScope ["system"] ["system"] (defScope s_diverging) := ⟨rfl, rfl, rfl, by decide +kernel, rfl, by decide +kernel, by decide +kernel⟩
section
variable {P : Program} {w : World} {K : PySem.W.Frag} {mg : Str → Option Value} {base : Heap}
def spDvg (K : PySem.W.Frag) (C : Addr) : Sp := fun vs H Q _ => ∃ (φ : Addr → Prop) (p : Addr) (n : Int) (E0 : List Ed), vs = [.ref p] ∧ SysAt K φ C H p n E0 ∧ 1 ≤ n ∧ n ≤ 60 ∧ E0.length ≤ 1000 ∧
  ∀ (q : Addr) (H' : Hp) (cs : List Int), Same H H' → H' q = some (.tup (cs.map V.int)) → cs.Pairwise (· < ·) → (∀ s, s ∈ cs ↔ (0 ≤ s ∧ s < n) ∧ ¬ Halt E0 s) → Q (.ref q) H'
theorem c_diverging {C : Addr} (TX : SysTxt K C) (D : Df K mg "diverging" s_diverging) (z_list : mg "list" = none) (z_range : mg "range" = none) (c_diverging_among : C8.Cal P w K mg base 3 "diverging_among" (spDiv K C) []) : C8.Cal P w K mg base 4 "diverging" (spDvg K C) [] := by
  refine D.cal sc_diverging (fun _ _ _ _ _ _ us hl => match us, hl with | [_], _ => rfl) (fun vs H Q E h => ?_) (fun f cdv A outer s0 H vs Q E hr h => ?_)
  · obtain ⟨φ, p, n, E0, rfl, _⟩ := h
    rfl
  obtain ⟨φ, p, n, E0, rfl, SA, n1, n60, lenE, q⟩ := h
  refine ⟨_, (pss_one (ps_ret (C8.pe_c c_diverging_among hr (by first | decide | omega) rfl (pa_cons (pv 0) (pa_cons (pe_listRg rfl (by rfl) z_list (prg_1 (by rfl) z_range (pe_fld (pv 0) rfl))) pa_nil))))), ?_⟩
  have zl := sizeLine_eq
  obtain ⟨⟨dx, te, ll, td, LE, rows, kvs, S⟩, _, ok⟩ := id SA
  refine ⟨_, rfl, _, rfl, p, C, dx, _, _, rfl, S.hp, TX.cl, TX.n0, fl_count n te ll td, n, rfl, RgOk.of_le (by decide) (by omega) (by decide) (by omega), fun l nl => ?_⟩
  have s1 := same_upd nl (.lst (rgV 0 n))
  have hl : upd H l (.lst (rgV 0 n)) l = some (.lst ((rng n.toNat).map V.int)) := by rw [upd_same, rgV_rng]
  generalize upd H l (.lst (rgV 0 n)) = H1 at s1 hl ⊢
  have rm : ∀ x, x ∈ rng n.toNat ↔ 0 ≤ x ∧ x < n := fun x => by rw [rng_mem]; omega
  refine ⟨φ, p, l, n, E0, rng n.toNat, rfl, SA.same s1, lenE, .inl (SqL.of hl), rng_asc _, fun x hx => (rm x).1 hx, by rw [rng_len]; omega, fun s hs t ht => (rm t).2 ⟨(ok _ (tg_mem.1 ht)).2.2.1, (ok _ (tg_mem.1 ht)).2.2.2.1⟩, fun q2 H2 ds s3 hq2 asc2 mem2 => ?_⟩
  exact q q2 H2 ds (s1.trans s3) hq2 asc2 fun s => by rw [mem2, rm]
end
end LW

set_option Elab.async false
set_option linter.all false
set_option maxRecDepth 100000
set_option maxHeartbeats 400000
namespace LW
open PySem PySem.Spec PyProof.Rows L2 LamX NdefX VB VM VP VE VX VQ VZ VD
theorem sc_stuck_trace : FnScope ["system"] ["system"] (defScope s_stuck_trace) := ⟨rfl, rfl, rfl, by decide +kernel, rfl, by decide +kernel, by decide +kernel⟩
theorem sc_looping_trace : FnScope ["system", "looping", "state"] ["system"] (defScope s_looping_trace) := ⟨rfl, rfl, rfl, by decide +kernel, rfl, by decide +kernel, by decide +kernel⟩
namespace MG
/-- the names of the lambdas' code -/
def qnSt : Str := (envOfC "stuck_trace" (defScope s_stuck_trace) 0 0 .none).qual ++ "<lambda>"
def qnLo : Str := (envOfC "looping_trace" (defScope s_looping_trace) 0 0 .none).qual ++ "<lambda>"
def argsR : List Stmt → List Expr
  | [] => []
  | .Return (some (.Call _ as _ _)) _ :: _ => as
  | _ :: r => argsR r
def stE : List Expr := argsR (defBody s_stuck_trace)
def loE : List Expr := argsR (defBody s_looping_trace)
def lamAt (L : List Expr) (i : Nat) : Arguments × Expr × Scope := match L[i]? with
  | some (.Lambda a b s _) => (a, b, s)
  | _ => (⟨[], [], none, [], [], none, []⟩, .Name "" ⟨0, 0, 0, 0⟩, ⟨.function, [], false, false, []⟩)
def st1P := (lamAt stE 1).1
def st1B := (lamAt stE 1).2.1
def st1S := (lamAt stE 1).2.2
def st2P := (lamAt stE 2).1
def st2B := (lamAt stE 2).2.1
def st2S := (lamAt stE 2).2.2
def lo1P := (lamAt loE 1).1
def lo1B := (lamAt loE 1).2.1
def lo1S := (lamAt loE 1).2.2
def lo2P := (lamAt loE 2).1
def lo2B := (lamAt loE 2).2.1
def lo2S := (lamAt loE 2).2.2
def stS : Scope := ⟨.function, st1S.names ++ st2S.names, false, false, []⟩
def loS : Scope := ⟨.function, lo1S.names ++ lo2S.names, false, false, []⟩
section
variable {cl cl' : List (Str × Addr)} {fr fr' : List Str} {ws ws' : List (Option V)} {H H' : Hp}
theorem locked_sub (L : VC.Locked H cl fr ws) (h : ∀ y c, cl'.lookup y = some c → cl.lookup y = some c) (hl : ws'.length = fr'.length) (g : ∀ (i : Nat) (y : Str), fr'[i]? = some y → (∃ c, cl'.lookup y = some c) ∧ ∃ j : Nat, fr[j]? = some y ∧ ws[j]? = ws'[i]?) : VC.Locked H cl' fr' ws' := by
  refine ⟨hl, fun y c e => L.all y c (h y c e), fun x y c e1 e2 => L.inj x y c (h x c e1) (h y c e2), fun i y e => ?_⟩
  obtain ⟨⟨c', e'⟩, j, e1, e2⟩ := g i y e
  obtain ⟨c, o, v, h1, h2, h3, h4⟩ := L.has j y e1
  rw [h y c' e'] at h1
  obtain rfl := Option.some.inj h1
  exact ⟨c', o, v, e', h2, h3, fun x hx => h4 x (by rw [e2]; exact hx)⟩
variable {K : PySem.W.Frag}
theorem sqT_openM (hl : VC.Locked H cl fr ws) {a : Addr} {xs : List V} (h : SqT K H a xs) : SqT K (VC.open_ cl H) a xs := by
  rcases h with (h | ⟨o, h⟩) | h
  · exact .inl (.inl (VP.open_get hl h (fun ob z => nomatch z)))
  · exact .inl (.inr ⟨o, VP.open_get hl h (fun ob z => nomatch z)⟩)
  · exact .inr h
theorem SysAt.openedM {φ : Addr → Prop} (hl : VC.Locked H cl fr ws) {C p : Addr} {n : Int} {E : List Ed} (S : SysAt K φ C H p n E) : SysAt K φ C (VC.open_ cl H) p n E := by
  obtain ⟨⟨dx, te, ll, td, LE, rows, kvs, S⟩, a, o⟩ := S
  refine ⟨⟨dx, te, ll, td, LE, rows, kvs, VP.open_get hl S.hp (fun ob z => nomatch z), VP.open_get hl S.ht (fun ob z => nomatch z), fun x hx => sqT_openM hl (S.hE x hx), S.eE, VP.open_get hl S.hl (fun ob z => nomatch z), S.len, fun j x hj => ?_, S.tab.mono (VP.open_get hl S.tab.at_ (fun ob z => nomatch z)) fun b xs h z => ⟨VP.open_get hl h (fun ob z => nomatch z), z⟩, S.fl⟩, a, o⟩
  obtain ⟨f, LP, g1, g2, g3⟩ := S.row j x hj
  exact ⟨f, LP, VP.open_get hl g1 (fun ob z => nomatch z), fun x hx => sqT_openM hl (g2 x hx), g3⟩
theorem locked_sameM (hl : VC.Locked H cl fr ws) (s : Same H H') : VC.Locked H' cl fr ws := by
  refine ⟨hl.len, fun y c e => ?_, hl.inj, fun i y e => ?_⟩
  · obtain ⟨o, v, h, d⟩ := hl.all y c e
    exact ⟨o, v, s _ _ h, d⟩
  · obtain ⟨c, o, v, e1, h, d, r⟩ := hl.has i y e
    exact ⟨c, o, v, e1, s _ _ h, d, r⟩
/-- what comes back from behind a lock -/
theorem shut_sub (fr : ∀ b, VC.In cl b → H' b = none) : Same H' (VC.shut cl H H') := fun b o e => by
  rw [VC.shut_out fun i => ?_]
  · exact e
  · have z := fr b i
    rw [e] at z
    cases z
theorem nq_shut (fr : ∀ b, VC.In cl b → H' b = none) {q : Addr} {o : HO} (hq : H' q = some o) (nq : VC.open_ cl H q = none) : H q = none := by
  have nin : ¬ VC.In cl q := fun i => by have z := fr q i; rw [hq] at z; cases z
  rw [VC.open_out nin] at nq
  exact nq
end
section
variable {P : Program} {w : World} {K : PySem.W.Frag} {mg : Str → Option Value} {base : Heap}
/-- what follows a place -/
def spT1 (P : Program) (w : World) (K : PySem.W.Frag) (C p : Addr) (φ : Addr → Prop) (n : Int) (E : List Ed) : Sp := fun vs H Q _ => ∃ (a : Addr) (pl : BP), vs = [.ref a] ∧ BpAt K H a pl ∧ SysAt K φ C H p n E ∧ 0 ≤ pl.1 ∧ pl.1 < n ∧
  ∀ (q : Addr) (LV : List (Addr × (Str × (V × BP)))) (H' : Hp), Same H H' → H q = none → H' q = some (.lst (refs LV)) → Lvs K (KB P w K) H' LV → mvR (LV.map (·.2)) = mvB E pl → Q (.ref q) H'
theorem c_T1 {C p f : Addr} {φ : Addr → Prop} {n : Int} {E : List Ed} {F : NF} (hF : ∃ q cl c, F = VA.lamF q st1P st1S cl c) (lE : E.length ≤ 1000) (c_ticking_edges : C8.Cal P w K mg base 3 "ticking_edges" (spTick P w K C) []) :
    VA.VCall P w K mg base 4 f (VC.lamLk f F st1B ["system"] [some (.ref p)]) (spT1 P w K C p φ n E) := by
  obtain ⟨q0, cl, c, rfl⟩ := hF
  refine VC.lam_locked (N := ["place", "system"]) (ps := ["place"]) (nscope_by rfl) (fun pm ctv us hl => match us, hl with | [_], _ => rfl) (fun vs H Q E h => ?_) (fun A outer s H vs Q E0 hr hla h => ?_)
  · obtain ⟨_, _, rfl, _⟩ := h
    rfl
  obtain ⟨a, pl, rfl, ha, SA, p0, p1, q⟩ := h
  obtain ⟨l1, l2, L⟩ := hla
  refine ⟨_, C8.pe_c c_ticking_edges hr (by decide) rfl (pa_cons (pv 1) (pa_cons (pv 0) pa_nil)), ?_⟩
  refine ⟨_, rfl, _, rfl, φ, p, a, n, E, pl, rfl, SysAt.openedM L SA, lE, p0, p1, sqT_openM L ha, fun q1 LV H' s nq hq hLV eLV => ?_⟩
  intro fr
  have sub := shut_sub (H := H) fr
  exact q q1 LV _ (shut_same L s) (nq_shut fr hq nq) (sub _ _ hq) (hLV.kp (Kp.of sub)) eLV
def spT2 (K : PySem.W.Frag) (C p : Addr) (φ : Addr → Prop) (n : Int) (E : List Ed) : Sp := fun vs H Q _ => ∃ (a : Addr) (pl : BP), vs = [.ref a] ∧ BpAt K H a pl ∧ SysAt K φ C H p n E ∧ 0 ≤ pl.1 ∧ pl.1 < n ∧ ∀ (H' : Hp), Same H H' → Q (.bl (rightB E pl)) H'
theorem c_T2 {C CB p f : Addr} {φ : Addr → Prop} {n : Int} {E : List Ed} {F : NF} (hF : ∃ q cl c, F = VA.lamF q st2P st2S cl c) (c_System_leaving : C8.Met P w K mg base 2 C "leaving" (calm (spLeavX K C CB)) []) :
    VA.VCall P w K mg base 5 f (VC.lamLk f F st2B ["system"] [some (.ref p)]) (spT2 K C p φ n E) := by
  obtain ⟨q0, cl, c, rfl⟩ := hF
  refine VC.lam_locked (N := ["place", "system"]) (ps := ["place"]) (nscope_by rfl) (fun pm ctv us hl => match us, hl with | [_], _ => rfl) (fun vs H Q E h => ?_) (fun A outer s H vs Q E0 hr hla h => ?_)
  · obtain ⟨_, _, rfl, _⟩ := h
    rfl
  obtain ⟨a, pl, rfl, ha, SA, p0, p1, q⟩ := h
  obtain ⟨l1, l2, L⟩ := hla
  refine ⟨_, pe_and (pe_not (pe_ix (VK.ixT (K := K) rfl) (pv 0) pe_int (fun _ _ => rfl))) (pe_one (VNT.pe_notTK (K := K) rfl (C8.pe_mt c_System_leaving hr (by decide) (pv 1) (pa_cons (pe_ix (VK.ixT (K := K) rfl) (pv 0) pe_int (fun _ _ => rfl)) pa_nil)))), ?_⟩
  have hao := sqT_openM L ha
  have SAo := SysAt.openedM L SA
  have fin : ∀ H', Same (VC.open_ cl H) H' → (∀ b, VC.In cl b → H' b = none) → Q (.bl (rightB E pl)) (VC.shut cl H H') := fun H' s fr => q _ (shut_same L s)
  refine ⟨_, rfl, a, _, _, _, rfl, rfl, hao, rfl, pl.2, rfl, _, rfl, ?_⟩
  unfold rightB at fin
  refine VUt.ite2b (fun c1 => ?_) (fun c1 => ?_)
  · rw [c1] at fin
    obtain ⟨⟨dx, te, ll, td, LE, rows, kvs, S3⟩, _⟩ := id SAo
    refine ⟨_, rfl, p, dx, _, rfl, S3.hp, fl_none n te ll td (by decide +kernel) (by decide +kernel) (by decide +kernel) (by decide +kernel), _, rfl, a, _, _, _, rfl, rfl, hao, rfl, φ, p, n, E, pl.1, rfl, SAo, fun z => z ⟨p0, p1⟩, fun _ q1 LP nq eLP hLP => ?_⟩
    refine ⟨_, .inl ⟨_, SqL.of upd_same, rfl⟩, ?_⟩
    have e : (!!(refs LP).isEmpty) = (true && (leav E pl.1).isEmpty) := by
      rw [Bool.not_not, ← eLP, Bool.true_and]
      cases LP <;> rfl
    rw [e]
    exact fin _ (same_upd nq _)
  · rw [c1] at fin
    exact fin _ (Same.refl _)
/-- what follows a state -/
def spI1 (K : PySem.W.Frag) (C p : Addr) (φ : Addr → Prop) (n : Int) (E : List Ed) : Sp := fun vs H Q _ => ∃ (s : Int), vs = [.int s] ∧ SysAt K φ C H p n E ∧ 0 ≤ s ∧ s < n ∧
  ∀ (q : Addr) (LP : List (Addr × Pr)) (H' : Hp), Same H H' → H q = none → H' q = some (.lst (refs LP)) → Pqs K H' LP → LP.map (·.2) = leav E s → Q (.ref q) H'
theorem c_I1 {C CB p f : Addr} {φ : Addr → Prop} {n : Int} {E : List Ed} {F : NF} (hF : ∃ q cl c, F = VA.lamF q lo1P lo1S cl c) (c_System_leaving : C8.Met P w K mg base 2 C "leaving" (calm (spLeavX K C CB)) []) :
    VA.VCall P w K mg base 4 f (VC.lamLk f F lo1B ["system"] [some (.ref p)]) (spI1 K C p φ n E) := by
  obtain ⟨q0, cl, c, rfl⟩ := hF
  refine VC.lam_locked (N := ["state", "system"]) (ps := ["state"]) (nscope_by rfl) (fun pm ctv us hl => match us, hl with | [_], _ => rfl) (fun vs H Q E h => ?_) (fun A outer s H vs Q E0 hr hla h => ?_)
  · obtain ⟨_, rfl, _⟩ := h
    rfl
  obtain ⟨s0, rfl, SA, s1, s2, q⟩ := h
  obtain ⟨l1, l2, L⟩ := hla
  refine ⟨_, C8.pe_mt c_System_leaving hr (by decide) (pv 1) (pa_cons (pv 0) pa_nil), ?_⟩
  have SAo := SysAt.openedM L SA
  obtain ⟨⟨dx, te, ll, td, LE, rows, kvs, S3⟩, _⟩ := id SAo
  refine ⟨_, rfl, p, dx, _, rfl, S3.hp, fl_none n te ll td (by decide +kernel) (by decide +kernel) (by decide +kernel) (by decide +kernel), _, rfl, φ, p, n, E, s0, rfl, SAo, fun z => z ⟨s1, s2⟩, fun _ q1 LP nq eLP hLP => ?_⟩
  intro fr
  have sub := shut_sub (H := H) fr
  exact q q1 LP _ (shut_same L (same_upd nq _)) (nq_shut fr upd_same nq) (sub _ _ upd_same) ((hLP.kp (Kp.of (same_upd nq _))).kp (Kp.of sub)) eLP
def spI2 (ld : Addr) (right : Int → Bool) : Sp := fun vs H Q _ => ∃ (s : Int) (kvs : List (Key × V)), vs = [.int s] ∧ H ld = some (.dK kvs) ∧ (valV kvs (.inl s)).isSome = right s ∧ ∀ (H' : Hp), Same H H' → Q (.bl (right s)) H'
theorem c_I2 {ld f : Addr} {right : Int → Bool} {F : NF} (hF : ∃ q cl c, F = VA.lamF q lo2P lo2S cl c) :
    VA.VCall P w K mg base 5 f (VC.lamLk f F lo2B ["looping"] [some (.ref ld)]) (spI2 ld right) := by
  obtain ⟨q0, cl, c, rfl⟩ := hF
  refine VC.lam_locked (N := ["state", "looping"]) (ps := ["state"]) (nscope_by rfl) (fun pm ctv us hl => match us, hl with | [_], _ => rfl) (fun vs H Q E h => ?_) (fun A outer s H vs Q E0 hr hla h => ?_)
  · obtain ⟨_, _, rfl, _⟩ := h
    rfl
  obtain ⟨s0, kvs, rfl, hd, e, q⟩ := h
  obtain ⟨l1, l2, L⟩ := hla
  refine ⟨_, pe_cmp (pc_din (hu_of hr) (pv 0) (pv 1)), ?_⟩
  refine ⟨_, rfl, _, rfl, ld, _, rfl, DGet.k (k := .inl s0) (VP.open_get L hd (fun ob z => nomatch z)), ?_⟩
  rw [e]
  intro fr
  exact q _ (shut_same L (Same.refl _))
theorem SysAt.extM {φ : Addr → Prop} {C p : Addr} {H H' : Hp} {n : Int} {E : List Ed} (S : SysAt K φ C H p n E) (s : ExtN H H') : SysAt K φ C H' p n E :=
  S.stay (Kp.ofExtN s) (fun b c d fs h => (s _ _ h (fun _ z => nomatch z)).trans h.symm) (fun b kvs h => (s _ _ h (fun _ z => nomatch z)).trans h.symm) fun b xs h z => ⟨(s _ _ h (fun _ z => nomatch z)).trans h.symm, z⟩
/-- all pairs of a state and a boolean -/
def allB (n : Int) : List BP := (rng n.toNat).flatMap fun s => [(s, false), (s, true)]
theorem allB_mem {n : Int} {p : BP} : p ∈ allB n ↔ 0 ≤ p.1 ∧ p.1 < n := by
  unfold allB
  rw [List.mem_flatMap]
  constructor
  · rintro ⟨s, hs, h⟩
    have e : p.1 = s := by
      simp only [List.mem_cons, List.not_mem_nil, or_false] at h
      rcases h with h | h <;> rw [h]
    rw [rng_mem] at hs
    omega
  · intro h
    refine ⟨p.1, rng_mem.2 (by omega), ?_⟩
    obtain ⟨s, b⟩ := p
    cases b <;> simp
theorem allB_len (n : Int) : (allB n).length = n.toNat * 2 := by
  unfold allB
  rw [List.length_flatMap]
  simp only [List.length_cons, List.length_nil]
  rw [List.map_const', List.sum_replicate_nat, rng_len]
theorem leav_lenM (E : List Ed) (s : Int) : (leav E s).length ≤ E.length := by
  unfold leav
  rw [List.length_map]
  exact List.length_filter_le _ _
def spStk (K : PySem.W.Frag) (C : Addr) (T : List (Addr × Str)) : Sp := fun vs H Q _ => ∃ (φ : Addr → Prop) (p : Addr) (n : Int) (E : List Ed), vs = [.ref p] ∧ SysAt K φ C H p n E ∧ 1 ≤ n ∧ n ≤ 60 ∧ E.length ≤ 1000 ∧ Tabs T H ∧
  (∀ H', ExtN H H' → Tabs T H' → (∀ u, ¬ StuckP E u) → Q .non H') ∧ (∀ (u : List Str) (q : Addr) (H' : Hp), ExtN H H' → Tabs T H' → SqT K H' q (u.map V.str) → LstP (StuckP E) u → Q (.ref q) H')
theorem c_stk {C CB c Pt f : Addr} {fd : FuncData} {T : List (Addr × Str)} (F : FnP K "stuck_trace" s_stuck_trace f fd) (hm : mg "stuck_trace" = some (.ref f)) (hcd : fd.code = .ref c) (TB : TabB base mg c Pt)
    (hmT : (Pt, qnSt) ∈ T) (hu : ∀ p ∈ T, p.1 = Pt → p.2 = qnSt) (c_least_trace : C8.Cal P w K mg base 6 "least_trace" (spLea P w K mg base 4 (KB P w K)) []) (c_ticking_edges : C8.Cal P w K mg base 3 "ticking_edges" (spTick P w K C) [])
    (c_System_leaving : C8.Met P w K mg base 2 C "leaving" (calm (spLeavX K C CB)) []) : C8.Cal P w K mg base 7 "stuck_trace" (spStk K C T) [] := by
  have bh : Binds K fd ["system"] [] := F.bindsN fun _ _ _ _ _ _ us hl => match us, hl with | [_], _ => rfl
  refine ⟨f, fd, ["system"], [], ?_, hm, F.kp, bh, .nil⟩
  obtain ⟨oc, od, dV, kV, doc, pm, an, cdv, ct, osl, rfl, lk, hcd2, _, _⟩ := F.ex
  obtain rfl : cdv = .ref c := hcd
  refine fn_of lk hcd2 sc_stuck_trace (fun vs H Q E h => ?_) fun A outer s H vs Q E0 hr h => ?_
  · obtain ⟨_, _, _, _, rfl, _⟩ := h
    rfl
  obtain ⟨φ, p, n, E, rfl, SA, n1, n60, lE, hT, qn, qt⟩ := h
  suffices hh : ∃ t0, PSs (cxOf CX0 P w K mg base ["system"] "stuck_trace" (defScope s_stuck_trace) f (.ref c) A outer s H E0).nox (defBody s_stuck_trace) t0 ∧ t0 { nx := fun _ H' => Q .non H', rt := Q } (start ["system"] [.ref p]) H by
    obtain ⟨t0, a, b⟩ := hh
    exact ⟨t0, a.nox, b⟩
  have hfree1 : ∀ y ∈ st1S.names, y.2 = .free → (defScope s_stuck_trace).names.lookup y.1 = some .cell ∨ (defScope s_stuck_trace).names.lookup y.1 = some .free := by decide +kernel
  have hfree2 : ∀ y ∈ st2S.names, y.2 = .free → (defScope s_stuck_trace).names.lookup y.1 = some .cell ∨ (defScope s_stuck_trace).names.lookup y.1 = some .free := by decide +kernel
  have hfree : ∀ y ∈ stS.names, y.2 = .free → (defScope s_stuck_trace).names.lookup y.1 = some .cell ∨ (defScope s_stuck_trace).names.lookup y.1 = some .free := by decide +kernel
  have hfr : ∀ y ∈ (["system"] : List Str), (y, NameKind.free) ∈ stS.names := by decide +kernel
  refine ⟨_, (pss_one (ps_ret (VC.pe_cLk (fr := ["system"]) (js := [0]) c_least_trace hr (by first | decide | omega) rfl (fun ok => Caps.made (scope := MG.stS) ok hfree hfr rfl) (fun y => rfl) (pa_cons (pe_tup (pa_cons pe_int (pa_cons pe_bl pa_nil))) (pa_cons (VA.pe_lam (T := T) TB rfl hmT hu rfl hfree1) (pa_cons (VA.pe_lam (T := T) TB rfl hmT hu rfl hfree2) pa_nil)))))), ?_⟩
  have zl := sizeLine_eq
  refine ⟨(by show 2 ≤ sizeLine; omega), fun za nza => ?_⟩
  have w1 := same_upd nza (.tup [.int 0, .bl false])
  have hza : upd H za (.tup [.int 0, .bl false]) za = some (.tup [.int 0, .bl false]) := upd_same
  have T1 := hT.ext w1
  generalize upd H za (.tup [.int 0, .bl false]) = H1 at w1 hza T1 ⊢
  refine ⟨T1, fun f1 c1 H2 eN1 nn1 T2 f10 hf1 hc1 => ⟨T2, fun f2 c2 H3 eN2 nn2 T3 f20 hf2 hc2 => ?_⟩⟩
  intro H4 lk
  have s34 := lock_same lk
  have eN := ((ExtN.of w1).trans eN1).trans eN2
  have SA4 := (SysAt.extM SA eN).same s34
  have hza4 := s34 _ _ (eN2 _ _ (eN1 _ _ hza (fun _ z => nomatch z)) (fun _ z => nomatch z))
  have hf14 := s34 _ _ (eN2 _ _ hf1 (fun _ z => nomatch z))
  have hc14 := s34 _ _ (eN2 _ _ hc1 (fun _ z => nomatch z))
  have hf24 := s34 _ _ hf2
  have hc24 := s34 _ _ hc2
  have L4 := lk.lk
  have two : ∀ {x : Addr} {y : Str} {c : Addr}, List.lookup y [(("system" : Str), x)] = some c → List.lookup y [(("system" : Str), x), (("system" : Str), x)] = some c := fun {x y c} e => by
    simp only [List.lookup] at e ⊢
    split at e
    · exact e
    · cases e
  have LS : ∀ {cl'}, (∃ x, cl' = [(("system" : Str), x)] ∧ cloFrom (cxOf CX0 P w K mg base ["system"] "stuck_trace" (defScope s_stuck_trace) f (.ref c) A outer s H E0).nox.env.cells stS.names [] = [(("system" : Str), x), (("system" : Str), x)]) → VC.Locked H4 cl' ["system"] [some (.ref p)] := fun {cl'} ⟨x, e1, e2⟩ => by
    rw [e1]
    refine locked_sub (ws' := [some (.ref p)]) L4 (fun y c e => ?_) rfl (fun i y e => ?_)
    · have z := two e
      rw [← e2] at z
      exact z
    · match i, e with
      | 0, e =>
        obtain rfl := Option.some.inj e
        exact ⟨⟨x, rfl⟩, 0, rfl, rfl⟩
      | _ + 1, e => cases e
  have stay : ∀ {g : Addr} {F : NF} {b : Expr} {H5 H6 : Hp}, Same H5 H6 → VC.lamLk g F b ["system"] [some (.ref p)] H5 → VC.lamLk g F b ["system"] [some (.ref p)] H6 := fun s ⟨a, b, c⟩ => ⟨s _ _ a, s _ _ b, locked_sameM c s⟩
  have ok := SA4.ok
  refine ⟨.ref za, f1, f2, (0, false), allB n, mvB E, rightB E, VC.lamLk f1 _ st1B ["system"] [some (.ref p)], VC.lamLk f2 _ st2B ["system"] [some (.ref p)], spT1 P w K C p φ n E, spT2 K C p φ n E, rfl, ⟨za, rfl, .inl (.inl hza4)⟩, allB_mem.2 ⟨Int.le_refl _, n1⟩, fun q hq e he => ?_, by rw [allB_len]; omega, fun q => ?_,
    c_T1 ⟨_, _, c1, rfl⟩ lE c_ticking_edges, fun H' s' => stay s' ⟨hf14, hc14, LS ⟨_, rfl, rfl⟩⟩, fun pl v H' Q' hU s' hv k => ?_, c_T2 ⟨_, _, c2, rfl⟩ c_System_leaving, fun H' s' => stay s' ⟨hf24, hc24, LS ⟨_, rfl, rfl⟩⟩, fun pl v H' Q' hU s' hv k => ?_, fun H' s' h => ?_, fun u q H' s' hq h => ?_⟩
  · obtain ⟨a, e2⟩ := e
    have := ok _ (leav_mem.1 (mvB_mem.1 he).1)
    exact allB_mem.2 ⟨this.2.2.1, this.2.2.2.1⟩
  · unfold mvB
    rw [List.length_map]
    exact Nat.le_trans (leav_lenM _ _) lE
  · obtain ⟨a, rfl, ha⟩ := hv
    obtain ⟨r1, r2⟩ := allB_mem.1 hU
    exact ⟨a, pl, rfl, ha, SA4.same s', r1, r2, k⟩
  · obtain ⟨a, rfl, ha⟩ := hv
    obtain ⟨r1, r2⟩ := allB_mem.1 hU
    exact ⟨a, pl, rfl, ha, SA4.same s', r1, r2, k⟩
  · have so := open_same lk s'
    exact qn _ (eN.trans (ExtN.of so)) (T3.ext so) fun u hu => by
      obtain ⟨pl, hp, r⟩ := rightB_iff.2 hu
      exact h u pl hp r
  · have so := open_same lk s'
    exact qt u q _ (eN.trans (ExtN.of so)) (T3.ext so) (sqT_openM (locked_sameM L4 s') hq) (Lst.p (fun u => rightB_iff) h)
/-- a trace to a state that can go on silently without end -/
def LoopP (E : List Ed) (u : List Str) : Prop := ∃ s, Rp (leav E) 0 u s ∧ ¬ Halt E s
def spLoo (K : PySem.W.Frag) (C : Addr) (T : List (Addr × Str)) : Sp := fun vs H Q _ => ∃ (φ : Addr → Prop) (p : Addr) (n : Int) (E : List Ed), vs = [.ref p] ∧ SysAt K φ C H p n E ∧ 1 ≤ n ∧ n ≤ 60 ∧ E.length ≤ 1000 ∧ Tabs T H ∧
  (∀ H', ExtN H H' → Tabs T H' → (∀ u, ¬ LoopP E u) → Q .non H') ∧ (∀ (u : List Str) (q : Addr) (H' : Hp), ExtN H H' → Tabs T H' → SqT K H' q (u.map V.str) → LstP (LoopP E) u → Q (.ref q) H')
theorem c_loo {C CB c Pt f : Addr} {fd : FuncData} {T : List (Addr × Str)} (F : FnP K "looping_trace" s_looping_trace f fd) (hm : mg "looping_trace" = some (.ref f)) (hcd : fd.code = .ref c) (TB : TabB base mg c Pt)
    (hmT : (Pt, qnLo) ∈ T) (hu : ∀ p ∈ T, p.1 = Pt → p.2 = qnLo) (c_least_trace : C8.Cal P w K mg base 6 "least_trace" (spLea P w K mg base 4 KI) []) (c_diverging : C8.Cal P w K mg base 4 "diverging" (spDvg K C) [])
    (c_System_leaving : C8.Met P w K mg base 2 C "leaving" (calm (spLeavX K C CB)) []) : C8.Cal P w K mg base 7 "looping_trace" (spLoo K C T) [] := by
  have bh : Binds K fd ["system"] [] := F.bindsN fun _ _ _ _ _ _ us hl => match us, hl with | [_], _ => rfl
  refine ⟨f, fd, ["system"], [], ?_, hm, F.kp, bh, .nil⟩
  obtain ⟨oc, od, dV, kV, doc, pm, an, cdv, ct, osl, rfl, lk, hcd2, _, _⟩ := F.ex
  obtain rfl : cdv = .ref c := hcd
  refine fn_of lk hcd2 sc_looping_trace (fun vs H Q E h => ?_) fun A outer s H vs Q E0 hr h => ?_
  · obtain ⟨_, _, _, _, rfl, _⟩ := h
    rfl
  obtain ⟨φ, p, n, E, rfl, SA, n1, n60, lE, hT, qn, qt⟩ := h
  suffices hh : ∃ t0, PSs (cxOf CX0 P w K mg base ["system", "looping", "state"] "looping_trace" (defScope s_looping_trace) f (.ref c) A outer s H E0).nox (defBody s_looping_trace) t0 ∧ t0 { nx := fun _ H' => Q .non H', rt := Q } (start ["system", "looping", "state"] [.ref p]) H by
    obtain ⟨t0, a, b⟩ := hh
    exact ⟨t0, a.nox, b⟩
  have hfree1 : ∀ y ∈ lo1S.names, y.2 = .free → (defScope s_looping_trace).names.lookup y.1 = some .cell ∨ (defScope s_looping_trace).names.lookup y.1 = some .free := by decide +kernel
  have hfree2 : ∀ y ∈ lo2S.names, y.2 = .free → (defScope s_looping_trace).names.lookup y.1 = some .cell ∨ (defScope s_looping_trace).names.lookup y.1 = some .free := by decide +kernel
  have hfree : ∀ y ∈ loS.names, y.2 = .free → (defScope s_looping_trace).names.lookup y.1 = some .cell ∨ (defScope s_looping_trace).names.lookup y.1 = some .free := by decide +kernel
  have hfr : ∀ y ∈ (["system", "looping"] : List Str), (y, NameKind.free) ∈ loS.names := by decide +kernel
  refine ⟨_, (pss_cons (ps_set (i := 1) sc_looping_trace.nd rfl (Or.inr rfl) (pe_dc (own := [("state", 2)]) (tt := tYes) rfl sc_looping_trace.nd (pi_tup (C8.pe_c c_diverging hr (by first | decide | omega) rfl (pa_cons (pv 0) pa_nil))) (blkOk_by (N := ["system", "looping", "state"]) (sc := defScope s_looping_trace) (by decide +kernel)) (fun _ _ _ _ _ => (pg_name (i := 2) sc_looping_trace.nd rfl (Or.inl rfl) (hf := Or.inr rfl))) (fun _ _ _ _ _ => pts_nil) (fun _ _ _ _ _ => (pv 2)) (fun _ _ _ _ _ => pe_bl)))
    (pss_one (ps_ret (VC.pe_cLk (fr := ["system", "looping"]) (js := [0, 1]) c_least_trace hr (by first | decide | omega) rfl (fun ok => Caps.made (scope := MG.loS) ok hfree hfr rfl) (fun y => rfl) (pa_cons pe_int (pa_cons (VA.pe_lam (T := T) TB rfl hmT hu rfl hfree1) (pa_cons (VA.pe_lam (T := T) TB rfl hmT hu rfl hfree2) pa_nil))))))), ?_⟩
  have zl := sizeLine_eq
  refine ⟨_, rfl, φ, p, n, E, rfl, SA, n1, n60, lE, fun qa H1 cs s1 hqa asc mem => ⟨qa, rfl, ⟨_, .inl (.inl hqa)⟩, fun D nD => ?_⟩⟩
  have lcs := few_of (ascI_nodup asc) fun y hy => ((mem y).1 hy).1
  refine dc_tup (K := K) (a := qa) (xs := cs.map V.int) (fun i H' => Same H1 H' ∧ ∃ kvs : List (Key × V), H' D = some (.dK kvs) ∧ kvs.length ≤ i ∧ ∀ s, (valV kvs (.inl s)).isSome = true ↔ s ∈ cs.take i)
    ⟨same_upd nD _, [], upd_same, Nat.le_refl _, fun s => ⟨fun z => (by cases z), fun z => by simp at z⟩⟩ (fun i H' _ z => VB.Same.sqT z.1 (.inl (.inl hqa))) ?_ ?_
  · rintro i v H2 hv ⟨s2, kvs, hD, lk, hk2⟩
    rw [List.getElem?_map] at hv
    obtain ⟨y, hy, rfl⟩ := Option.map_eq_some_iff.mp hv
    have lti := (List.getElem?_eq_some_iff.mp hy).1
    have tk : cs.take (i + 1) = cs.take i ++ [y] := by rw [List.take_add_one, hy, Option.toList_some]
    refine ⟨rfl, ?_⟩
    unfold tYes
    refine iteT ⟨_, rfl, kvs, .inl y, rfl, hD, by omega, sameIn s2 nD, _, upd_same, Nat.le_trans (VZ.putK_len _ _ _) (by omega), fun b => ?_⟩
    rw [valV_put, tk, List.mem_append, List.mem_singleton, ← hk2]
    by_cases e : b = y
    · subst e; simp
    · rw [if_neg (fun z => e (Sum.inl.inj z))]; simp [e]
  rintro H2 ⟨s2, kvs, hD, lk, hk2⟩
  rw [List.length_map, List.take_length] at hk2
  have w1 := s1.trans s2
  have T1 := hT.ext w1
  clear s2 lk
  generalize H2 = H1 at w1 hD T1 ⊢
  refine VJ.nmS ?_
  refine ⟨T1, fun f1 c1 H2 eN1 nn1 T2 f10 hf1 hc1 => ⟨T2, fun f2 c2 H3 eN2 nn2 T3 f20 hf2 hc2 => ?_⟩⟩
  intro H4 lk
  have s34 := lock_same lk
  have eN := ((ExtN.of w1).trans eN1).trans eN2
  have SA4 := (SysAt.extM SA eN).same s34
  have hD4 := s34 _ _ (eN2 _ _ (eN1 _ _ hD (fun _ z => nomatch z)) (fun _ z => nomatch z))
  have hf14 := s34 _ _ (eN2 _ _ hf1 (fun _ z => nomatch z))
  have hc14 := s34 _ _ (eN2 _ _ hc1 (fun _ z => nomatch z))
  have hf24 := s34 _ _ hf2
  have hc24 := s34 _ _ hc2
  have L4 := lk.lk
  obtain ⟨cells, ecl⟩ : ∃ c', c' = (cxOf CX0 P w K mg base ["system", "looping", "state"] "looping_trace" (defScope s_looping_trace) f (.ref c) A outer s H E0).nox.env.cells := ⟨_, rfl⟩
  have e0 : cloFrom cells loS.names [] = [(("looping" : Str), (cells.lookup ("looping" : Str)).getD 0), (("system" : Str), (cells.lookup ("system" : Str)).getD 0)] := rfl
  have LS1 : VC.Locked H4 (cloFrom cells lo1S.names []) ["system"] [some (.ref p)] := by
    refine locked_sub (ws' := [some (.ref p)]) L4 (fun y c' e => ?_) rfl (fun i y e => ?_)
    · have e : List.lookup y [(("system" : Str), (cells.lookup ("system" : Str)).getD 0)] = some c' := e
      rw [← ecl, e0]
      simp only [List.lookup] at e ⊢
      by_cases h : y = ("system" : Str)
      · subst h
        exact e
      · rw [show (y == ("system" : Str)) = false from beq_eq_false_iff_ne.mpr h] at e
        cases e
    · match i, e with
      | 0, e =>
        obtain rfl := Option.some.inj e
        exact ⟨⟨_, rfl⟩, 0, rfl, rfl⟩
      | _ + 1, e => cases e
  have LS2 : VC.Locked H4 (cloFrom cells lo2S.names []) ["looping"] [some (.ref D)] := by
    refine locked_sub (ws' := [some (.ref D)]) L4 (fun y c' e => ?_) rfl (fun i y e => ?_)
    · have e : List.lookup y [(("looping" : Str), (cells.lookup ("looping" : Str)).getD 0)] = some c' := e
      rw [← ecl, e0]
      simp only [List.lookup] at e ⊢
      by_cases h : y = ("looping" : Str)
      · subst h
        exact e
      · rw [show (y == ("looping" : Str)) = false from beq_eq_false_iff_ne.mpr h] at e
        cases e
    · match i, e with
      | 0, e =>
        obtain rfl := Option.some.inj e
        exact ⟨⟨_, rfl⟩, 1, rfl, rfl⟩
      | _ + 1, e => cases e
  subst ecl
  have stay : ∀ {g : Addr} {F : NF} {b : Expr} {H5 H6 : Hp} {fr : List Str} {ws : List (Option V)}, Same H5 H6 → VC.lamLk g F b fr ws H5 → VC.lamLk g F b fr ws H6 := fun s ⟨a, b, c⟩ => ⟨s _ _ a, s _ _ b, locked_sameM c s⟩
  have ok := SA4.ok
  have rm : ∀ x, x ∈ rng n.toNat ↔ 0 ≤ x ∧ x < n := fun x => by rw [rng_mem]; omega
  have sought : ∀ u, (∃ q, Rp (leav E) 0 u q ∧ (valV kvs (.inl q)).isSome = true) ↔ LoopP E u := fun u => by
    constructor
    · rintro ⟨q, h1, h2⟩
      exact ⟨q, h1, ((mem q).1 ((hk2 q).1 h2)).2⟩
    · rintro ⟨q, h1, h2⟩
      have rg : ∀ {u : List Str} {q : Int}, Rp (leav E) 0 u q → 0 ≤ q ∧ q < n := fun h => by
        cases h with
        | st => omega
        | tau _ e => exact ⟨(ok _ (leav_mem.1 e)).2.2.1, (ok _ (leav_mem.1 e)).2.2.2.1⟩
        | vis _ e _ => exact ⟨(ok _ (leav_mem.1 e)).2.2.1, (ok _ (leav_mem.1 e)).2.2.2.1⟩
      exact ⟨q, h1, (hk2 q).2 ((mem q).2 ⟨rg h1, h2⟩)⟩
  refine ⟨.int 0, f1, f2, 0, rng n.toNat, leav E, fun q => (valV kvs (.inl q)).isSome, VC.lamLk f1 _ lo1B ["system"] [some (.ref p)], VC.lamLk f2 _ lo2B ["looping"] [some (.ref D)], spI1 K C p φ n E, spI2 D fun q => (valV kvs (.inl q)).isSome, rfl, rfl, (rm 0).2 ⟨Int.le_refl _, n1⟩, fun q hq e he => ?_, by rw [rng_len]; omega, fun q => Nat.le_trans (leav_lenM _ _) lE,
    c_I1 ⟨_, _, c1, rfl⟩ c_System_leaving, fun H' s' => stay s' ⟨hf14, hc14, LS1⟩, fun pl v H' Q' hU s' hv k => ?_, c_I2 ⟨_, _, c2, rfl⟩, fun H' s' => stay s' ⟨hf24, hc24, LS2⟩, fun pl v H' Q' hU s' hv k => ?_, fun H' s' h => ?_, fun u q H' s' hq h => ?_⟩
  · obtain ⟨a, e2⟩ := e
    have := ok _ (leav_mem.1 he)
    exact (rm _).2 ⟨this.2.2.1, this.2.2.2.1⟩
  · have hv : v = .int pl := hv
    subst hv
    obtain ⟨r1, r2⟩ := (rm _).1 hU
    refine ⟨pl, rfl, SA4.same s', r1, r2, fun q LP H'' sm nq hq hP e => k q (LP.map fun x => (x.1, (x.2.1, (V.int x.2.2, x.2.2)))) H'' sm nq ?_ (fun x hx => ?_) ?_⟩
    · rw [hq]
      unfold refs
      rw [List.map_map] <;> rfl
    · obtain ⟨y, hy, rfl⟩ := List.mem_map.mp hx
      exact ⟨hP y hy, rfl⟩
    · rw [← e]
      unfold mvR
      rw [List.map_map, List.map_map] <;> rfl
  · have hv : v = .int pl := hv
    subst hv
    exact ⟨pl, kvs, rfl, s' _ _ hD4, rfl, k⟩
  · have so := open_same lk s'
    exact qn _ (eN.trans (ExtN.of so)) (T3.ext so) fun u hu => by
      obtain ⟨pl, hp, r⟩ := (sought u).2 hu
      exact h u pl hp r
  · have so := open_same lk s'
    exact qt u q _ (eN.trans (ExtN.of so)) (T3.ext so) (sqT_openM (locked_sameM L4 s') hq) (Lst.p sought h)
end
end MG
end LW

set_option Elab.async false
set_option linter.all false
set_option maxRecDepth 100000
set_option maxHeartbeats 4000000
namespace LW
open PySem PySem.Spec PyProof.Rows L2 LamX NdefX VB VM VP VE VX VQ VZ VD VF VJ
theorem sc_law : FnScope ["script", "pool", "turn", "count", "edges", "system", "lost", "rows", "stuck", "row", "looping", "state", "trace", "place", "k", "due", "can", "short", "first"] ["script"] (defScope s_law) := ⟨rfl, rfl, rfl, by decide +kernel, rfl, by decide +kernel, by decide +kernel⟩
namespace MG
section
variable {P : Program} {w : World} {K : PySem.W.Frag} {mg : Str → Option Value} {base : Heap}
/-- traces are compared as they are ordered -/
def tkD (u : List Str) : PyData := .tuple [.int (u.length : Nat), rowD u]
theorem tk_lt (u v : List Str) : PySem.W.dataLt (tkD u) (tkD v) = true ↔ tlt u v := by
  have i : ∀ (a b : Int), PySem.W.alike (.int a) (.int b) = true := fun a b => rfl
  have n : ∀ {a b : Nat}, ((a : Int) < (b : Int)) ↔ a < b := by omega
  have n2 : ∀ {a b : Nat}, ((a : Int) = (b : Int)) ↔ a = b := by omega
  have r : ∀ {a b : List Str}, PySem.W.dataLt (rowD a) (rowD b) = true ↔ ltR a b := Iff.rfl
  unfold tkD tlt
  rw [lex_tup (i _ _), int_eqv, lex_tup (row_alike _ _), row_eqv, tup_nil, int_lt]
  simp only [decide_eq_true_eq]
  by_cases h1 : u.length = v.length
  · rw [if_pos (n2.2 h1)]
    by_cases h2 : u = v
    · subst h2
      rw [if_pos rfl]
      constructor
      · intro z; cases z
      · rintro (z | ⟨_, z⟩)
        · exact absurd z (Nat.lt_irrefl _)
        · exact absurd z (ltR_irrefl _)
    · rw [if_neg h2, r]
      exact ⟨fun z => .inr ⟨h1, z⟩, fun z => z.elim (fun z => by omega) fun z => z.2⟩
  · rw [if_neg (fun z => h1 (n2.1 z)), decide_eq_true_eq, n]
    exact ⟨.inl, fun z => z.resolve_right fun z => h1 z.1⟩
theorem tk_alike (u v : List Str) : PySem.W.alike (tkD u) (tkD v) = true := by
  unfold tkD
  simp only [PySem.W.alike, PySem.W.alikeAll, row_alike, Bool.and_true]
theorem tabs_butM {T : List (Addr × Str)} {H H' : Hp} {p : Addr} {ys : List V} (t : Tabs T H) (b : But p H H') (hp : H p = some (.lst ys)) : Tabs T H' := fun q hq => by
  obtain ⟨ps, h1, h2, h3⟩ := t q hq
  refine ⟨ps, b _ _ (fun z => by rw [z, hp] at h1; cases h1) h1, h2, fun pos cv hc => ?_⟩
  obtain ⟨c, e1, e2⟩ := h3 pos cv hc
  exact ⟨c, e1, b _ _ (fun z => by rw [z, hp] at e2; cases e2) e2⟩
theorem pool_enM {H H' : Hp} {a d : Addr} {i : Int} (p : PoolAt H a d i) (e : ExtN H H') : PoolAt H' a d i := by
  obtain ⟨ns, n, h1, h2, r⟩ := p
  exact ⟨ns, n, e _ _ h1 (fun _ z => nomatch z), e _ _ h2 (fun _ z => nomatch z), r⟩
theorem sq_enM {H H' : Hp} {a : Addr} {xs : List V} (h : SqL K H a xs) (e : ExtN H H') : SqL K H' a xs := by
  rcases h with (h | ⟨o, h⟩) | h
  · exact .inl (.inl (e _ _ h fun _ z => by cases z))
  · exact .inl (.inr ⟨o, e _ _ h fun _ z => by cases z⟩)
  · exact .inr h
/-- what stands while a turn of the law goes on; H0: the heap at its start -/
structure Tj (K : PySem.W.Frag) (C : Addr) (T : List (Addr × Str)) (H0 : Hp) (pa pd : Addr) (k : Int) (φ : Addr → Prop) (x : Addr) (n : Int) (E : List Ed) (p4 : Addr) (LD : List (Addr × Ed)) (H : Hp) : Prop where
  ex : ExtN H0 H
  pool : PoolAt H pa pd k
  sys : SysAt K φ C H x n E
  hl : H p4 = some (.lst (refs LD))
  hE : Eds K H LD
  tb : Tabs T H
section
variable {C : Addr} {T : List (Addr × Str)} {H0 : Hp} {pa pd : Addr} {k : Int} {φ : Addr → Prop} {x : Addr} {n : Int} {E : List Ed} {p4 : Addr} {LD : List (Addr × Ed)} {H H' : Hp}
theorem Tj.ext (W : Tj K C T H0 pa pd k φ x n E p4 LD H) (e : ExtN H H') (t : Tabs T H') : Tj K C T H0 pa pd k φ x n E p4 LD H' :=
  ⟨W.ex.trans e, pool_enM W.pool e, SysAt.extM W.sys e, e _ _ W.hl (fun _ z => nomatch z), W.hE.kp (Kp.ofExtN e), t⟩
theorem Tj.same (W : Tj K C T H0 pa pd k φ x n E p4 LD H) (s : Same H H') : Tj K C T H0 pa pd k φ x n E p4 LD H' := W.ext (ExtN.of s) (W.tb.ext s)
theorem Tj.pick (W : Tj K C T H0 pa pd k φ x n E p4 LD H) (b : But pa H H') {k' : Int} (p : PoolAt H' pa pd k') (np : H0 pa = none) (nf : ¬ φ pa) (nl : p4 ≠ pa) : Tj K C T H0 pa pd k' φ x n E p4 LD H' := by
  have P := W.pool
  obtain ⟨ns, _, hp, _⟩ := P
  exact ⟨fun c o e n => b c o (ne_of_none e np) (W.ex c o e n), p, sys_but W.sys b hp nf, b _ _ nl W.hl, W.hE.kp (Kp.ofBut b hp), tabs_butM W.tb b hp⟩
end
/-- a row of the law's search after which the system gets stuck -/
def stB (E : List Ed) (r : Lr) : Bool := decide (lastT r.tr = false ∧ ∃ s ∈ r.c, leav E s = [])
def loB (lo : List Int) (r : Lr) : Bool := decide (∃ s ∈ r.c, s ∈ lo)
theorem rows_shaped {u : List Str} (h : ∀ a ∈ u, PyData.strOk a = true) : SeqAt.shaped (rowD u) = true := by
  have a := strs_canW h
  have b := strs_depW u
  unfold SeqAt.shaped rowD
  rw [PyData.canLay0, a, Bool.true_and, decide_eq_true_eq]
  unfold PyData.depth
  omega
theorem row_slim (u : List Str) (h : u.length ≤ 100000) : slimD 100000 (rowD u) = true := by
  unfold rowD
  simp only [slimD, List.length_map, strs_slim, Bool.and_true, decide_eq_true_eq]
  omega
theorem row_nil (u : List Str) : PyData.eqv (rowD u) (.tuple []) = decide (u = []) := by
  cases u with
  | nil => rfl
  | cons x xs => simp [rowD, PyData.eqv, PyData.eqvAll]
theorem st_val {E : List Ed} {u : List Str} {c : List Int} {bo : Bool} (h : bo = true ↔ ∃ s ∈ c, leav E s = []) : (bo && !lastT u) = decide (lastT u = false ∧ ∃ s ∈ c, leav E s = []) := by
  cases e : lastT u with
  | true => rw [Bool.not_true, Bool.and_false]; exact (decide_eq_false fun z => nomatch z.1).symm
  | false =>
    rw [Bool.not_false, Bool.and_true]
    cases bo with
    | true => exact (decide_eq_true ⟨rfl, h.1 rfl⟩).symm
    | false => exact (decide_eq_false fun z => nomatch h.2 z.2).symm
theorem stuck_first {E : List Ed} {c0 : List Int} (h0 : IsClo E [0] c0) {R : List Lr} (I : QInv (mvL E) (c0, false) (xlR R) (xlR R).length fun _ => False) {i : Nat} {r : Lr} (hr : R[i]? = some r) (A : LP → Prop) {B : List Str → Prop} (eq : ∀ u, (∃ p, Rp (mvL E) (c0, false) u p ∧ A p) ↔ B u) {bs : List Bool} {f : Lr → Bool} (ebs : bs = R.map f) (hf : ∀ r, f r = true ↔ A (lpR r)) (hi : bs[i]? = some true) (hb : ∀ j : Nat, j < i → bs[j]? = some false) : LstP B r.tr := by
  refine Lst.p eq (first_ I (xlR_at hr) (fun j y hy l p hp => ?_) ⟨lpR r, List.mem_singleton.mpr rfl, ?_⟩)
  · unfold xlR at hy
    rw [List.getElem?_map] at hy
    obtain ⟨r', hr', rfl⟩ := Option.map_eq_some_iff.mp hy
    rw [List.mem_singleton.mp hp]
    intro a
    have z := hb j l
    rw [ebs, List.getElem?_map, hr'] at z
    have z : f r' = false := Option.some.inj z
    rw [(hf r').2 a] at z
    cases z
  · rw [ebs, List.getElem?_map, hr] at hi
    exact (hf r).1 (Option.some.inj hi)
theorem stuck_none {E : List Ed} {c0 : List Int} {R : List Lr} (I : QInv (mvL E) (c0, false) (xlR R) (xlR R).length fun _ => False) (A : LP → Prop) {B : List Str → Prop} (eq : ∀ u, (∃ p, Rp (mvL E) (c0, false) u p ∧ A p) ↔ B u) {bs : List Bool} {f : Lr → Bool} (ebs : bs = R.map f) (hf : ∀ r, f r = true ↔ A (lpR r)) (hb : ∀ x ∈ bs, x = false) : ∀ u, ¬ B u := fun u hu => by
  obtain ⟨p, hp, a⟩ := (eq u).2 hu
  obtain ⟨y, hy, h1, _⟩ := full_ I hp
  obtain ⟨r, hr, rfl⟩ := List.mem_map.mp hy
  rw [List.mem_singleton.mp h1] at a
  have z := hb (f r) (by rw [ebs]; exact List.mem_map_of_mem hr)
  rw [(hf r).2 a] at z
  cases z
theorem due_of {σ : L2.St} {H : Hp} {Q : VK} {p4 ta pj : Addr} {LD : List (Addr × Ed)} {E : List Ed} {tr : List Str} {ci : List Int} (h4 : σ[4]? = some (some (.ref p4))) (h13 : σ[13]? = some (some (.ref pj))) (h12 : σ[12]? = some (some (.ref ta))) (hl : H p4 = some (.lst (refs LD))) (hE : Eds K H LD) (len : LD.length ≤ 1000) (hac : ∀ p ∈ LD, p.2.2.1 ∈ acts) (eLD : LD.map (·.2) = E)
    (hpj : SqT K H pj (ci.map V.int)) (lci : ci.length ≤ 1000) (hta : SqT K H ta (tr.map V.str)) (sok : ∀ a ∈ tr, PyData.strOk a = true) (q : ∀ H', Same H H' → Q (.bl (decide (lastT tr = false ∧ ∃ s ∈ ci, leav E s = []))) H') :
    tAndV (tCall (spDead K) [] C8.E0 (tCons (tVar 4) (tCons (tVar 13) tNil))) (tOrV (tOp (rEqD K) (tVar 12) (tTup tNil)) (tOp rNe (tOp (rIxT K) (tVar 12) (tUn (rU fun i => V.int (-i)) (tC (V.int 1)))) (tC (V.str ("tick" : Str))))) σ H Q := by
  refine ⟨_, h4, _, h13, p4, pj, LD, ci, rfl, SqL.of hl, hE, len, hac, hpj, lci, fun bo H9 s9 hbo => ⟨bo, rfl, ?_⟩⟩
  rw [eLD] at hbo
  have val := st_val (u := tr) hbo
  refine VUt.ite2b (fun cb => ?_) (fun cb => ?_)
  · rw [cb, Bool.true_and] at val
    refine ⟨_, h12, Nat.zero_le _, fun z nz => ?_⟩
    have w := same_upd nz (.tup [])
    have hz : upd H9 z (.tup []) z = some (.tup []) := upd_same
    generalize upd H9 z (.tup []) = H10 at w hz ⊢
    have hta2 := VB.Same.sqT (s9.trans w) hta
    refine ⟨rowD tr, .tuple [], rowD_dp hta2, .tup (.inl (.inl hz)) .nil, rows_shaped sok, rfl, _, rfl, ?_⟩
    rw [row_nil]
    refine VUt.ite2b (fun ce => ?_) (fun ce => ?_)
    · have e : tr = [] := of_decide_eq_true ce
      have z := q H10 (s9.trans w)
      rw [← val, e] at z
      exact z
    · have ne : tr ≠ [] := of_decide_eq_false ce
      rcases List.eq_nil_or_concat tr with e | ⟨u, y, e⟩
      · exact absurd e ne
      · rw [List.concat_eq_append] at e
        rw [e, List.map_append, List.map_singleton] at hta2
        refine ⟨_, h12, _, rfl, ta, _, _, _, rfl, rfl, hta2, atI_last _ _, rfl, ?_⟩
        have ed : decide (V.str y = V.str ("tick" : Str)) = decide (y = ("tick" : Str)) := decide_eq_decide.mpr ⟨fun h => by injection h, fun h => by rw [h]⟩
        rw [ed]
        have e2 := lastT_snoc u y
        rw [← e] at e2
        have z := q H10 (s9.trans w)
        rw [← val, e2] at z
        exact z
  · rw [cb, Bool.false_and] at val
    have z := q H9 s9
    rw [← val] at z
    exact z
/-- a system gets stuck after a trace, by the set behind it -/
theorem stuck_set {E : List Ed} {c0 : List Int} (h0 : IsClo E [0] c0) {tr : List Str} {ci : List Int} (r : Runs E c0 tr ci) (nt : ∀ a ∈ tr, a ≠ ("tau" : Str)) : StuckP E tr ↔ (lastT tr = false ∧ ∃ s ∈ ci, leav E s = []) := by
  have mem := rp_runs (u := tr.reverse) h0 (by rw [List.reverse_reverse]; exact r) fun x hx => nt x (List.mem_reverse.mp hx)
  rw [List.reverse_reverse] at mem
  unfold StuckP
  constructor
  · rintro ⟨h1, s, h2, h3⟩
    exact ⟨h1, s, (mem s).2 h2, h3⟩
  · rintro ⟨h1, s, h2, h3⟩
    exact ⟨h1, s, (mem s).1 h2, h3⟩
theorem lvl_nt (E : List Ed) (c0 : List Int) : ∀ (k : Nat), ∀ r ∈ lvl E c0 k, ∀ a ∈ r.1, a ≠ ("tau" : Str)
  | 0, r, hr, a, ha => by
    rw [List.mem_singleton.mp hr] at ha
    cases ha
  | k + 1, r, hr, a, ha => by
    obtain ⟨r0, h0, h1⟩ := List.mem_flatMap.mp (show r ∈ stepL E (lvl E c0 k) from hr)
    obtain ⟨y, hy, rfl⟩ := List.mem_map.mp h1
    rcases List.mem_append.mp ha with z | z
    · exact lvl_nt E c0 k r0 h0 a z
    · rw [List.mem_singleton.mp z]
      exact (actsC_mem.1 hy).1
theorem conc_nt (E : List Ed) (c0 : List Int) : ∀ (k : Nat), ∀ u ∈ conc E c0 k, ∀ a ∈ u, a ≠ ("tau" : Str)
  | 0, u, hu, a, ha => by
    rw [List.mem_singleton.mp hu] at ha
    cases ha
  | k + 1, u, hu, a, ha => by
    rcases List.mem_append.mp (show u ∈ conc E c0 k ++ (lvl E c0 (k + 1)).map (·.1) from hu) with z | z
    · exact conc_nt E c0 k u z a ha
    · obtain ⟨r, hr, rfl⟩ := List.mem_map.mp z
      exact lvl_nt E c0 (k + 1) r hr a ha
def spLaw (K : PySem.W.Frag) (T : List (Addr × Str)) : Sp := fun vs H Q _ => ∃ (a : Addr) (ns : List Int), vs = [.ref a] ∧ SqL K H a (ns.map V.int) ∧ Tabs T H ∧ ∀ H', Q (.bl true) H'
theorem f_law {T : List (Addr × Str)} {C CS CB f : Addr} {fd : FuncData} (F : FnP K "law" s_law f fd) (TX : SysTxt K C) (z_range : mg "range" = none) (z_sorted : mg "sorted" = none) (z_len : mg "len" = none)
    (c__law_pool : C8.Cal P w K mg base 2 "_law_pool" (spPool K) []) (c__law_pick : C8.Cal P w K mg base 1 "_law_pick" spPick []) (c__law_system : C8.Cal P w K mg base 2 "_law_system" (spSys K) []) (c__law_cell : C8.Cal P w K mg base 1 "_law_cell" (spCell K) [])
    (c__law_once : C8.Cal P w K mg base 1 "_law_once" (spOnceE K) []) (c__law_like : C8.Cal P w K mg base 4 "_law_like" (spLike K 4) []) (c__law_closed : C8.Cal P w K mg base 1 "_law_closed" (spCls K) []) (c__law_after : C8.Cal P w K mg base 2 "_law_after" (spAftL K) [])
    (c__law_actions : C8.Cal P w K mg base 2 "_law_actions" (spActL K) []) (c__law_lost : C8.Cal P w K mg base 1 "_law_lost" (spLost K) []) (c__law_places : C8.Cal P w K mg base 3 "_law_places" (spPlc K) []) (c__law_is_dead : C8.Cal P w K mg base 1 "_law_is_dead" (spDead K) [])
    (c__law_first : C8.Cal P w K mg base 1 "_law_first" (spFirst K) []) (c__law_traces : C8.Cal P w K mg base 3 "_law_traces" (spLTr K) []) (c_stuck_trace : C8.Cal P w K mg base 7 "stuck_trace" (spStk K C T) []) (c_looping_trace : C8.Cal P w K mg base 7 "looping_trace" (spLoo K C T) [])
    (c_is_stuck_after : C8.Cal P w K mg base 6 "is_stuck_after" (spIsS K C) []) (c_System : C8.Mak P w K mg base 5 "System" C (calm (spInitX K C CS)) []) :
    FnOk P w K mg base CX0 14 f fd ["script"] (spLaw K T) := by
  refine VKV.ok0 F sc_law (fun vs H Q E h => ?_) (fun cdv A outer s0 H vs Q E0 hr h => ?_)
  · obtain ⟨a, ns, rfl, _⟩ := h
    rfl
  obtain ⟨sa, ns, rfl, hS, hT, q⟩ := h
  refine ⟨_, (pss_cons (ps_set (i := 1) sc_law.nd rfl (Or.inl rfl) (C8.pe_c c__law_pool hr (by first | decide | omega) rfl (pa_cons (pv 0) pa_nil)))
    (pss_cons (ps_for PassesOwn.never rfl (pi_range1 rfl z_range (pa_cons pe_int pa_nil)) (pg_name (i := 2) sc_law.nd rfl (Or.inl rfl))
      (pss_cons (ps_asg (C8.pe_c c__law_system hr (by first | decide | omega) rfl (pa_cons (C8.pe_c c__law_cell hr (by first | decide | omega) rfl (pa_cons (pv 0) (pa_cons (pv 2) pa_nil))) (pa_cons pe_int pa_nil))) (pg_tup rfl (pgs_cons (pg_name (i := 3) sc_law.nd rfl (Or.inl rfl)) (pgs_cons (pg_name (i := 4) sc_law.nd rfl (Or.inr rfl)) pgs_nil))))
      (pss_cons (ps_set (i := 4) sc_law.nd rfl (Or.inr rfl) (pe_callB (VP.sortedE (K := K) rfl hr) (by rfl) z_sorted (by decide +kernel) (pa_cons (C8.pe_c c__law_once hr (by first | decide | omega) rfl (pa_cons (pv 4) pa_nil)) pa_nil)))
      (pss_cons (ps_set (i := 5) sc_law.nd rfl (Or.inl rfl) (C8.pe_mk c_System hr (by first | decide | omega) rfl (pa_cons (pv 3) (pa_cons (pv 4) pa_nil))))
      (pss_cons (ps_set (i := 6) sc_law.nd rfl (Or.inr rfl) (C8.pe_c c__law_lost hr (by first | decide | omega) rfl (pa_cons (pv 3) (pa_cons (pv 4) pa_nil))))
      (pss_cons (ps_set (i := 7) sc_law.nd rfl (Or.inl rfl) (C8.pe_c c__law_places hr (by first | decide | omega) rfl (pa_cons (pv 4) (pa_cons pe_int pa_nil))))
      (pss_cons (ps_setLc (i := 8) (own := [("row", 9)]) (tt := tYes) rfl sc_law.nd rfl rfl (sw_true rfl rfl rfl (by decide +kernel)) (pi_list (pv 7)) (blkOk_by (N := ["script", "pool", "turn", "count", "edges", "system", "lost", "rows", "stuck", "row", "looping", "state", "trace", "place", "k", "due", "can", "short", "first"]) (sc := defScope s_law) (by decide +kernel)) (fun _ _ _ _ _ => (pg_name (i := 9) sc_law.nd rfl (Or.inl rfl) (hf := Or.inr rfl))) (fun _ _ _ _ _ => pts_nil) (fun _ _ _ _ _ => (pe_and (C8.pe_c c__law_is_dead hr (by first | decide | omega) rfl (pa_cons (pv 4) (pa_cons (pe_ix (VK.ixT (K := K) rfl) (pv 9) pe_int (fun _ _ => rfl)) pa_nil))) (pe_one (pe_or (pe_cmpR (VK.eqD (K := K) rfl hr.units) (pe_ix (VK.ixT (K := K) rfl) (pv 9) pe_int (fun _ _ => rfl)) (pe_tup pa_nil) (nomark _)) (pe_one (pe_cmpR op_ne (pe_ix (VK.ixT (K := K) rfl) (pe_ix (VK.ixT (K := K) rfl) (pv 9) pe_int (fun _ _ => rfl)) (pe_un un_neg pe_int) (fun _ _ => rfl)) pe_str (nomark _))))))))
      (pss_cons (ps_setLc (i := 10) (own := [("row", 9)]) (tt := tYes) rfl sc_law.nd rfl rfl (sw_true rfl rfl rfl (by decide +kernel)) (pi_list (pv 7)) (blkOk_by (N := ["script", "pool", "turn", "count", "edges", "system", "lost", "rows", "stuck", "row", "looping", "state", "trace", "place", "k", "due", "can", "short", "first"]) (sc := defScope s_law) (by decide +kernel)) (fun _ _ _ _ _ => (pg_name (i := 9) sc_law.nd rfl (Or.inl rfl) (hf := Or.inr rfl))) (fun _ _ _ _ _ => pts_nil) (fun _ _ _ _ _ => (pe_cmpR (VK.neD (K := K) rfl hr.units) (pe_lc (own := [("state", 11)]) rfl sc_law.nd (VD.piT (K := K) rfl (pe_ix (VK.ixT (K := K) rfl) (pv 9) pe_int (fun _ _ => rfl))) (blkOk_by (N := ["script", "pool", "turn", "count", "edges", "system", "lost", "rows", "stuck", "row", "looping", "state", "trace", "place", "k", "due", "can", "short", "first"]) (by rfl)) (fun _ _ _ _ _ => (pg_name (i := 11) sc_law.nd rfl (Or.inl rfl) (hf := Or.inr rfl))) (fun _ _ _ _ _ => (pts_one (pt_cmpR (VK.inQ (K := K) rfl) (pv 11) (pv 6) rfl))) (fun _ _ _ _ _ => (pv 11))) (pe_lst pa_nil) (nomark _))))
      (pss_cons (ps_if (pt_not (pt_val (C8.pe_c c__law_like hr (by first | decide | omega) rfl (pa_cons (C8.pe_c c_stuck_trace hr (by first | decide | omega) rfl (pa_cons (pv 5) pa_nil)) (pa_cons (C8.pe_c c__law_first hr (by first | decide | omega) rfl (pa_cons (pv 7) (pa_cons (pv 8) pa_nil))) pa_nil)))))
        (pss_one (ps_ret pe_bl))
        pss_nil)
      (pss_cons (ps_if (pt_not (pt_val (C8.pe_c c__law_like hr (by first | decide | omega) rfl (pa_cons (C8.pe_c c_looping_trace hr (by first | decide | omega) rfl (pa_cons (pv 5) pa_nil)) (pa_cons (C8.pe_c c__law_first hr (by first | decide | omega) rfl (pa_cons (pv 7) (pa_cons (pv 10) pa_nil))) pa_nil)))))
        (pss_one (ps_ret pe_bl))
        pss_nil)
      (pss_cons (ps_set (i := 12) sc_law.nd rfl (Or.inl rfl) (pe_tup pa_nil))
      (pss_cons (ps_set (i := 13) sc_law.nd rfl (Or.inl rfl) (C8.pe_c c__law_closed hr (by first | decide | omega) rfl (pa_cons (pv 4) (pa_cons (pe_lst (pa_cons pe_int pa_nil)) pa_nil))))
      (pss_cons (ps_for PassesOwn.never rfl (pi_range1 rfl z_range (pa_cons (C8.pe_c c__law_pick hr (by first | decide | omega) rfl (pa_cons (pv 1) (pa_cons pe_int pa_nil))) pa_nil)) (pg_name (i := 14) sc_law.nd rfl (Or.inl rfl))
        (pss_cons (ps_set (i := 15) sc_law.nd rfl (Or.inl rfl) (pe_and (C8.pe_c c__law_is_dead hr (by first | decide | omega) rfl (pa_cons (pv 4) (pa_cons (pv 13) pa_nil))) (pe_one (pe_or (pe_cmpR (VK.eqD (K := K) rfl hr.units) (pv 12) (pe_tup pa_nil) (nomark _)) (pe_one (pe_cmpR op_ne (pe_ix (VK.ixT (K := K) rfl) (pv 12) (pe_un un_neg pe_int) (fun _ _ => rfl)) pe_str (nomark _)))))))
        (pss_cons (ps_if (pt_not (pt_val (C8.pe_c c__law_like hr (by first | decide | omega) rfl (pa_cons (C8.pe_c c_is_stuck_after hr (by first | decide | omega) rfl (pa_cons (pv 5) (pa_cons (pv 12) pa_nil))) (pa_cons (pv 15) pa_nil)))))
          (pss_one (ps_ret pe_bl))
          pss_nil)
        (pss_cons (ps_set (i := 16) sc_law.nd rfl (Or.inl rfl) (pe_op op_cat (C8.pe_c c__law_actions hr (by first | decide | omega) rfl (pa_cons (pv 4) (pa_cons (pv 13) pa_nil))) (pe_lst (pa_cons pe_str pa_nil))))
        (pss_cons (ps_set (i := 12) sc_law.nd rfl (Or.inl rfl) (pe_op (VZ.catA (K := K) rfl) (pv 12) (pe_tup (pa_cons (pe_ix (VK.ixL (K := K) rfl) (pv 16) (C8.pe_c c__law_pick hr (by first | decide | omega) rfl (pa_cons (pv 1) (pa_cons (pe_callB (VK.lenQ (K := K) rfl) (by rfl) z_len PySem.boot_len (pa_cons (pv 16) pa_nil)) pa_nil))) (fun _ _ => rfl)) pa_nil))))
        (pss_one (ps_set (i := 13) sc_law.nd rfl (Or.inl rfl) (C8.pe_c c__law_after hr (by first | decide | omega) rfl (pa_cons (pv 4) (pa_cons (pv 13) (pa_cons (pe_ix (VK.ixT (K := K) rfl) (pv 12) (pe_un un_neg pe_int) (fun _ _ => rfl)) pa_nil)))))))))))
      (pss_cons (ps_set (i := 17) sc_law.nd rfl (Or.inl rfl) (C8.pe_c c__law_traces hr (by first | decide | omega) rfl (pa_cons (pv 4) (pa_cons pe_int (pa_cons pe_int pa_nil)))))
      (pss_cons (ps_set (i := 18) sc_law.nd rfl (Or.inl rfl) (C8.pe_c c_stuck_trace hr (by first | decide | omega) rfl (pa_cons (pv 5) pa_nil)))
      (pss_one (ps_for PassesOwn.never rfl (pi_list (pv 17)) (pg_name (i := 12) sc_law.nd rfl (Or.inl rfl))
        (pss_one (ps_if (PW.pt (pw_or (pt_cmpR op_isN (pv 18) pe_non (nomark _)) (pw_or1 (pt_cmpR (VR.ltD (K := K) rfl (VP.un65 hr)) (pe_tup (pa_cons (pe_callB (VK.lenQ (K := K) rfl) (by rfl) z_len PySem.boot_len (pa_cons (pv 12) pa_nil)) (pa_cons (pv 12) pa_nil))) (pe_tup (pa_cons (pe_callB (VK.lenQ (K := K) rfl) (by rfl) z_len PySem.boot_len (pa_cons (pv 18) pa_nil)) (pa_cons (pv 18) pa_nil))) (nomark _)))))
          (pss_one (ps_if (pt_val (C8.pe_c c_is_stuck_after hr (by first | decide | omega) rfl (pa_cons (pv 5) (pa_cons (pv 12) pa_nil))))
            (pss_one (ps_ret pe_bl))
            pss_nil))
          pss_nil)))))))))))))))))))
    (pss_one (ps_ret pe_bl)))), ?_⟩
  have zl := sizeLine_eq
  refine ⟨_, rfl, sa, ns, rfl, hS, fun pa pd H0 sH0 npa hpool => nmS ?_⟩
  refine ⟨3, rfl, by decide, by decide, for_range (lo := 0) (n := 3)
    (fun i σ H' => ExtN H H' ∧ Tabs T H' ∧ (∃ k : Int, k ≤ 20 * (i : Nat) ∧ PoolAt H' pa pd k) ∧ ∃ (r2 r3 r4 r5 r6 r7 r8 r9 r10 r11 r12 r13 r14 r15 r16 r17 r18 : Option V), σ = [some (.ref sa), some (.ref pa), r2, r3, r4, r5, r6, r7, r8, r9, r10, r11, r12, r13, r14, r15, r16, r17, r18])
    ⟨ExtN.of sH0, hT.ext sH0, ⟨0, by decide, hpool⟩, none, none, none, none, none, none, none, none, none, none, none, none, none, none, none, none, none, rfl⟩ ?_ ?_⟩
  · rintro i σ H1 hi ⟨eH1, tb1, ⟨k, ek, pool1⟩, r2, r3, r4, r5, r6, r7, r8, r9, r10, r11, r12, r13, r14, r15, r16, r17, r18, rfl⟩
    refine ⟨_, rfl, _, rfl, sa, ns, _, rfl, sq_enM hS eH1, by omega, fun r r0 => ?_⟩
    refine ⟨r, 5, rfl, by decide, by decide, fun t l n L H2 s2 ht hl hE n1 n2 len ok => ?_⟩
    refine ⟨t, _, rfl, .inl (.inl ht), rfl, .int n, _, rfl, .ref l, _, rfl, rfl, ?_⟩
    refine ⟨_, rfl, l, L, rfl, SqL.of hl, hE, by omega, fun y hy => (ok y hy).2.2.2.2, fun p3 L3 np3 sub3 eL3 => ?_⟩
    have s8 := same_upd np3 (.lst (refs L3))
    have hE8 : Eds K (upd H2 p3 (.lst (refs L3))) L3 := fun y hy => (hE.kp (Kp.of s8)) y (sub3 y hy)
    refine ⟨p3, L3, rfl, SqL.of upd_same, fun y hy => edDp (hE8 y hy), alikeE L3, sortableE L3, fun y _ => depthE y, fun p4 np4 => nmS ?_⟩
    have s9 := same_upd np4 (.lst (refs (L3.mergeSort (PySem.W.dataLe false encE))))
    rw [show (L3.mergeSort (PySem.W.dataLe false encE)).map embE = refs (L3.mergeSort (PySem.W.dataLe false encE)) from rfl]
    obtain ⟨LD, hLD⟩ : ∃ LD, LD = L3.mergeSort (PySem.W.dataLe false encE) := ⟨_, rfl⟩
    have memLD : ∀ e, e ∈ LD.map (·.2) ↔ e ∈ L.map (·.2) := fun e => by rw [hLD, mem_srt, eL3, onceG_mem]; simp
    have ascLD : (LD.map (·.2)).Pairwise ltE := by rw [hLD]; exact srtE (by rw [eL3]; exact onceG_nodup _ _ List.nodup_nil)
    have inLD : ∀ y ∈ LD, y ∈ L := fun y hy => by rw [hLD] at hy; exact sub3 y (List.mem_mergeSort.mp hy)
    rw [← hLD] at s9 ⊢
    have hld : upd (upd H2 p3 (.lst (refs L3))) p4 (.lst (refs LD)) p4 = some (.lst (refs LD)) := upd_same
    have hED : Eds K (upd (upd H2 p3 (.lst (refs L3))) p4 (.lst (refs LD))) LD := fun y hy => (hE.kp (Kp.of (s8.trans s9))) y (inLD y hy)
    have s24 := s2.trans (s8.trans s9)
    have eH4 := eH1.trans (ExtN.of s24)
    have tb4 := tb1.ext s24
    have pool4 := pool1.but (b := pa) s24
    have lenLD : LD.length ≤ 15 := by
      have z := nd_le _ _ (List.nodup_iff_pairwise_ne.mpr (ascLD.imp fun h e => by rw [e] at h; exact ltE_irrefl _ h)) fun e he => (memLD e).1 he
      rw [List.length_map, List.length_map] at z
      omega
    generalize upd (upd H2 p3 (.lst (refs L3))) p4 (.lst (refs LD)) = H4 at hld hED eH4 tb4 pool4 ⊢
    clear s8 s9 hE8 np3 np4 sub3 eL3 hLD hl ht hE s2 s24 pool1 eH1 tb1
    refine ⟨_, rfl, _, rfl, fun x dx nx ndx nex => ?_⟩
    have s5 := sameIn (o := .ins C dx []) (same_upd ndx (.own x)) nx
    have okLD : ∀ y ∈ LD, okE n y.2 := fun y hy => ok y (inLD y hy)
    refine .inl ⟨x, dx, n, p4, LD, rfl, upd_same, s5.seq (SqL.of hld), hED.kp (Kp.of s5), n1, by omega, by omega, okLD, fun E H5 b5 SA mem => ⟨rfl, nmS ?_⟩⟩
    have s6 : Same H4 H5 := fun b o e => b5 b o (ne_of_none e nx) (s5 b o e)
    obtain ⟨φ, hφ⟩ : ∃ φ : Addr → Prop, φ = fun a => upd (upd H4 dx (.own x)) x (.ins C dx []) a = none := ⟨_, rfl⟩
    have nφ : ∀ b o, H4 b = some o → ¬ φ b := fun b o e z => by rw [hφ] at z; rw [s5 b o e] at z; cases z
    rw [← hφ] at SA
    have eLD : LD.map (·.2) = E := ascE ascLD SA.asc fun e => (mem e).symm
    have nφp : ¬ φ pa := by
      obtain ⟨ps, n1, h1, _⟩ := pool4
      exact nφ pa _ h1
    have T5 : Tj K C T H pa pd k φ x n E p4 LD H5 := ⟨eH4.trans (ExtN.of s6), pool4.but (b := pa) s6, SA, s6 _ _ hld, hED.kp (Kp.of s6), tb4.ext s6⟩
    have np4 : p4 ≠ pa := fun z => by
      obtain ⟨ps, n1, h1, _⟩ := T5.pool
      have h2 := T5.hl
      rw [z, h1] at h2
      injection h2 with h2
      injection h2 with h2
      have y : V.int k ∈ refs LD := by rw [← h2]; simp
      obtain ⟨_, _, y⟩ := List.mem_map.mp y
      cases y
    clear hφ nφ s5 b5 s6 nx ndx nex hld hED eH4 pool4 tb4 SA
    have lenE : E.length ≤ 1000 := by rw [← eLD, List.length_map]; omega
    have hac : ∀ p ∈ LD, p.2.2.1 ∈ acts := fun y hy => (okLD y hy).2.2.2.2
    refine ⟨_, rfl, _, rfl, n, p4, LD, rfl, SqL.of T5.hl, T5.hE, by omega, n1, by omega, okLD, fun lq H6 lo s6 hlq ascl meml => nmS ?_⟩
    rw [eLD] at meml
    have T6 := T5.same s6
    refine ⟨_, rfl, p4, LD, n, rfl, SqL.of T6.hl, T6.hE, by omega, okLD, n1, by omega, fun rq H7 c0 R s7 hrq hR hc0 I lR => nmS ?_⟩
    rw [eLD] at hc0 I
    have T7 := T6.same s7
    have hlq7 := s7 _ _ hlq
    clear T5 T6 s6 s7 hlq
    have lrk : ∀ r ∈ R, r.c.length ≤ 1000 := fun r hr => by
      obtain ⟨i, hi⟩ := List.getElem?_of_mem hr
      have rp := I.sound _ (List.mem_of_getElem? (xlR_at hi)) (lpR r) (List.mem_singleton.mpr rfl)
      obtain ⟨h1, h2⟩ := sets_rg (n := n) (fun e he => by
        rw [← eLD] at he
        obtain ⟨y, hy, rfl⟩ := List.mem_map.mp he
        exact okLD y hy) n1 hc0 rp
      have := few_of (ascI_nodup h1) h2
      show (lpR r).1.length ≤ 1000
      omega
    have ltr : ∀ r ∈ R, ∀ a ∈ r.tr, a ≠ ("tau" : Str) ∧ PyData.strOk a = true := fun r hr a ha => by
      obtain ⟨i, hi⟩ := List.getElem?_of_mem hr
      have rp := I.sound _ (List.mem_of_getElem? (xlR_at hi)) (lpR r) (List.mem_singleton.mpr rfl)
      refine ⟨rp_nt rp a ha, ?_⟩
      have k : ∀ {u : List Str} {p : LP}, Rp (mvL E) (c0, false) u p → ∀ a ∈ u, a ∈ acts := fun h => by
        induction h with
        | st => exact fun a ha => absurd ha List.not_mem_nil
        | tau _ _ ih => exact ih
        | vis _ e _ ih =>
          intro a ha
          rcases List.mem_append.mp ha with z | z
          · exact ih a z
          · rw [List.mem_singleton.mp z]
            have m := (actsC_mem.1 (mvL_mem.1 e).1).2
            obtain ⟨t, ts, et⟩ := List.exists_cons_of_ne_nil m
            obtain ⟨s, _, he⟩ := aft_mem.mp (show t ∈ _ by rw [et]; exact List.mem_cons_self)
            rw [← eLD] at he
            obtain ⟨y, hy, ey⟩ := List.mem_map.mp he
            have := hac y hy
            rw [ey] at this
            exact this
      exact (acts_ok _ (k rp a ha)).1
    have lqR : ∀ R : List Lr, (lqs R).length = R.length := fun R => List.length_map _
    -- stuck
    refine ⟨_, rfl, rq, rfl, ⟨_, SqL.of hrq⟩, fun D nD => ?_⟩
    refine lc_list (K := K) (a := rq) (xs := lqs R) (fun j H' => Same H7 H' ∧ H' D = some (.lst (((R.take j).map (stB E)).map V.bl))) ⟨same_upd nD _, upd_same⟩ (fun j H' _ z => z.1.seq (SqL.of hrq)) ?_ ?_
    · rintro j v H8 hv ⟨s8, hD⟩
      rw [List.getElem?_map] at hv
      obtain ⟨r, hr, rfl⟩ := Option.map_eq_some_iff.mp hv
      have rin := List.mem_of_getElem? hr
      have ltj := (List.getElem?_eq_some_iff.mp hr).1
      obtain ⟨g1, g2, g3⟩ := hR r rin
      have T8 := T7.same s8
      refine ⟨rfl, ?_⟩
      unfold tYes
      refine iteT ?_
      refine ⟨_, rfl, _, rfl, r.q, _, _, _, rfl, rfl, .inl (.inl (s8 _ _ g1)), rfl, p4, r.b, LD, r.c, rfl, SqL.of T8.hl, T8.hE, by omega, hac, .inl (.inl (s8 _ _ g3)), lrk r rin, fun bo H9 s9 hbo => ⟨bo, rfl, ?_⟩⟩
      rw [eLD] at hbo
      have s89 := s8.trans s9
      have fin : ∀ (b : Bool) (H' : Hp), Same H9 H' → b = stB E r → ∃ acc, H' D = some (.lst acc) ∧ acc.length < sizeLine ∧ Same H7 (upd H' D (.lst (acc ++ [V.bl b]))) ∧ upd H' D (.lst (acc ++ [V.bl b])) D = some (.lst (((R.take (j + 1)).map (stB E)).map V.bl)) := fun b H' s e => by
        have hD' := s _ _ (s9 _ _ hD)
        refine ⟨_, hD', ?_, sameIn (s89.trans s) nD, ?_⟩
        · rw [List.length_map, List.length_map, List.length_take]; omega
        · rw [upd_same, e, List.take_succ, hr, Option.toList_some, List.map_append, List.map_append] <;> rfl
      have val := st_val (u := r.tr) hbo
      refine VUt.ite2b (fun cb => ?_) (fun cb => ?_)
      · rw [cb, Bool.true_and] at val
        refine ⟨_, rfl, r.q, _, _, _, rfl, rfl, .inl (.inl (s89 _ _ g1)), rfl, Nat.zero_le _, fun z nz => ?_⟩
        have w := same_upd nz (.tup [])
        have hz : upd H9 z (.tup []) z = some (.tup []) := upd_same
        generalize upd H9 z (.tup []) = H10 at w hz ⊢
        refine ⟨rowD r.tr, .tuple [], rowD_dp (.inl (.inl (w _ _ (s89 _ _ g2)))), .tup (.inl (.inl hz)) .nil, rows_shaped fun a ha => (ltr r rin a ha).2, rfl, _, rfl, ?_⟩
        rw [row_nil]
        refine VUt.ite2b (fun ce => ?_) (fun ce => ?_)
        · have e : r.tr = [] := of_decide_eq_true ce
          exact fin true H10 w (by unfold stB; rw [e] at val ⊢; exact val)
        · have ne : r.tr ≠ [] := of_decide_eq_false ce
          rcases List.eq_nil_or_concat r.tr with e | ⟨u, y, e⟩
          · exact absurd e ne
          · rw [List.concat_eq_append] at e
            have g2' := w _ _ (s89 _ _ g2)
            rw [e, List.map_append, List.map_singleton] at g2'
            refine ⟨_, rfl, r.q, _, _, _, rfl, rfl, .inl (.inl (w _ _ (s89 _ _ g1))), rfl, _, rfl, r.a, _, _, _, rfl, rfl, .inl (.inl g2'), atI_last _ _, rfl, ?_⟩
            refine fin _ H10 w ?_
            have ed : decide (V.str y = V.str ("tick" : Str)) = decide (y = ("tick" : Str)) := decide_eq_decide.mpr ⟨fun h => by injection h, fun h => by rw [h]⟩
            rw [ed]
            have e2 := lastT_snoc u y
            rw [← e] at e2
            rw [e2] at val
            unfold stB
            rw [e2]
            exact val
      · rw [cb, Bool.false_and] at val
        exact fin false H9 (Same.refl _) val
    rintro H8 ⟨s8, hD⟩
    rw [lqR, List.take_length] at hD
    have T8 := T7.same s8
    have hrq8 := s8 _ _ hrq
    have hlq8 := s8 _ _ hlq7
    have hR8 : LrOk H8 R := hR.keep fun b xs h => s8 _ _ h
    clear T7 hR hrq hlq7 s8 nD
    refine nmS ?_
    -- looping
    refine ⟨_, rfl, rq, rfl, ⟨_, SqL.of hrq8⟩, fun D2 nD2 => ?_⟩
    refine lc_list (K := K) (a := rq) (xs := lqs R) (fun j H' => Same H8 H' ∧ H' D2 = some (.lst (((R.take j).map (loB lo)).map V.bl))) ⟨same_upd nD2 _, upd_same⟩ (fun j H' _ z => z.1.seq (SqL.of hrq8)) ?_ ?_
    · rintro j v H9 hv ⟨s9, hD2⟩
      rw [List.getElem?_map] at hv
      obtain ⟨r, hr, rfl⟩ := Option.map_eq_some_iff.mp hv
      have rin := List.mem_of_getElem? hr
      have ltj := (List.getElem?_eq_some_iff.mp hr).1
      obtain ⟨g1, g2, g3⟩ := hR8 r rin
      have lc := lrk r rin
      refine ⟨rfl, ?_⟩
      unfold tYes
      refine iteT ?_
      refine ⟨_, rfl, r.q, _, _, _, rfl, rfl, .inl (.inl (s9 _ _ g1)), rfl, r.b, rfl, ⟨_, .inl (.inl (s9 _ _ g3))⟩, fun D3 nD3 => ?_⟩
      refine lc_tup (K := K) (a := r.b) (xs := r.c.map V.int) (fun m H' => Same H9 H' ∧ H' D3 = some (.lst (((r.c.take m).filter fun s => decide (s ∈ lo)).map V.int))) ⟨same_upd nD3 _, upd_same⟩ (fun m H' _ z => VB.Same.sqT z.1 (.inl (.inl (s9 _ _ g3)))) ?_ ?_
      · rintro m v H10 hv2 ⟨s10, hD3⟩
        rw [List.getElem?_map] at hv2
        obtain ⟨s, hs, rfl⟩ := Option.map_eq_some_iff.mp hv2
        have ltm := (List.getElem?_eq_some_iff.mp hs).1
        have tk : r.c.take (m + 1) = r.c.take m ++ [s] := by rw [List.take_succ, hs] <;> rfl
        have lD3 : ((r.c.take m).filter fun s => decide (s ∈ lo)).length ≤ 1000 := Nat.le_trans (List.length_filter_le _ _) (by rw [List.length_take]; omega)
        refine ⟨rfl, ?_⟩
        refine ⟨_, rfl, _, rfl, lq, _, rfl, .inr (.inl (.inl ((s9.trans s10) _ _ hlq8))), rfl, flat_ints _, _, rfl, ?_⟩
        rw [inV_ints]
        refine iteIn (p := s ∈ lo) (fun h => ?_) (fun h => ?_)
        · refine ⟨_, rfl, _, hD3, by rw [List.length_map]; omega, sameIn s10 nD3, ?_⟩
          rw [upd_same, tk, List.filter_append, List.filter_cons_of_pos (by simpa using h), List.filter_nil, List.map_append] <;> rfl
        · refine ⟨s10, ?_⟩
          rw [hD3, tk, List.filter_append, List.filter_cons_of_neg (by simpa using h), List.filter_nil, List.append_nil]
      rintro H10 ⟨s10, hD3⟩
      rw [List.length_map, List.take_length] at hD3
      refine ⟨Nat.zero_le _, fun z nz => ?_⟩
      have w := same_upd nz (.lst [])
      have cv : ∀ l : List Int, PyData.eqv (.list (l.map PyData.int)) (.list []) = decide (l = []) := fun l => by
        cases l with
        | nil => rfl
        | cons x xs => simp [PyData.eqv, PyData.eqvAll]
      have di : ∀ {H : Hp} (ss : List Int), DpAll K H (ss.map V.int) (ss.map PyData.int) := fun ss => by
        induction ss with
        | nil => exact .nil
        | cons s ss ih => exact .cons (.int s) ih
      refine ⟨.list ((r.c.filter fun s => decide (s ∈ lo)).map PyData.int), .list [], .lst (w.seq (SqL.of hD3)) (di _), .lst (SqL.of upd_same) .nil, ints_shapedL _, rfl, ?_⟩
      rw [cv]
      have eb : (!decide ((r.c.filter fun s => decide (s ∈ lo)) = [])) = loB lo r := by
        unfold loB
        rw [← decide_not]
        refine decide_eq_decide.mpr ?_
        rw [List.filter_eq_nil_iff]
        constructor
        · intro h
          refine Classical.byContradiction fun n => h fun s hs z => n ⟨s, hs, of_decide_eq_true z⟩
        · rintro ⟨s, hs, h⟩ g
          exact g s hs (decide_eq_true h)
      rw [eb]
      have s910 := (s9.trans s10).trans w
      refine ⟨_, (s10.trans w) _ _ hD2, ?_, sameIn s910 nD2, ?_⟩
      · rw [List.length_map, List.length_map, List.length_take]; omega
      · rw [upd_same, List.take_succ, hr, Option.toList_some, List.map_append, List.map_append] <;> rfl
    rintro H9 ⟨s9, hD2⟩
    rw [lqR, List.take_length] at hD2
    have T9 := T8.same s9
    have hD9 := s9 _ _ hD
    have hrq9 := s9 _ _ hrq8
    have hR9 : LrOk H9 R := hR8.keep fun b xs h => s9 _ _ h
    clear T8 hR8 hrq8 hD hlq8 s9 nD2
    refine nmS ?_
    have stf : ∀ r : Lr, stB E r = true ↔ ((lpR r).2 = false ∧ ∃ s ∈ (lpR r).1, leav E s = []) := fun r => decide_eq_true_iff
    have lof : ∀ r : Lr, loB lo r = true ↔ (True ∧ ∃ s ∈ (lpR r).1, s ∈ lo) := fun r => decide_eq_true_iff.trans ⟨fun h => ⟨trivial, h⟩, fun h => h.2⟩
    have loop : ∀ u, (∃ p, Rp (mvL E) (c0, false) u p ∧ (True ∧ ∃ s ∈ p.1, s ∈ lo)) ↔ LoopP E u := fun u => by
      refine (sets hc0 (fun s => s ∈ lo) (fun _ => True) u).trans ⟨fun ⟨_, s, h1, h2⟩ => ⟨s, h1, ((meml s).1 h2).2⟩, fun ⟨s, h1, h2⟩ => ⟨trivial, s, h1, (meml s).2 ⟨?_, h2⟩⟩⟩
      have rg : ∀ {u : List Str} {q : Int}, Rp (leav E) 0 u q → 0 ≤ q ∧ q < n := fun h => by
        cases h with
        | st => omega
        | tau _ e => exact ⟨(T9.sys.ok _ (leav_mem.1 e)).2.2.1, (T9.sys.ok _ (leav_mem.1 e)).2.2.2.1⟩
        | vis _ e _ => exact ⟨(T9.sys.ok _ (leav_mem.1 e)).2.2.1, (T9.sys.ok _ (leav_mem.1 e)).2.2.2.1⟩
      exact rg h1
    have hD29 := hD2
    refine seqJ (fun σ' H' => σ' = [some (.ref sa), some (.ref pa), some (.int (0 + (i : Nat))), some (.int n), some (.ref p4), some (.ref x), some (.ref lq), some (.ref rq), some (.ref D), r9, some (.ref D2), r11, r12, r13, r14, r15, r16, r17, r18] ∧ Tj K C T H pa pd k φ x n E p4 LD H' ∧ H' D2 = some (.lst ((R.map (loB lo)).map V.bl)) ∧ H' rq = some (.lst (lqs R)) ∧ LrOk H' R) (fun N hN => ?_) ?_
    · have fin : ∀ {Ha Hb : Hp}, ExtN H9 Ha → Tabs T Ha → Same Ha Hb → N [some (.ref sa), some (.ref pa), some (.int (0 + (i : Nat))), some (.int n), some (.ref p4), some (.ref x), some (.ref lq), some (.ref rq), some (.ref D), r9, some (.ref D2), r11, r12, r13, r14, r15, r16, r17, r18] Hb := fun {Ha Hb} ea ta sb => by
        have e := ea.trans (ExtN.of sb)
        exact hN _ _ ⟨rfl, (T9.ext ea ta).same sb, e _ _ hD29 (fun _ z => nomatch z), e _ _ hrq9 (fun _ z => nomatch z), fun r hr => by
          obtain ⟨g1, g2, g3⟩ := hR9 r hr
          exact ⟨e _ _ g1 (fun _ z => nomatch z), e _ _ g2 (fun _ z => nomatch z), e _ _ g3 (fun _ z => nomatch z)⟩⟩
      have hRx : ∀ {Ha : Hp}, ExtN H9 Ha → LrOk Ha R := fun {Ha} e r hr => by
          obtain ⟨g1, g2, g3⟩ := hR9 r hr
          exact ⟨e _ _ g1 (fun _ z => nomatch z), e _ _ g2 (fun _ z => nomatch z), e _ _ g3 (fun _ z => nomatch z)⟩
      refine ⟨_, rfl, φ, x, n, E, rfl, T9.sys, n1, by omega, lenE, T9.tb, fun Ha ea ta no => ?_, fun u qa Ha ea ta hqa hu => ?_⟩
      · refine ⟨_, rfl, _, rfl, rq, D, R, R.map (stB E), rfl, ea _ _ hrq9 (fun _ z => nomatch z), hRx ea, by omega, SqL.of (ea _ _ hD9 (fun _ z => nomatch z)), List.length_map _, fun Hb sb _ => ?_, fun j r Hb sb hrj hbj before => ?_⟩
        · refine ⟨.non, .non, .none, rfl, .non, .non, (by show 0 < 4; decide), rfl, fun Hc sc => ⟨true, rfl, ?_⟩⟩
          show (if (!true) = true then _ else _)
          exact iteF (nxT (fin ea ta (sb.trans sc)))
        · exact absurd (stuck_first hc0 I hrj (fun p => p.2 = false ∧ ∃ s ∈ p.1, leav E s = []) (stuckL hc0) rfl stf hbj before).1 (no _)
      · refine ⟨_, rfl, _, rfl, rq, D, R, R.map (stB E), rfl, ea _ _ hrq9 (fun _ z => nomatch z), hRx ea, by omega, SqL.of (ea _ _ hD9 (fun _ z => nomatch z)), List.length_map _, fun Hb sb al => ?_, fun j r Hb sb hrj hbj before => ?_⟩
        · exact absurd hu.1 (stuck_none I (fun p => p.2 = false ∧ ∃ s ∈ p.1, leav E s = []) (stuckL hc0) rfl stf al u)
        · have e := (stuck_first hc0 I hrj (fun p => p.2 = false ∧ ∃ s ∈ p.1, leav E s = []) (stuckL hc0) rfl stf hbj before).uniq hu
          have rin := List.mem_of_getElem? hrj
          have ga := sb _ _ ((hRx ea) r rin).2.1
          have lt0 := I.trlen _ _ (xlR_at hrj)
          have lj := (List.getElem?_eq_some_iff.mp hrj).1
          rw [e] at ga lt0
          have lt1 : u.length ≤ j := lt0
          refine ⟨.ref qa, .ref r.a, rowD u, rfl, rowD_dp (VB.Same.sqT sb hqa), rowD_dp (.inl (.inl ga)), (by rw [row_dep]; decide), row_slim u (by omega), fun Hc sc => ⟨true, rfl, ?_⟩⟩
          show (if (!true) = true then _ else _)
          exact iteF (nxT (fin ea ta (sb.trans sc)))
    rintro _ H10 ⟨rfl, T10, hD210, hrq10, hR10⟩
    clear T9 hR9 hrq9 hD2 hD29 hD9
    refine seqJ (fun σ' H' => σ' = [some (.ref sa), some (.ref pa), some (.int (0 + (i : Nat))), some (.int n), some (.ref p4), some (.ref x), some (.ref lq), some (.ref rq), some (.ref D), r9, some (.ref D2), r11, r12, r13, r14, r15, r16, r17, r18] ∧ Tj K C T H pa pd k φ x n E p4 LD H' ∧ H' D2 = some (.lst ((R.map (loB lo)).map V.bl)) ∧ H' rq = some (.lst (lqs R)) ∧ LrOk H' R) (fun N hN => ?_) ?_
    · have fin : ∀ {Ha Hb : Hp}, ExtN H10 Ha → Tabs T Ha → Same Ha Hb → N [some (.ref sa), some (.ref pa), some (.int (0 + (i : Nat))), some (.int n), some (.ref p4), some (.ref x), some (.ref lq), some (.ref rq), some (.ref D), r9, some (.ref D2), r11, r12, r13, r14, r15, r16, r17, r18] Hb := fun {Ha Hb} ea ta sb => by
        have e := ea.trans (ExtN.of sb)
        exact hN _ _ ⟨rfl, (T10.ext ea ta).same sb, e _ _ hD210 (fun _ z => nomatch z), e _ _ hrq10 (fun _ z => nomatch z), fun r hr => by
          obtain ⟨g1, g2, g3⟩ := hR10 r hr
          exact ⟨e _ _ g1 (fun _ z => nomatch z), e _ _ g2 (fun _ z => nomatch z), e _ _ g3 (fun _ z => nomatch z)⟩⟩
      have hRx : ∀ {Ha : Hp}, ExtN H10 Ha → LrOk Ha R := fun {Ha} e r hr => by
          obtain ⟨g1, g2, g3⟩ := hR10 r hr
          exact ⟨e _ _ g1 (fun _ z => nomatch z), e _ _ g2 (fun _ z => nomatch z), e _ _ g3 (fun _ z => nomatch z)⟩
      refine ⟨_, rfl, φ, x, n, E, rfl, T10.sys, n1, by omega, lenE, T10.tb, fun Ha ea ta no => ?_, fun u qa Ha ea ta hqa hu => ?_⟩
      · refine ⟨_, rfl, _, rfl, rq, D2, R, R.map (loB lo), rfl, ea _ _ hrq10 (fun _ z => nomatch z), hRx ea, by omega, SqL.of (ea _ _ hD210 (fun _ z => nomatch z)), List.length_map _, fun Hb sb _ => ?_, fun j r Hb sb hrj hbj before => ?_⟩
        · refine ⟨.non, .non, .none, rfl, .non, .non, (by show 0 < 4; decide), rfl, fun Hc sc => ⟨true, rfl, ?_⟩⟩
          show (if (!true) = true then _ else _)
          exact iteF (nxT (fin ea ta (sb.trans sc)))
        · exact absurd (stuck_first hc0 I hrj (fun p => True ∧ ∃ s ∈ p.1, s ∈ lo) loop rfl lof hbj before).1 (no _)
      · refine ⟨_, rfl, _, rfl, rq, D2, R, R.map (loB lo), rfl, ea _ _ hrq10 (fun _ z => nomatch z), hRx ea, by omega, SqL.of (ea _ _ hD210 (fun _ z => nomatch z)), List.length_map _, fun Hb sb al => ?_, fun j r Hb sb hrj hbj before => ?_⟩
        · exact absurd hu.1 (stuck_none I (fun p => True ∧ ∃ s ∈ p.1, s ∈ lo) loop rfl lof al u)
        · have e := (stuck_first hc0 I hrj (fun p => True ∧ ∃ s ∈ p.1, s ∈ lo) loop rfl lof hbj before).uniq hu
          have rin := List.mem_of_getElem? hrj
          have ga := sb _ _ ((hRx ea) r rin).2.1
          have lt0 := I.trlen _ _ (xlR_at hrj)
          have lj := (List.getElem?_eq_some_iff.mp hrj).1
          rw [e] at ga lt0
          have lt1 : u.length ≤ j := lt0
          refine ⟨.ref qa, .ref r.a, rowD u, rfl, rowD_dp (VB.Same.sqT sb hqa), rowD_dp (.inl (.inl ga)), (by rw [row_dep]; decide), row_slim u (by omega), fun Hc sc => ⟨true, rfl, ?_⟩⟩
          show (if (!true) = true then _ else _)
          exact iteF (nxT (fin ea ta (sb.trans sc)))
    rintro _ H11 ⟨rfl, T11, hD211, hrq11, hR11⟩
    clear T10 hR10 hrq10 hD210 hD211 hrq11 hR11
    refine ⟨Nat.zero_le _, fun t0 nt0 => nmS ?_⟩
    have w := same_upd nt0 (.tup [])
    have ht0 : SqT K (upd H11 t0 (.tup [])) t0 ((([] : List Str)).map V.str) := .inl (.inl upd_same)
    have T12 := T11.same w
    generalize upd H11 t0 (.tup []) = H12 at w ht0 T12 ⊢
    refine ⟨_, rfl, (by show 1 ≤ sizeLine; omega), fun p5 np5 => ?_⟩
    have w2 := same_upd np5 (.lst [.int 0])
    have T13 := T12.same w2
    refine ⟨p4, p5, LD, [0], rfl, SqL.of T13.hl, T13.hE, by omega, .inl (SqL.of upd_same), by decide, by decide, fun pl H14 c1 s14 hpl hc1 => nmS ?_⟩
    rw [eLD] at hc1
    obtain rfl : c1 = c0 := hc1.uniq hc0
    have T14 := T13.same s14
    have ht14 := VB.Same.sqT (w2.trans s14) ht0
    clear T11 T12 T13 w w2 s14 ht0 nt0 np5
    have inA : ∀ {ci : List Int} {a : Str}, a ∈ srtS (acsL E ci) ++ [("a" : Str)] → a ≠ ("tau" : Str) ∧ PyData.strOk a = true := fun {ci a} h => by
      rcases List.mem_append.mp h with z | z
      · have z := srtS_memW.1 z
        unfold acsL at z
        obtain ⟨e, he, rfl⟩ := List.mem_map.mp z
        obtain ⟨h1, h2⟩ := List.mem_filter.mp he
        rw [← eLD] at h1
        obtain ⟨y, hy, rfl⟩ := List.mem_map.mp h1
        exact ⟨(of_decide_eq_true h2).2, (acts_ok _ (hac y hy)).1⟩
      · rw [List.mem_singleton.mp z]; decide +kernel
    refine ⟨_, rfl, pa, pd, k, 6, rfl, T14.pool, by omega, by decide, fun r3 H15 ra3 rb3 b15 pool15 => ?_⟩
    have T15 := T14.pick b15 pool15 npa nφp np4
    have kp15 := Kp.ofBut b15 (by obtain ⟨ps, nn, h1, _⟩ := T14.pool; exact h1)
    refine ⟨r3, rfl, by omega, by omega, for_range (lo := 0) (n := r3.toNat)
      (fun j σ H' => ∃ (tr : List Str) (ci : List Int) (ta pj : Addr) (q14 q15 q16 : Option V), σ = [some (.ref sa), some (.ref pa), some (.int (0 + (i : Nat))), some (.int n), some (.ref p4), some (.ref x), some (.ref lq), some (.ref rq), some (.ref D), r9, some (.ref D2), r11, some (.ref ta), some (.ref pj), q14, q15, q16, r17, r18] ∧
        Tj K C T H pa pd (k + 1 + (j : Nat)) φ x n E p4 LD H' ∧ SqT K H' ta (tr.map V.str) ∧ H' pj = some (.tup (ci.map V.int)) ∧ Runs E c1 tr ci ∧ tr.length = j ∧ (∀ a ∈ tr, a ≠ ("tau" : Str) ∧ PyData.strOk a = true))
      ⟨[], c1, t0, pl, _, _, _, rfl, by rw [show k + 1 + ((0 : Nat) : Int) = k + 1 by omega]; exact T15, kp15.sqT ht14, kp15.tup _ _ hpl, rfl, rfl, fun a ha => absurd ha List.not_mem_nil⟩ ?_ ?_⟩
    · clear T14 T15 kp15 ht14 hpl b15 pool15
      rintro j σ H16 hj ⟨tr, ci, ta, pj, q14, q15, q16, rfl, T16, hta, hpj, hruns, lentr, htr⟩
      have okE : ∀ e ∈ E, okE n e := T16.sys.ok
      have hcr : ∀ x ∈ ci, 0 ≤ x ∧ x < n := fun y hy => by
        have mem := rp_runs (u := tr.reverse) hc0 (by rw [List.reverse_reverse]; exact hruns) fun x hx => (htr x (List.mem_reverse.mp hx)).1
        rw [List.reverse_reverse] at mem
        have z := (mem y).1 hy
        cases z with
        | st => omega
        | tau _ e => exact ⟨(okE _ (leav_mem.1 e)).2.2.1, (okE _ (leav_mem.1 e)).2.2.2.1⟩
        | vis _ e _ => exact ⟨(okE _ (leav_mem.1 e)).2.2.1, (okE _ (leav_mem.1 e)).2.2.2.1⟩
      have hcn : ci.Nodup := by
        rcases List.eq_nil_or_concat tr with e | ⟨u, y, e⟩
        · rw [e] at hruns
          obtain rfl : c1 = ci := by simpa [Runs, eq_comm] using hruns
          exact ascI_nodup hc0.asc
        · rw [e, List.concat_eq_append] at hruns
          obtain ⟨es, _, h2⟩ := runs_snoc.1 hruns
          exact ascI_nodup h2.asc
      have lci : ci.length ≤ 5 := by have := few_of hcn hcr; omega
      refine VJ.nm ?_
      refine due_of rfl rfl rfl T16.hl T16.hE (by omega) hac eLD (.inl (.inl hpj)) (by omega) hta (fun a ha => (htr a ha).2) fun H17 s17 => nmS ?_
      have T17 := T16.same s17
      have hta17 := VB.Same.sqT s17 hta
      have hpj17 := s17 _ _ hpj
      clear T16 hta hpj s17
      refine ⟨_, rfl, _, rfl, φ, x, ta, n, E, tr, rfl, T17.sys, n1, by omega, lenE, hta17, fun a ha => (htr a ha).1, fun b H18 s18 hb => ?_⟩
      obtain rfl : b = decide (lastT tr = false ∧ ∃ s ∈ ci, leav E s = []) := Bool.eq_iff_iff.mpr (hb.trans ((stuck_set hc0 hruns fun a ha => (htr a ha).1).trans decide_eq_true_iff.symm))
      refine ⟨_, rfl, .bl _, .bl _, .bool (decide (lastT tr = false ∧ ∃ s ∈ ci, leav E s = [])), rfl, .bl _, .bl _, (by show 0 < 4; decide), rfl, fun H19 s19 => ⟨true, rfl, ?_⟩⟩
      show (if (!true) = true then _ else _)
      refine iteF (nxT ?_)
      have s1719 := s18.trans s19
      have T19 := T17.same s1719
      have hta19 := VB.Same.sqT s1719 hta17
      have hpj19 := s1719 _ _ hpj17
      clear T17 hta17 hpj17 s18 s19 s1719 hb
      refine ⟨_, rfl, _, rfl, p4, pj, LD, ci, rfl, SqL.of T19.hl, T19.hE, by omega, .inl (.inl hpj19), fun qa H20 s20 hqa nqa => ⟨(by show 1 ≤ sizeLine; omega), fun qc nqc => ?_⟩⟩
      rw [eLD] at hqa
      have w1 := same_upd nqc (.lst [.str "a"])
      have lenA : (srtS (acsL E ci)).length ≤ 1000 := by
        have z := srtS_len (acsL E ci)
        have y : (acsL E ci).length ≤ E.length := by unfold acsL; rw [List.length_map]; exact List.length_filter_le _ _
        have eL : E.length = LD.length := by rw [← eLD, List.length_map]
        omega
      refine ⟨qa, qc, _, _, rfl, rfl, w1 _ _ hqa, upd_same, by rw [List.length_map]; show _ + 1 ≤ _; omega, fun cq ncq => nmS ?_⟩
      obtain ⟨can, hcan⟩ : ∃ can : List Str, can = srtS (acsL E ci) ++ [("a" : Str)] := ⟨_, rfl⟩
      have ecan : ((srtS (acsL E ci)).map V.str ++ [V.str "a"] : List V) = can.map V.str := by rw [hcan, List.map_append] <;> rfl
      rw [ecan]
      have s1921 := (s20.trans w1).trans (same_upd ncq (.lst (can.map V.str)))
      have hcq : upd (upd H20 qc (.lst [.str "a"])) cq (.lst (can.map V.str)) cq = some (.lst (can.map V.str)) := upd_same
      have T21 := T19.same s1921
      have hta21 := VB.Same.sqT s1921 hta19
      have hpj21 := s1921 _ _ hpj19
      have ncp : cq ≠ pa := (((T19.same (s20.trans w1)).pool).ne ncq).1
      generalize upd (upd H20 qc (.lst [.str "a"])) cq (.lst (can.map V.str)) = H21 at hcq T21 hta21 hpj21 ⊢
      clear T19 hta19 hpj19 s20 w1 s1921 hqa nqa nqc ncq
      have lenC : can.length = (srtS (acsL E ci)).length + 1 := by rw [hcan, List.length_append] <;> rfl
      have lc : ((((can.map V.str).length : Nat) : Int)) = (can.length : Int) := by rw [List.length_map]
      refine ⟨_, rfl, _, rfl, _, rfl, _, rfl, cq, _, rfl, .inl (SqL.of hcq), pa, pd, k + 1 + (j : Nat), _, rfl, T21.pool, by omega, by rw [lc]; omega, fun r4 H22 ra4 rb4 b22 pool22 => ?_⟩
      rw [lc] at rb4
      obtain ⟨act, mat, hat⟩ := pickI can V.str ra4 rb4
      have hact := inA (ci := ci) (a := act) (by rw [← hcan]; exact mat)
      have T22 := T21.pick b22 pool22 npa nφp np4
      have kp22 := Kp.ofBut b22 (by obtain ⟨ps, nn, h1, _⟩ := T21.pool; exact h1)
      have hta22 := kp22.sqT hta21
      have hpj22 := kp22.tup _ _ hpj21
      refine ⟨cq, _, _, _, rfl, rfl, SqL.of (b22 _ _ ncp hcq), hat, (by show 1 ≤ sizeLine; omega), fun t1 nt1 => ?_⟩
      have w2 := same_upd nt1 (.tup [.str act])
      refine catA_of (VB.Same.sqT w2 hta22) (.inl (.inl upd_same)) (by rw [List.length_map]; show _ + 1 ≤ _; omega) fun tn H23 s23 htn => nmS ?_
      have s2223 := w2.trans s23
      have T23 := T22.same s2223
      have hpj23 := s2223 _ _ hpj22
      clear T21 T22 hta21 hta22 hpj21 hpj22 kp22 w2 s23 s2223 hcq b22 pool22
      refine ⟨_, rfl, _, rfl, _, rfl, _, rfl, tn, _, _, _, rfl, rfl, htn, atI_last _ _, p4, pj, LD, ci, act, rfl, SqL.of T23.hl, T23.hE, by omega, .inl (.inl hpj23), fun pn H24 cn s24 hpn hcn => ?_⟩
      rw [eLD] at hcn
      refine ⟨tr ++ [act], cn, tn, pn, _, _, _, rfl, by rw [show k + 1 + ((j + 1 : Nat) : Int) = k + 1 + (j : Nat) + 1 by omega]; exact T23.same s24, by rw [List.map_append]; exact VB.Same.sqT s24 htn, hpn, runs_snoc.2 ⟨ci, hruns, hcn⟩, by rw [List.length_append, lentr] <;> rfl, fun a ha => ?_⟩
      rcases List.mem_append.mp ha with z | z
      · exact htr a z
      · rw [List.mem_singleton.mp z]; exact hact
    · clear T14 T15 kp15 ht14 hpl b15 pool15
      rintro σ H16 ⟨tr, ci, ta, pj, q14, q15, q16, rfl, T16, hta, hpj, hruns, lentr, htr⟩
      clear hta hpj hruns htr
      refine VJ.nx ?_
      refine ⟨_, rfl, p4, LD, 3, 40, rfl, SqL.of T16.hl, T16.hE, by omega, hac, by decide, by decide, by decide, by decide, fun sq H17 c2 FL s17 hsq hFL hc2 hcase lenFL => nmS ?_⟩
      rw [eLD] at hc2 hcase
      have T17 := T16.same s17
      have nts : ∀ y ∈ FL, ∀ a ∈ y.2, a ≠ ("tau" : Str) := fun y hy => by
        have m : y.2 ∈ FL.map (·.2) := List.mem_map_of_mem hy
        rcases hcase with e | ⟨_, j, _, e⟩
        · rw [e] at m; exact conc_nt _ _ _ _ m
        · rw [e] at m; exact conc_nt _ _ _ _ m
      clear T16 s17 hcase
      refine seqJ (fun σ' H' => ∃ v : V, σ' = [some (.ref sa), some (.ref pa), some (.int (0 + (i : Nat))), some (.int n), some (.ref p4), some (.ref x), some (.ref lq), some (.ref rq), some (.ref D), r9, some (.ref D2), r11, some (.ref ta), some (.ref pj), q14, q15, q16, some (.ref sq), some v] ∧ Tj K C T H pa pd (k + 1 + (r3.toNat : Nat)) φ x n E p4 LD H' ∧ H' sq = some (.lst (refs FL)) ∧ TrsOk H' FL ∧
        ((v = .non ∧ ∀ u, ¬ StuckP E u) ∨ ∃ (u : List Str) (qf : Addr), v = .ref qf ∧ SqT K H' qf (u.map V.str) ∧ LstP (StuckP E) u)) (fun N hN => ?_) ?_
      · refine ⟨_, rfl, φ, x, n, E, rfl, T17.sys, n1, by omega, lenE, T17.tb, fun Ha ea ta no => ?_, fun u qf Ha ea ta hqf hu => ?_⟩
        · exact hN _ _ ⟨.non, rfl, T17.ext ea ta, ea _ _ hsq (fun _ z => nomatch z), hFL.keep fun b xs h => ea _ _ h (fun _ z => nomatch z), .inl ⟨rfl, no⟩⟩
        · exact hN _ _ ⟨.ref qf, rfl, T17.ext ea ta, ea _ _ hsq (fun _ z => nomatch z), hFL.keep fun b xs h => ea _ _ h (fun _ z => nomatch z), .inr ⟨u, qf, rfl, hqf, hu⟩⟩
      clear T17 hsq hFL
      rintro _ H18 ⟨v, rfl, T18, hsq, hFL, hv⟩
      refine ⟨_, rfl, sq, rfl, ⟨_, SqL.of hsq⟩, for_list (K := K) (a := sq) (xs := refs FL)
        (fun j σ H' => Same H18 H' ∧ ∃ q12 : Option V, σ = [some (.ref sa), some (.ref pa), some (.int (0 + (i : Nat))), some (.int n), some (.ref p4), some (.ref x), some (.ref lq), some (.ref rq), some (.ref D), r9, some (.ref D2), r11, q12, some (.ref pj), q14, q15, q16, some (.ref sq), some v])
        ⟨Same.refl _, _, rfl⟩ (fun j σ H' _ z => z.1.seq (SqL.of hsq)) ?_ ?_⟩
      · rintro j v2 σ H19 hv2 ⟨s19, q12, rfl⟩
        obtain ⟨y, hy, rfl⟩ := refs_at hv2
        have yin := List.mem_of_getElem? hy
        have T19 := T18.same s19
        have hy19 := s19 _ _ (hFL y yin)
        have nty := nts y yin
        refine VJ.nm ?_
        have ask : ∀ (D0 : Ends) (H20 : Hp), Same H19 H20 → ¬ StuckP E y.2 → (∀ H21, Same H19 H21 → D0.nx [some (.ref sa), some (.ref pa), some (.int (0 + (i : Nat))), some (.int n), some (.ref p4), some (.ref x), some (.ref lq), some (.ref rq), some (.ref D), r9, some (.ref D2), r11, some (.ref y.1), some (.ref pj), q14, q15, q16, some (.ref sq), some v] H21) → tIfS (tB (tCall (spIsS K C) [] C8.E0 (tCons (tVar 5) (tCons (tVar 12) tNil)))) (tRet (tC (V.bl false))) tNext D0
            [some (.ref sa), some (.ref pa), some (.int (0 + (i : Nat))), some (.int n), some (.ref p4), some (.ref x), some (.ref lq), some (.ref rq), some (.ref D), r9, some (.ref D2), r11, some (.ref y.1), some (.ref pj), q14, q15, q16, some (.ref sq), some v] H20 := fun D0 H20 s20 ns fin => by
          refine ⟨_, rfl, _, rfl, φ, x, y.1, n, E, y.2, rfl, (T19.same s20).sys, n1, by omega, lenE, .inl (.inl (s20 _ _ hy19)), nty, fun b H21 s21 hb => ⟨b, rfl, ?_⟩⟩
          refine VUt.ite2b (fun cc => ?_) (fun cc => ?_)
          · exact absurd (hb.1 cc) ns
          · exact fin H21 (s20.trans s21)
        rcases hv with ⟨rfl, no⟩ | ⟨u, qf, rfl, hqf, hu⟩
        · refine ⟨_, rfl, rfl, _, rfl, iteTe (decide_eq_true rfl) (iteT ?_)⟩
          exact ask _ H19 (Same.refl _) (no _) fun H21 s => ⟨s19.trans s, _, rfl⟩
        · refine ⟨_, rfl, rfl, _, rfl, iteFe (decide_eq_false fun z => nomatch z) ?_⟩
          have hqf19 := VB.Same.sqT s19 hqf
          refine ⟨_, rfl, y.1, _, rfl, .inr (.inl (.inl hy19)), _, rfl, (by show 2 ≤ sizeLine; omega), fun t1 nt1 => ?_⟩
          have w1 := same_upd nt1 (.tup [.int (((y.2.map V.str).length : Nat) : Int), .ref y.1])
          have ht1 : upd H19 t1 (.tup [.int (((y.2.map V.str).length : Nat) : Int), .ref y.1]) t1 = some (.tup [.int (((y.2.map V.str).length : Nat) : Int), .ref y.1]) := upd_same
          generalize upd H19 t1 (.tup [.int (((y.2.map V.str).length : Nat) : Int), .ref y.1]) = H20 at w1 ht1 ⊢
          refine ⟨_, rfl, qf, _, rfl, .inr (VB.Same.sqT w1 hqf19), _, rfl, (by show 2 ≤ sizeLine; omega), fun t2 nt2 => ?_⟩
          have w2 := same_upd nt2 (.tup [.int (((u.map V.str).length : Nat) : Int), .ref qf])
          have ht2 : upd H20 t2 (.tup [.int (((u.map V.str).length : Nat) : Int), .ref qf]) t2 = some (.tup [.int (((u.map V.str).length : Nat) : Int), .ref qf]) := upd_same
          generalize upd H20 t2 (.tup [.int (((u.map V.str).length : Nat) : Int), .ref qf]) = H21 at w2 ht2 ⊢
          have w12 := w1.trans w2
          have ht1' := w2 _ _ ht1
          have lm : ∀ u : List Str, (((u.map V.str).length : Nat) : Int) = (u.length : Nat) := fun u => by rw [List.length_map]
          rw [lm] at ht1' ht2
          refine ⟨tkD y.2, tkD u, .tup (.inl (.inl ht1')) (.cons (.int _) (.cons (rowD_dp (.inl (.inl (w12 _ _ hy19)))) .nil)), .tup (.inl (.inl ht2)) (.cons (.int _) (.cons (rowD_dp (VB.Same.sqT w12 hqf19)) .nil)), tk_alike _ _, (fun z => nomatch z), ?_, _, rfl, ?_⟩
          · unfold tkD
            simp only [PyData.depth, PyData.depthAll, row_dep]
            omega
          · refine VUt.ite2b (fun cc => ?_) (fun cc => ?_)
            · refine ask _ H21 w12 (fun z => ?_) fun H22 s => ⟨s19.trans s, _, rfl⟩
              have a := (tk_lt _ _).1 cc
              have b := hu.2 _ z
              exact tlt_irrefl _ (tlt_le a b)
            · exact nxT ⟨s19.trans w12, _, rfl⟩
      · rintro σ H19 ⟨s19, q12, rfl⟩
        have T19 := T18.same s19
        exact ⟨T19.ex, T19.tb, ⟨_, by omega, T19.pool⟩, _, _, _, _, _, _, _, _, _, _, _, _, _, _, _, _, _, rfl⟩
  · rintro σ H1 ⟨eH1, tb1, ⟨k, ek, pool1⟩, r2, r3, r4, r5, r6, r7, r8, r9, r10, r11, r12, r13, r14, r15, r16, r17, r18, rfl⟩
    exact q _
end
end MG
end LW

set_option Elab.async false
set_option linter.all false
set_option maxRecDepth 100000
set_option maxHeartbeats 4000000
namespace LW
open PySem PySem.Spec PyProof.Rows L2 LamX NdefX VB VM VP VE VX VF VY
section
variable {P : Program} {w : World} {K : PySem.W.Frag} {mg : Str → Option Value} {base : Heap}
end
end LW

set_option Elab.async false
set_option linter.all false
set_option maxRecDepth 100000
set_option maxHeartbeats 0

set_option Elab.async false
set_option linter.all false
set_option maxRecDepth 100000
set_option maxHeartbeats 0
namespace LW
open PySem PySem.Spec PyProof.Rows L2 LamX NdefX VB VM VP VE VX VF VY
section
variable {P : Program} {w : World} {K : PySem.W.Frag} {h : Heap} {mg : Str → Option Value} {f : Addr}
theorem df_of (X : K.In h) (G : h.Ns mainGlobals mg) (c : He.SaysD fa fn K) {x : Str} {st : Stmt} {i j : Nat} (hi : fn[i]? = some (dd x st)) (hj : fa[j]? = some (.glo x)) : Df K mg x st := by
  obtain ⟨fd, F⟩ := c.def_ i hi
  exact ⟨He.ga K x, fd, F, He.glo_ok X G (c.fact j hj)⟩
theorem no_events (c : He.SaysX fa fn ts tf ex w h K) : ∀ H, SqT K H (He.ga K "NO_EVENTS") (noEv.map V.str) := fun H =>
  He.tupB_ok (Bool.and_eq_true_iff.mp c.more).1 H
theorem own_of (X : K.In h) (G : h.Ns mainGlobals mg) (c : He.SaysD fa fn K) {x : Str} {j1 j2 j3 : Nat} (h1 : fa[j1]? = some (.glo x)) (h2 : fa[j2]? = some (.exc x)) (h3 : fa[j3]? = some (.exm x x true)) : VE.Own K mg x (He.ga K x) := by
  obtain ⟨a, b, d, e⟩ := He.exc_ok (c.fact _ h2)
  exact ⟨He.glo_ok X G (c.fact _ h1), a, b, d, e, He.exm_ok (c.fact _ h3)⟩
/-- the code of a def, where it is told -/
theorem code_of {d : He.Defn} {m qual : Str} {params : Arguments} {body : List Stmt} {scope : Scope} {f : Addr} {fd : FuncData} {dvs : List V} {kws : List (Str × V)} (F : FunD K m qual params body scope dvs kws f fd) (e : f = He.fAd K d) : ∃ c0, fd.code = .ref c0 ∧ (He.cT K d).1 = c0 := by
  obtain ⟨oc, od, dV, kV, doc, pm, an, cdv, ct, osl, efh, lk, hcd2, _, _⟩ := F.ex
  obtain ⟨c0, ec0⟩ := He.codeIn_ref hcd2
  have hcode : fd.code = .ref c0 := by rw [efh]; exact ec0
  subst e
  have lk2 : K.lookup (He.fAd K d) = some ⟨oc, od, .func fd, osl⟩ := lk
  exact ⟨c0, hcode, He.codeOf_eq lk2 hcode⟩
def TB (K : PySem.W.Frag) : List (Addr × Str) := [((He.cT K tSt).2, MG.qnSt), ((He.cT K tLo).2, MG.qnLo)]
theorem facts (X : K.In h) (G : h.Ns mainGlobals mg) (hfa : mg ("law" : Str) = some (.ref f)) (c : He.SaysX fa fn ts tf ex w h K) :
    LamX.LawAtS PySem.Challenge.rw_parley_k67_least_stuck_and_looping_trace w K CX0 14 63 "script" mg f h := by
  have cd := c.t.d
  obtain ⟨fd, F⟩ := cd.def_ _ i_law
  have e := hfa.symm.trans (He.glo_ok X G (cd.fact _ j_law))
  cases e
  obtain ⟨fss, Fss⟩ := cd.def_ _ i_stuck_trace
  obtain ⟨fll, Fll⟩ := cd.def_ _ i_looping_trace
  obtain ⟨cs, hcs, ecs⟩ := code_of (d := tSt) Fss rfl
  obtain ⟨cl, hcl, ecl⟩ := code_of (d := tLo) Fll rfl
  have dn : (He.cT K tSt).2 ≠ (He.cT K tLo).2 := of_decide_eq_true (Bool.and_eq_true_iff.mp c.more).2
  refine ⟨fd, tf.map (He.cT K), MG.spLaw K (TB K), fun p hp => ?_, fun p hp => ?_, fun p hp => ?_, ?_, fun H a ns hl _ hT hS => ?_, fun base kin hns hTB => ?_⟩
  · obtain ⟨d, hd, rfl⟩ := List.mem_map.mp hp
    exact c.empty _ hd
  · obtain ⟨d, hd, rfl⟩ := List.mem_map.mp hp
    exact c.out _ hd
  · obtain ⟨d, hd, rfl⟩ := List.mem_map.mp hp
    exact PySem.W.codeHd_of_K X (c.hd _ hd)
  · have b := FunD.bindsA (ps := ["script"]) F fun _ _ _ _ _ _ us hl => match us, hl with | [_], _ => rfl
    exact fun s v => b s [v] rfl
  · refine ⟨a, ns, rfl, hS, fun p hp => ?_, fun _ => rfl⟩
    obtain ⟨d, hd, e⟩ : ∃ d ∈ tf, p.1 = (He.cT K d).2 := by
      unfold TB at hp
      rcases List.mem_cons.mp hp with e | hp
      · exact ⟨tSt, by simp [tf], by rw [e]⟩
      · exact ⟨tLo, by simp [tf], by rw [List.mem_singleton.mp hp]⟩
    have z := hT _ (List.mem_map.mpr ⟨d, hd, rfl⟩)
    refine TabS.nil ?_
    rw [e]
    exact z
  · have z : ∀ {x : Str} {j : Nat}, fa[j]? = some (.free x) → mg x = none := fun hj => He.free_ok X G (cd.fact _ hj)
    have gs : ∀ {x y : Str} {j : Nat}, fa[j]? = some (.str x y) → ∃ u, mg x = some u ∧ RelV (.str y) u := fun hj => by
      obtain ⟨t, e⟩ := He.str_ok X G (cd.fact _ hj)
      exact ⟨_, e, t, rfl⟩
    have gi : ∀ {x : Str} {y : Int} {j : Nat}, fa[j]? = some (.int x y) → ∃ u, mg x = some u ∧ RelV (.int y) u := fun hj => by
      obtain ⟨t, e⟩ := He.int_ok X G (cd.fact _ hj)
      exact ⟨_, e, t, rfl⟩
    have gg : ∀ {x : Str} {j : Nat}, fa[j]? = some (.glo x) → ∃ u, mg x = some u ∧ RelV (.ref (He.ga K x)) u := fun hj => ⟨_, He.glo_ok X G (cd.fact _ hj), rfl⟩
    have d : ∀ {x : Str} {st : Stmt} {i j : Nat}, fn[i]? = some (dd x st) → fa[j]? = some (.glo x) → Df K mg x st := fun hi hj => df_of X G cd hi hj
    have k_cell := c_cell (P := (PySem.Challenge.rw_parley_k67_least_stuck_and_looping_trace).prog) (w := w) (base := base) (d i__law_cell j__law_cell) (z j_len) (z j_abs) (z j_int)
    have k_draws := c_draws (P := (PySem.Challenge.rw_parley_k67_least_stuck_and_looping_trace).prog) (w := w) (base := base) (d i__law_draws j__law_draws) (z j_range) (z j_int)
    have k_pool := c_pool (d i__law_pool j__law_pool) (z j_range) k_cell k_draws
    have k_pick := c_pick (P := (PySem.Challenge.rw_parley_k67_least_stuck_and_looping_trace).prog) (w := w) (base := base) (d i__law_pick j__law_pick) (z j_len)
    have k_like := c_like (P := (PySem.Challenge.rw_parley_k67_least_stuck_and_looping_trace).prog) (w := w) (base := base) (d i__law_like j__law_like) (z j_isinstance) (z j_bool) (z j_str) (z j_int) (z j_list) (z j_tuple) (z j_len) (z j_range) (z j_all) 4
    have k_form := c_form (P := (PySem.Challenge.rw_parley_k67_least_stuck_and_looping_trace).prog) (w := w) (base := base) (d i_has_form j_has_form) (z j_len) (z j_all) (gi j_LONGEST_NAME)
    have k_event := c_event (d i_is_event j_is_event) (gs j_LOWER) (gs j_DIGITS) (gg j_NO_EVENTS) (no_events c) k_form
    have k_action := c_action (d i_is_action j_is_action) k_event
    have k_onceE := c_onceE (P := (PySem.Challenge.rw_parley_k67_least_stuck_and_looping_trace).prog) (w := w) (base := base) (d i__law_once j__law_once)
    have k_onceS := c_onceS (P := (PySem.Challenge.rw_parley_k67_least_stuck_and_looping_trace).prog) (w := w) (base := base) (d i__law_once j__law_once)
    have k_onceI := c_onceI (P := (PySem.Challenge.rw_parley_k67_least_stuck_and_looping_trace).prog) (w := w) (base := base) (d i__law_once j__law_once)
    have k_system := c_system (d i__law_system j__law_system) (z j_range) k_draws
    have e_system := own_of X G cd j_BadSystem j_exc_BadSystem j_exm_BadSystem
    have e_argument := own_of X G cd j_BadArgument j_exc_BadArgument j_exm_BadArgument
    have k_check := c_checkX (d i_check_edges j_check_edges) (z j_sorted) (z j_set) (gi j_MOST_STATES) e_system k_action
    have TX : SysTxt K (He.ga K "System") := ⟨He.cls_ok (cd.fact _ j_cls_System), He.noat_ok (cd.fact _ j_noat_System_count), He.noat_ok (cd.fact _ j_noat_System_edges), He.noat_ok (cd.fact _ j_noat_System__leaving), He.noat_ok (cd.fact _ j_noat_System__targets)⟩
    obtain ⟨fi, Fi⟩ := cd.def_ _ i_System___init__
    obtain ⟨ft, Ft⟩ := cd.def_ _ i_System_targets
    obtain ⟨fs, Fs⟩ := cd.def_ _ i_System__check_state
    obtain ⟨flv, Flv⟩ := cd.def_ _ i_System_leaving
    have o_init := c_initX (P := (PySem.Challenge.rw_parley_k67_least_stuck_and_looping_trace).prog) (w := w) (mg := mg) (base := base) TX Fi (z j_range) (z j_sorted) (z j_set) (z j_tuple) k_check
    have b_init : L2.Binds K fi ["self", "count", "edges"] [] := Fi.bindsN fun _ _ _ _ _ _ us hl => match us, hl with | [_, _, _], _ => rfl
    have k_mk : VE.MakX (PySem.Challenge.rw_parley_k67_least_stuck_and_looping_trace).prog w K mg base 5 "System" (He.ga K "System") (spInitX K (He.ga K "System") (He.ga K "BadSystem")) := ⟨_, fi, _, He.mkr_ok (cd.fact _ j_mkr_System), o_init, He.glo_ok X G (cd.fact _ j_System), b_init⟩
    have k_state := c_stateX (P := (PySem.Challenge.rw_parley_k67_least_stuck_and_looping_trace).prog) (w := w) (mg := mg) (base := base) TX (He.meth_ok (cd.fact _ j_meth_System__check_state)) Fs e_argument
    have k_targets := c_targetsX TX (He.meth_ok (cd.fact _ j_meth_System_targets)) Ft (z j_list) k_state
    have k_leaving := c_leavingX TX (He.meth_ok (cd.fact _ j_meth_System_leaving)) Flv (z j_list) k_state
    have k_closure := c_closure (d i_closure j_closure) (z j_list) (z j_set) (z j_sorted) (z j_tuple) (VX.metCalm k_targets)
    have k_after := c_after TX (d i_after j_after) k_closure (VX.metCalm k_targets)
    have k_states := c_states (d i_states_after j_states_after) k_closure k_after
    have k_among := c_among (d i_diverging_among j_diverging_among) (z j_tuple) (VX.metCalm k_targets)
    have k_dvg := c_diverging TX (d i_diverging j_diverging) (z j_list) (z j_range) k_among
    have k_cls := c_cls (P := (PySem.Challenge.rw_parley_k67_least_stuck_and_looping_trace).prog) (w := w) (base := base) (d i__law_closed j__law_closed) (z j_list) (z j_len) (z j_range) (z j_sorted) (z j_tuple)
    have k_aftL := c_aftL (d i__law_after j__law_after) (z j_sorted) k_cls k_onceI
    have k_actL := c_actL (d i__law_actions j__law_actions) (z j_sorted) k_onceS
    have k_ltr := c_ltr (d i__law_traces j__law_traces) (z j_range) (z j_len) k_cls k_aftL k_actL
    have k_lost := c_lost (P := (PySem.Challenge.rw_parley_k67_least_stuck_and_looping_trace).prog) (w := w) (base := base) (d i__law_lost j__law_lost) (z j_list) (z j_range) (z j_len) (z j_tuple)
    have k_plc := MG.c_plc (d i__law_places j__law_places) (z j_range) (z j_len) k_cls k_aftL k_actL
    have k_dead := MG.c_dead (P := (PySem.Challenge.rw_parley_k67_least_stuck_and_looping_trace).prog) (w := w) (base := base) (d i__law_is_dead j__law_is_dead)
    have k_first := MG.c_first (P := (PySem.Challenge.rw_parley_k67_least_stuck_and_looping_trace).prog) (w := w) (base := base) (d i__law_first j__law_first) (z j_len) (z j_range)
    have k_npI := MG.MGI.c_np (P := (PySem.Challenge.rw_parley_k67_least_stuck_and_looping_trace).prog) (w := w) (base := base) (kf := 4) (d i_new_places j_new_places) (z j_list)
    have k_npB := MG.MGB.c_np (P := (PySem.Challenge.rw_parley_k67_least_stuck_and_looping_trace).prog) (w := w) (base := base) (kf := 4) (d i_new_places j_new_places) (z j_list)
    have k_tbI := MG.c_tbG (P := (PySem.Challenge.rw_parley_k67_least_stuck_and_looping_trace).prog) (w := w) (base := base) (kf := 4) MG.KI (d i_targets_by_action j_targets_by_action)
    have k_tbB := MG.c_tbG (P := (PySem.Challenge.rw_parley_k67_least_stuck_and_looping_trace).prog) (w := w) (base := base) (kf := 4) (MG.KB (PySem.Challenge.rw_parley_k67_least_stuck_and_looping_trace).prog w K) (d i_targets_by_action j_targets_by_action)
    have k_tog := c_tog (P := (PySem.Challenge.rw_parley_k67_least_stuck_and_looping_trace).prog) (w := w) (base := base) (d i_trace_of_group j_trace_of_group) (z j_tuple) (z j_reversed)
    have k_leaI := MG.MGI.c_lea (d i_least_trace j_least_trace) (z j_len) (z j_any) (z j_sorted) k_npI k_tbI k_tog
    have k_leaB := MG.MGB.c_lea (d i_least_trace j_least_trace) (z j_len) (z j_any) (z j_sorted) k_npB k_tbB k_tog
    have k_tick := MG.c_tick (d i_ticking_edges j_ticking_edges) (VX.metCalm k_leaving)
    have k_isS := MG.c_isStuck (d i_is_stuck_after j_is_stuck_after) (z j_len) (z j_any) k_states (VX.metCalm k_leaving)
    have tb1 : TabB base mg cs (He.cT K tSt).2 := by
      have t := hTB _ (List.mem_map.mpr ⟨tSt, by simp [tf], rfl⟩)
      rw [ecs] at t
      exact t
    have tb2 : TabB base mg cl (He.cT K tLo).2 := by
      have t := hTB _ (List.mem_map.mpr ⟨tLo, by simp [tf], rfl⟩)
      rw [ecl] at t
      exact t
    have k_stk := MG.c_stk (T := TB K) Fss (He.glo_ok X G (cd.fact _ j_stuck_trace)) hcs tb1 (by unfold TB; simp) (fun p hp e => by
      unfold TB at hp
      rcases List.mem_cons.mp hp with h | hp
      · rw [h]
      · rw [List.mem_singleton.mp hp] at e; exact absurd e.symm dn) k_leaB k_tick (VX.metCalm k_leaving)
    have k_loo := MG.c_loo (T := TB K) Fll (He.glo_ok X G (cd.fact _ j_looping_trace)) hcl tb2 (by unfold TB; simp) (fun p hp e => by
      unfold TB at hp
      rcases List.mem_cons.mp hp with h | hp
      · rw [h] at e; exact absurd e dn
      · rw [List.mem_singleton.mp hp]) k_leaI k_dvg (VX.metCalm k_leaving)
    exact MG.f_law (CB := He.ga K "BadArgument") F TX (z j_range) (z j_sorted) (z j_len) k_pool k_pick k_system k_cell k_onceE k_like k_cls k_aftL k_actL k_lost k_plc k_dead k_first k_ltr k_stk k_loo k_isS (VX.makCalm k_mk)
end
end LW
open PySem PySem.W PySem.Calls PyProof.Rows
theorem PySem.Challenge.cw_parley_k67_least_stuck_and_looping_trace_holds : PySem.Challenge.rw_parley_k67_least_stuck_and_looping_trace.Holds := by
  w_on; o_law
  refine HandSHeadRun.head_any (r := OpenLaw.row PySem.Challenge.rw_parley_k67_least_stuck_and_looping_trace) (q := view (OpenLaw.row PySem.Challenge.rw_parley_k67_least_stuck_and_looping_trace).prog [LW.lawAt]) (H := LW.hk) (ob := LW.ob) (M := 8000) (loose := LW.loose) (d := HandSHeadRun.topDef (OpenLaw.row PySem.Challenge.rw_parley_k67_least_stuck_and_looping_trace).prog LW.lawAt) (kwd := []) LW.ob_eq
    (by kernel_rfl) (fun s => by kernel_rfl) LW.run (by kernel_rfl) (by kernel_rfl) (by kernel_rfl) (by rfl) (by first | assumption | decide +kernel) (by decide +kernel) ⟨rfl, rfl, rfl, rfl, rfl, by decide +kernel⟩ ?hw ?hc
  case hw => w_witness2
  case hc =>
    refine LamX.walk_ofTsE (l := PySem.Challenge.rw_parley_k67_least_stuck_and_looping_trace) (n := 63) (k := 14) (x := "script") (CX := fun _ => L2.CX0) rfl (by decide) (by kernel_rfl) ⟨rfl, by decide, by decide⟩ ?F (fun _ _ _ _ _ z => z)
    intro w mg fa h Y G hmg0
    obtain ⟨K, KX, c⟩ := Y
    have hmg : mg ("law" : PySem.Str) = some (.ref fa) := by
      have e : (HandSHeadRun.topDef (OpenLaw.row PySem.Challenge.rw_parley_k67_least_stuck_and_looping_trace).prog LW.lawAt).name = ("law" : PySem.Str) := by kernel_rfl
      rw [← e]
      exact hmg0
    exact ⟨K, KX, LW.facts KX G hmg c⟩

