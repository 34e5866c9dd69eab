import PyProof.Rows.All
import Wide.All
import OpenK.AllK
import Wide.FinOn
import KE.KLam
import HandS.ForMost
import HandS.Codes
import HandS.Lambda
import HandS.Nested
import HandS.NestedK
import HandS.CallLocal
import KE.DatumOrd
import HandS.Rev
import HandS.SortInts
import KE.SortData
import HandS.SortKw
import KE.KDictLaws
import HandS.SetKeys
import HandS.Wide
import HandS.WideMore
import HandS.Conv
import HandS.IsInst
import HandS.WrittenGet
import HandS.HeadHook4
import HandS.HeadWalk
import HandS.Defaults
import HandS.TupSets
import HandS.OwnEq
import HandS.Deep
import HandS.DictTup
import PyProof.DictMoreH
import PySem.Challenge.RW_parley_k20_what_is_allowed
import HandS.Walk
import HandS.ExcOwn
import HandS.TryOnly
import HandS.HeadHook1
import HandS.Style
import HandS.Strs
import KE.DataCmp
import HandS.DictComp
import HandS.TupAny
import KE.SortKeyHeap
import HandS.Exc
import PyProof.TupleOfSeq
import KE.GoesEnumKw
import HandS.Text
import HandS.More
import HandS.HeadHook3
import KE.KDictWalk
import HandS.ExcInit
import HandS.ExcField
import HandS.ClsMeth
import HandS.FStr
import HandS.TryMany
import HandS.Call
import HandS.ExcIs
import HandS.HotCalls
import HandS.Head0
import HandS.Head1
import HandS.Head2
import HandS.HeadEnd
import HandS.HeadHook2
set_option Elab.async false
set_option linter.all false
set_option maxRecDepth 100000
set_option maxHeartbeats 4000000
namespace VA
open PySem PySem.Spec PyProof.Rows L2 LamX NdefX
/-! lambdas as made functions: F's statements are not used, b is the expression -/
def LamO (f : Addr) (F : NF) (b : Expr) : HO :=
  .ext fun h => ∃ (od : Option Addr) (sl : Array (Option Value)) (pm ctv : Value),
    h.get? f = some (⟨.type "function", od, .func (PySem.W.kla_fn F.name F.qual F.params b F.scope F.cl pm (.ref F.c) ctv), sl⟩ : Obj)
theorem lamO_ne {f : Addr} {F : NF} {b : Expr} (ps : Array Value) : LamO f F b ≠ .tbl ps := by
  intro z; unfold LamO at z; cases z
theorem lamO_at {P : Program} {w : World} {H : Hp} {h : Heap} {f : Addr} {F : NF} {b : Expr}
    (hok : HOk P w H h) (e : H f = some (LamO f F b)) :
    ∃ (od : Option Addr) (sl : Array (Option Value)) (pm ctv : Value),
      h.get? f = some (⟨.type "function", od, .func (PySem.W.kla_fn F.name F.qual F.params b F.scope F.cl pm (.ref F.c) ctv), sl⟩ : Obj) := by
  have z := hok f _ e
  exact z.1
abbrev lamF (q : Str) (params : Arguments) (scope : Scope) (cl : List (Str × Addr)) (c : Addr) : NF :=
  ⟨"<lambda>", q, params, [], scope, cl, c⟩
section
variable {X : Cx} {pins : List (Addr × Obj)} {σ : L2.St} {H : Hp} {s : Shared}
theorem inv_lam {F : NF} {b : Expr} {o : Obj} {t' : Nat} {pm ctv : Value} (I : Inv X pins σ H s)
    (ho : o = { cls := .type "function", data := .func (PySem.W.kla_fn F.name F.qual F.params b F.scope F.cl pm (.ref F.c) ctv) }) :
    Inv X pins σ (upd H s.heap.objs.size (LamO s.heap.objs.size F b)) { s with heap := s.heap.push o, toks := t' } := by
  subst ho
  have e : (s.heap.push ({ cls := .type "function", data := .func (PySem.W.kla_fn F.name F.qual F.params b F.scope F.cl pm (.ref F.c) ctv) } : Obj)).get? s.heap.objs.size
      = some ({ cls := .type "function", data := .func (PySem.W.kla_fn F.name F.qual F.params b F.scope F.cl pm (.ref F.c) ctv) } : Obj) :=
    Heap.get?_push_size _ rfl
  refine I.laid (a := s.heap.objs.size) (fun b u q => Heap.get?_push_of_some _ q) (Nat.le_refl _) ⟨⟨_, _, pm, ctv, e⟩, ⟨_, e⟩, ?_⟩
  rintro h1 h2 ⟨od, sl, p, t, z⟩ st
  exact ⟨od, sl, p, t, st _ z⟩
theorem lam_mk {T : List (Addr × Str)} {c P : Addr} {params : Arguments} {body : Expr} {scope : Scope} {pos : Pos}
    {E : Value → Shared → Prop} {Q : Value → Shared → Prop} (I : Inv X pins σ H s) (TB : TabB X.base X.mg c P)
    (hcode : X.env.code = .ref c) (hm : (P, X.env.qual ++ "<lambda>") ∈ T)
    (hu : ∀ p ∈ T, p.1 = P → p.2 = X.env.qual ++ "<lambda>") (hT : Tabs T H)
    (hdef : defaultsOf params X.env = ([], []))
    (hfree : ∀ y ∈ scope.names, y.2 = .free → ∃ c, X.env.cells.lookup y.1 = some c)
    (h : ∀ (f c' : Addr) (H1 : Hp) (s' : Shared), Inv X pins σ H1 s' → ExtN H H1 → (∀ b, H1 b = Option.none → H b = Option.none) →
      Tabs T H1 → H f = none →
      H1 f = some (LamO f (lamF (X.env.qual ++ "<lambda>") params scope (cloFrom X.env.cells scope.names []) c') body) →
      H1 c' = some (CodeO c' (X.env.qual ++ "<lambda>")) → Q (.ref f) s') :
    wpAny (model X.prog X.w) X.A (eval (.Lambda params body scope pos) X.env) Q E s := by
  obtain ⟨ps, hP, ht, ha⟩ := hT _ hm
  refine PySem.W.kla_eval hdef ?_
  have bP : s.heap.BuiltinsAt X.mg P := TB.bm.keeps I.bk
  have hP' : s.heap.get? P = some { cls := .none, data := .fields ps } := I.hok P _ hP
  cases hc : codeAmong pos ps.toList with
  | none =>
    refine PySem.W.kla_makeFunction (mg := X.mg) (c := c) (P := P) (ps := ps) (closure_ok hfree) I.ok.glob (I.mod.glob.keeps I.bk)
      hcode (TB.code.keeps I.bk) hP' ht hc TB.gP bP ?_
    rintro c' ctv h' tk hx hge hlt ⟨c2, oc, vs, t, e2, hoc, hd, hv⟩ htb
    cases e2
    have nC : H c' = none := I.hok.fresh hge
    have I1 := inv_table (t' := tk) (q := X.env.qual ++ "<lambda>") (more := #[rawInt pos.line, rawInt pos.col, .ref c']) (h' := h')
      I hP (fun b o hb e => hx b o hb e) htb hge ⟨oc, vs, t, hoc, hd, hv⟩
    have hE : ExtN H (upd (upd H P (.tbl (ps ++ #[rawInt pos.line, rawInt pos.col, .ref c']))) c' (CodeO c' (X.env.qual ++ "<lambda>"))) := by
      intro b o e n
      have n1 : b ≠ P := fun z => n ps (Option.some.inj (e.symm.trans (by rw [z]; exact hP)))
      rw [upd_ne (ne_of_none e nC), upd_ne n1, e]
    have eL : (ps ++ #[rawInt pos.line, rawInt pos.col, .ref c']).toList = ps.toList ++ [rawInt pos.line, rawInt pos.col, .ref c'] := by simp
    have T1 : Tabs T (upd (upd H P (.tbl (ps ++ #[rawInt pos.line, rawInt pos.col, .ref c']))) c' (CodeO c' (X.env.qual ++ "<lambda>"))) := by
      intro p hp
      by_cases hb : p.1 = P
      · rw [hu p hp hb, hb]
        refine ⟨_, by rw [upd_ne (ne_of_none hP nC), upd_same], by rw [eL]; exact PySem.TriplesOk_snoc _ _ _ _ ht, fun p' cv hcv => ?_⟩
        rw [eL] at hcv
        rcases among_app _ ht hcv with z | z
        · obtain ⟨c0, e1, e2⟩ := ha p' cv z
          exact ⟨c0, e1, hE _ _ e2 codeO_ne⟩
        · exact ⟨c', z, upd_same⟩
      · obtain ⟨ps', a1, a2, a3⟩ := hT p hp
        refine ⟨ps', ?_, a2, fun p' cv hcv => ?_⟩
        · rw [upd_ne (ne_of_none a1 nC), upd_ne hb, a1]
        · obtain ⟨c0, e1, e2⟩ := a3 p' cv hcv
          exact ⟨c0, e1, hE _ _ e2 codeO_ne⟩
    have nF := I1.hok.fresh (Nat.le_refl _)
    have I2 := inv_lam (F := lamF (X.env.qual ++ "<lambda>") params scope (cloFrom X.env.cells scope.names []) c') (b := body) (t' := tk)
      (pm := (X.mg "__name__").getD .none) (ctv := ctv) I1 rfl
    refine h h'.objs.size c' _ _ I2 ?_ (fun b e => upd_none (upd_none (upd_none e))) (T1.ext fun b o e => ?_)
      (I.hok.fresh (Nat.le_trans hge (Nat.le_of_lt hlt))) upd_same ?_
    · intro b o e n
      have e1 := hE b o e n
      exact (upd_ne (ne_of_none e1 nF)).trans e1
    · exact (upd_ne (ne_of_none e nF)).trans e
    · exact (upd_ne (Nat.ne_of_lt hlt)).trans upd_same
  | some cv =>
    obtain ⟨c', e, hco⟩ := ha pos cv hc
    subst e
    refine PySem.W.kla_makeFunctionHit (mg := X.mg) (c := c) (P := P) (ps := ps) (closure_ok hfree) I.ok.glob (I.mod.glob.keeps I.bk)
      hcode (TB.code.keeps I.bk) hP' ht hc bP ?_
    intro ctv h' tk hx hsz
    have I1 : Inv X pins σ H { s with heap := h', toks := tk } := I.kept hx
    have nF : H h'.objs.size = none := I1.hok.fresh (Nat.le_refl _)
    have I2 := inv_lam (F := lamF (X.env.qual ++ "<lambda>") params scope (cloFrom X.env.cells scope.names []) c') (b := body) (t' := tk)
      (pm := (X.mg "__name__").getD .none) (ctv := ctv) I1 rfl
    refine h h'.objs.size c' _ _ I2 ?_ (fun b e => upd_none e) (hT.ext fun b o e => ?_) nF upd_same ?_
    · intro b o e n
      exact (upd_ne (ne_of_none e nF)).trans e
    · exact (upd_ne (ne_of_none e nF)).trans e
    · exact (upd_ne (ne_of_none hco nF)).trans hco
/-- the reading of «lambda ..: b» as a value -/
def tLam (T : List (Addr × Str)) (mk : Addr → NF) (b : Expr) : TE := fun σ H Q => Tabs T H ∧
  ∀ (f c' : Addr) (H1 : Hp), ExtN H H1 → (∀ b, H1 b = Option.none → H b = Option.none) → Tabs T H1 → H f = none →
    H1 f = some (LamO f (mk c') b) → H1 c' = some (CodeO c' (mk c').qual) → Q (.ref f) H1
theorem pe_lam {T : List (Addr × Str)} {c P : Addr} {params : Arguments} {body : Expr} {scope : Scope} {pos : Pos}
    (TB : TabB X.base X.mg c P) (hcode : X.env.code = .ref c) (hm : (P, X.env.qual ++ "<lambda>") ∈ T)
    (hu : ∀ p ∈ T, p.1 = P → p.2 = X.env.qual ++ "<lambda>") (hdef : defaultsOf params X.env = ([], []))
    (hfree : ∀ y ∈ scope.names, y.2 = .free → X.env.scope.names.lookup y.1 = some .cell ∨ X.env.scope.names.lookup y.1 = some .free) :
    PE X (.Lambda params body scope pos) (tLam T (lamF (X.env.qual ++ "<lambda>") params scope (cloFrom X.env.cells scope.names [])) body) := by
  refine ⟨fun pins s σ H Q I h => ?_⟩
  obtain ⟨hT, h⟩ := h
  refine lam_mk I TB hcode hm hu hT hdef (fun y hy e => ?_) fun f c' H1 s' I1 eN nn T1 f0 f1 c1 => ?_
  · exact (hfree y hy e).elim (fun z => I.ok.has _ (.inl z)) fun z => I.ok.has _ (.inr z)
  · exact ⟨.ref f, H1, I1, rfl, h f c' H1 eN nn T1 f0 f1 c1⟩
end
/-! a value that may be called: φ tells what must stand in the heap -/
structure VCall (P : Program) (w : World) (K : PySem.W.Frag) (mg : Str → Option Value) (base : Heap) (k : Nat) (f : Addr) (φ : Hp → Prop) (sp : Sp) : Prop where
  fn : ∀ (h : Heap) (H : Hp), HOk P w H h → K.In h → φ H → PySem.W.FnAt f h
  run : ∀ (A : Around) (outer : List Env) (s : Shared) (H : Hp) (us : List Value) (vs : List V) (Q : VK) (E : XK), Room k A →
    Env0 P w K mg base A outer s H → φ H → Vals vs us → sp vs H Q E →
    codeAny (model P w) A (.call (.ref f) ⟨us, []⟩) (CR CX0 outer P w H s Q E) s
section
variable {P : Program} {w : World} {K : PySem.W.Frag} {mg : Str → Option Value} {base : Heap} {k j : Nat} {f : Addr} {φ : Hp → Prop} {sp sp' : Sp}
theorem VCall.mono (c : VCall P w K mg base j f φ sp) (h : j ≤ k) : VCall P w K mg base k f φ sp :=
  ⟨c.fn, fun A outer s H us vs Q E hr => c.run A outer s H us vs Q E (hr.mono h)⟩
theorem VCall.imp (c : VCall P w K mg base k f φ sp) (h : ∀ vs H Q E, sp' vs H Q E → sp vs H Q E) : VCall P w K mg base k f φ sp' :=
  ⟨c.fn, fun A outer s H us vs Q E hr e0 hf r q => c.run A outer s H us vs Q E hr e0 hf r (h _ _ _ _ q)⟩
/-- a def of the module -/
theorem VCall.def_ {fd : FuncData} {ps : List Str} (F : FnOk P w K mg base CX0 k f fd ps sp) (b : Binds K fd ps [])
    (lk : ∃ oc od sl, K.lookup f = some ⟨oc, od, .func fd, sl⟩) : VCall P w K mg base k f (fun _ => True) sp := by
  obtain ⟨oc, od, sl, lk⟩ := lk
  refine ⟨fun h H _ kin _ => ⟨oc, od, fd, sl, kin _ _ lk⟩, fun A outer s H us vs Q E hr e0 _ r q => ?_⟩
  have KX : K.In s.heap := e0.mod.kin.keeps fun b o e => (e0.bs b o e).1
  have hl : us.length = ps.length := by rw [← r.length]; exact F.len _ _ _ _ q
  have hb := b s us KX (by simpa using hl)
  rw [List.append_nil] at hb
  exact F.run A outer s H ⟨us, []⟩ us vs Q E hr e0 hb r q
end
end VA

set_option Elab.async false
set_option linter.all false
set_option maxRecDepth 100000
set_option maxHeartbeats 4000000
namespace VA
open PySem PySem.Spec PyProof.Rows L2 LamX NdefX
section
variable {prog : Program} {w : World} {A : Around} {E : Value → Shared → Prop} {s : Shared}
/-- the test of a slice of step one -/
def selF (a n : Int) (i : Nat) : Bool :=
  if (1 : Int) > 0 then a ≤ i && i < n && (i - a) % 1 == 0
  else n < i && i ≤ a && (a - i) % (-1) == 0
theorem sel_from (a n k : Nat) (hk : k < n) : selF (a : Int) (n : Int) k = decide (a ≤ k) := by
  unfold selF
  by_cases h : a ≤ k
  · have h1 : (a : Int) ≤ k := by omega
    have h2 : (k : Int) < n := by omega
    have h3 : ((k : Int) - a) % 1 = 0 := by omega
    simp [h, h1, h2, h3]
  · have h1 : ¬ (a : Int) ≤ k := by omega
    simp [h, h1]
theorem keep_from (a : Nat) : ∀ (xs : List Value) (i n : Nat), i + xs.length ≤ n →
    (xs.zipIdx i).filterMap (fun (x, k) => if selF (a : Int) (n : Int) k then none else some x) = xs.take (a - i)
  | [], i, n, _ => by simp
  | x :: xs, i, n, h => by
    have hn : i + 1 + xs.length ≤ n := by rw [List.length_cons] at h; omega
    have hk : i < n := by rw [List.length_cons] at h; omega
    rw [List.zipIdx_cons, List.filterMap_cons, keep_from a xs (i + 1) n hn]
    have hs := sel_from a n i hk
    by_cases q : a ≤ i
    · have e : a - i = 0 := by omega
      have e2 : a - (i + 1) = 0 := by omega
      simp [hs, q, e, e2]
    · have e : a - i = (a - (i + 1)) + 1 := by omega
      simp [hs, q, e]
theorem bounds_from {a n : Nat} (h : a ≤ n) : sliceBounds (some (a : Int)) none none n = ((a : Int), (n : Int), 1) := by
  simp only [sliceBounds, Option.getD_none]
  have h1 : ¬ ((a : Int) < 0) := by omega
  simp only [h1, if_false, show (1 : Int) > 0 by decide, if_true]
  congr 1
  omega
theorem delItem_tail {l sl : Addr} {items : List Value} {n : Nat} {vl : Value} {a : Nat} {Q : Unit → Shared → Prop}
    (e : s.heap.get? l = some { cls := .type "list", data := .seq items.toArray n }) (hs : s.heap.IsSliceOf sl vl .none .none)
    (pl : IsPart vl (some (a : Int))) (ha : a ≤ items.length) (hsz : items.length ≤ sizeLine)
    (h : Q () { s with heap := s.heap.update l (Obj.mapSeq fun xs => (xs.toList.zipIdx.filterMap fun (x, k) => if selF (a : Int) (items.length : Int) k then none else some x).toArray) }) :
    wpAny (model prog w) A (delItem (.ref l) (.ref sl)) Q E s := by
  have hl : s.heap.IsList l items.toArray := PySem.IsL.isList e
  obtain ⟨os, hos, hcs, hds⟩ := id hs
  have hTs : s.TypeIs (.ref sl) "slice" := ⟨os, hos, hcs⟩
  have hstep : ¬ ((rawPart none == rawInt 0) = true) := Bool.false_ne_true
  have hz' : ((fun xs : Array Value => (xs.toList.zipIdx.filterMap fun (x, k) => if selF (a : Int) (items.length : Int) k then none else some x).toArray) items.toArray).size ≤ sizeLine + 1 := by
    show (items.zipIdx.filterMap _).toArray.size ≤ _
    rw [List.size_toArray]
    refine Nat.le_trans (List.length_filterMap_le _ _) ?_
    rw [List.length_zipIdx]; omega
  unfold delItem
  try with_reducible refine wpAny_holding ?_
  first | refine wpAny_bind (wpAny_pure ?_) | skip
  refine wpAny_bind (wpAny_sequenceKey hl.typeIs (by decide) ?_)
  refine wpAny_bind (wpAny_callSpecial?_slot (name := Str.ofString "__delitem__") hl.typeIs PySem.F.slot_list_delitem
    (wpAny_call_entry PySem.F.slot_list_delitem hl.typeIs PySem.F.entry_list_delitem ?_ (PySem.F.args_list_delitem_2 _ _)))
  show wpAny _ _ (Builtin.List.listSubscript? (.ref sl) >>= _) _ _ s
  refine wpAny_bind ?_
  unfold Builtin.List.listSubscript?
  refine wpAny_bind (wpAny_specialOf hTs slice_no_index ?_)
  simp only [Option.isNone_none, if_true]
  refine wpAny_pure ?_
  show wpAny _ _ (typeOf (.ref sl) >>= _) _ _ s
  refine wpAny_bind (wpAny_typeOf hTs ?_)
  first
    | rw [if_neg (by decide)]
    | refine PySem.W.KFB.if_not (by decide) ?_
  rw [listSliceParts_eq]
  refine wpAny_bind (wpAny_bind (wpAny_field hos hds (x := .none) rfl (wpAny_bind (wpAny_listPart .none ?_))))
  rw [if_neg hstep]
  refine wpAny_bind (wpAny_field hos hds (x := vl) rfl (wpAny_bind (wpAny_listPart pl ?_)))
  refine wpAny_bind (wpAny_field hos hds (x := .none) rfl (wpAny_bind (wpAny_listPart .none (wpAny_pure ?_))))
  unfold Builtin.List.listItems
  refine wpAny_bind (wpAny_bind (wpAny_seqItems e rfl (wpAny_pure ?_)))
  refine wpAny_bind (wpAny_of_eq ((sliceIndices_raw (some (a : Int)) none none items.toArray.size (by simp)).trans (congrArg (pure : Int × Int × Int → Sem (Int × Int × Int)) (bounds_from (n := items.toArray.size) (by simpa using ha)))) ?_)
  refine wpAny_bind (wpAny_rule ?_)
  have esz : ((items.toArray.size : Nat) : Int) = (items.length : Int) := by rw [List.size_toArray]
  rw [esz]
  refine wpAny_bind (wpAny_updateSeq (hz := by rw [List.size_toArray]; exact hsz) (_hz' := hz') e rfl ?_)
  refine wpAny_bind (wpAny_letGo ?_)
  first
    | exact wpAny_bind (wpAny_pure (wpAny_pure ⟨.none, rfl, wpAny_pure h⟩))
    | exact wpAny_pure ⟨.none, rfl, wpAny_pure h⟩
end
section
variable {X : Cx} {pos tpos p2 : Pos}
/-- del xs[a:] of a list -/
def tDelFrom (to tl : TE) : TS := fun D σ H => to σ H fun x H1 => tl σ H1 fun y H2 =>
  ∃ (l : Addr) (xs : List V) (a : Nat), x = .ref l ∧ y = .int a ∧ H2 l = some (.lst xs) ∧ a ≤ xs.length ∧ D.nx σ (upd H2 l (.lst (xs.take a)))
theorem ps_delFrom {o lo : Expr} {to tl : TE} (ho : PE X o to) (hl : PE X lo tl) :
    PS X (.Delete [.Subscript o (.Slice (some lo) none none p2) tpos] pos) (tDelFrom to tl) := by
  refine ⟨fun pins s σ H D I h => ?_⟩
  refine wpAny_Delete (wpAny_deleteEach_cons (wpAny_delete_Subscript (thn (ho.run pins s σ H _ I h) fun u s1 ⟨x, H1, I1, rx, q1⟩ => ?_)))
  refine wpAny_Slice ?_
  rw [evalPart_some]
  refine thn (hl.run pins s1 σ H1 _ I1 q1) fun vl s2 ⟨y, H2, I2, ry, q2⟩ => ?_
  rw [evalPart_none]
  refine wpAny_pure (wpAny_pure ?_)
  obtain ⟨l, xs, a, ex, ey, hH, ha, q⟩ := q2
  subst ex
  subst ey
  cases (show u = Value.ref l from rx)
  obtain ⟨t, rfl⟩ := (show ∃ t, vl = Value.int (a : Int) t from ry)
  have I3 : Inv X pins σ H2 { s2 with heap := s2.heap.push { cls := .type "slice", data := .fields #[.int (a : Int) t, .none, .none] } } :=
    I2.kept (t' := s2.toks) fun b ob q => Heap.get?_push_of_some _ q
  obtain ⟨hz, its, n, rv, hlen, e⟩ := I3.lstM hH
  refine delItem_tail (n := n) e (Heap.IsSliceOf.new ..) (.int _ _) (by omega) (by omega) ?_
  refine wpAny_deleteEach_nil ⟨σ, upd H2 l (.lst (xs.take a)), ?_, q⟩
  refine I3.lset (its' := its.take a) (t' := s2.toks) hH e ?_ (rv.take _) (by rw [List.length_take]; omega)
  show (List.filterMap _ (its.toArray.toList.zipIdx)).toArray = _
  rw [List.toList_toArray]
  exact congrArg List.toArray (keep_from a its 0 its.length (by omega))
end
end VA

set_option Elab.async false
set_option linter.all false
set_option maxRecDepth 100000
set_option maxHeartbeats 4000000
namespace VA
open PySem PySem.Spec PyProof.Rows L2 LamX NdefX
theorem each_vals {β : Type} (emb : β → V) : ∀ {bs : List β} {us : List Value}, Vals (bs.map emb) us → PySem.W.EachIs (fun u b => RelV (emb b) u) us bs
  | [], us, r => by rw [List.map_nil] at r; cases r; exact .nil
  | b :: bs, us, r => by
    rw [List.map_cons] at r
    cases r with
    | cons h t => exact .cons h (each_vals emb t)
theorem vals_each {β : Type} (emb : β → V) : ∀ {bs : List β} {us : List Value}, PySem.W.EachIs (fun u b => RelV (emb b) u) us bs → Vals (bs.map emb) us
  | _, _, .nil => .nil
  | _, _, .cons h t => .cons h (vals_each emb t)
theorem each_reads {β : Type} {X : Cx} {pins : List (Addr × Obj)} {σ : L2.St} {H : Hp} {s : Shared} (I : Inv X pins σ H s) (emb : β → V) (enc : β → PyData) :
    ∀ {bs : List β} {us : List Value}, (∀ b ∈ bs, Dp X.K H (emb b) (enc b)) → Vals (bs.map emb) us → PySem.W.EachIs (fun u b => ∃ as, Reads s.heap u (enc b) as) us bs
  | [], us, _, r => by rw [List.map_nil] at r; cases r; exact .nil
  | b :: bs, us, hd, r => by
    rw [List.map_cons] at r
    cases r with
    | cons h t =>
      exact .cons (Dp.reads I _ _ _ (hd b List.mem_cons_self) h) (each_reads I emb enc (fun c hc => hd c (List.mem_cons_of_mem _ hc)) t)
/-- sorted(xs), any alike data: bs are the items, emb their values, enc their data -/
def rSortedB {β : Type} (K : PySem.W.Frag) (emb : β → V) (enc : β → PyData) : List V → Hp → VK → Prop := fun vs H Q =>
  ∃ (a : Addr) (bs : List β), vs = [V.ref a] ∧ SqL K H a (bs.map emb) ∧ (∀ b ∈ bs, Dp K H (emb b) (enc b)) ∧
    PySem.W.AllAlike (bs.map enc) ∧ PySem.W.Sortable (bs.map enc) ∧ (∀ b ∈ bs, (enc b).depth ≤ 8) ∧
    ∀ p : Addr, H p = none → Q (.ref p) (upd H p (.lst ((bs.mergeSort (PySem.W.dataLe false enc)).map emb)))
section
variable {X : Cx}
theorem cr_sortedB {β : Type} {k : Nat} (emb : β → V) (enc : β → PyData) (hr : Room k X.A) : CallR X (.builtin "sorted") (rSortedB X.K emb enc) := by
  intro pins s σ H vs us Q I r h
  obtain ⟨a, bs, rfl, hs, hd, hal, hk, hdp, q⟩ := h
  obtain ⟨its, rv, hl, hz⟩ := I.list hs
  rw [Vals.ref1 r]
  have hun := hr.un
  have hlen : bs.length ≤ sizeLine := by rw [List.length_map] at hz; exact hz
  refine PySem.W.sorted_data (R := fun u b => RelV (emb b) u) hl.isList (each_vals emb rv) (each_reads I emb enc hd rv) hal hk hlen
    (fun b hb => by have := hdp b hb; omega) fun out ho he => ?_
  obtain ⟨ep, he'⟩ := PyProof.Rows.sortedAll_at s.heap its out.toArray
  have hl2 : ((bs.mergeSort (PySem.W.dataLe false enc)).map emb).length ≤ sizeLine := by
    rw [List.length_map, List.length_mergeSort]; exact hlen
  exact ⟨.ref _, upd H (s.heap.objs.size + 1) (.lst ((bs.mergeSort (PySem.W.dataLe false enc)).map emb)),
    I.laid (t' := s.toks) (fun _ _ => PyProof.Rows.sortedAll_old) (Nat.le_succ _) ⟨hl2, out, ep, vals_each emb he, he'⟩, rfl, q _ (I.hok.fresh (Nat.le_succ _))⟩
/-- max(xs, default=d), whole numbers -/
def rMaxD (K : PySem.W.Frag) : List V → List V → Hp → VK → Prop := fun vs zs H Q =>
  ∃ (a : Addr) (ns : List Int) (d : Int), vs = [V.ref a] ∧ zs = [.int d] ∧ SqL K H a (ns.map V.int) ∧
    Q (.int (match ns with | [] => d | n :: r => r.foldl max n)) H
theorem reads_ints {h : Heap} : ∀ {us : List Value} {ns : List Int}, IntsAre us ns → ReadsAll h us (ns.map .int) []
  | _, _, .nil => .nil
  | _, _, .cons n t r => ReadsAll.cons (as := []) (bs := []) (.int n t) (reads_ints r)
theorem alike_ints (ns : List Int) : PySem.W.AlikeAll (ns.map .int) := by
  refine ⟨fun x hx y hy => ?_, fun x hx => ?_⟩
  · obtain ⟨n, _, rfl⟩ := List.mem_map.mp hx
    obtain ⟨m, _, rfl⟩ := List.mem_map.mp hy
    rfl
  · obtain ⟨n, _, rfl⟩ := List.mem_map.mp hx
    intro z; cases z
theorem depth_ints : ∀ ns : List Int, PyData.depthAll (ns.map PyData.int) = 0
  | [] => rfl
  | n :: r => by
    rw [List.map_cons]
    simp only [PyData.depthAll, PyData.depth, depth_ints r, Nat.max_self]
theorem cr_maxD {k : Nat} (hc : X.calm = true) (hr : Room k X.A) : CallRK X (.builtin "max") [Str.ofString "default"] (rMaxD X.K) := by
  intro pins s σ H vs zs us ws Q I r rz h
  obtain ⟨a, ns, d, rfl, rfl, hs, q⟩ := h
  obtain rfl := Vals.ref1 r
  obtain ⟨w1, rfl, e1⟩ := vals1 rz
  obtain ⟨t, rfl⟩ := e1
  obtain ⟨its, rv, hl, hz⟩ := I.list hs
  have hi := rv.ints
  have hun := hr.un
  have hin : X.A.handled = none := I.ok.hd hc
  refine PySem.W.max_list_default (xs := ns.map .int) hin hl.isList (by simpa using reads_ints (h := s.heap) hi) (alike_ints ns) (by rw [depth_ints]; omega)
    (fun e h' tk hk => ?_) fun y ys i v h' tk bs e hv hr2 hk => ?_
  · have e0 : ns = [] := List.map_eq_nil_iff.mp e
    subst e0
    exact ⟨.int d, H, I.kept (t' := tk) hk, ⟨t, rfl⟩, q⟩
  · cases ns with
    | nil => cases e
    | cons n rr =>
      rw [List.map_cons] at e
      injection e with e1 e2
      subst e1
      subst e2
      rw [PySem.W.maxD_ints] at hr2
      cases hr2 with
      | int z tz => exact ⟨.int (rr.foldl max n), H, I.kept (t' := tk) hk, ⟨tz, rfl⟩, q⟩
end
/-! calls of a value -/
section
variable {X : Cx} {k j i : Nat} {x : Str} {p pos : Pos} {e : Expr} {es : List Expr} {t : TA}
/-- x(..), x a name that holds a function value -/
def tCallVal (P : Program) (w : World) (K : PySem.W.Frag) (mg : Str → Option Value) (base : Heap) (k i : Nat) (t : TA) : TE := fun σ H Q =>
  ∃ (f : Addr) (φ : Hp → Prop) (sp : Sp), σ[i]? = some (some (.ref f)) ∧ VCall P w K mg base k f φ sp ∧ φ H ∧ t σ H fun vs H1 => φ H1 ∧ sp vs H1 Q E0
theorem pe_callVal (hr : Room j X.A) (hk : k ≤ j) (hN : X.N[i]? = some x) (hv : Vis X.env.scope x) (ha : PA X (e :: es) t)
    (hdb : (x == ("__debug__" : Str)) = false := by decide) (hcd : (x == ("__classdict__" : Str)) = false := by decide)
    (he : starEach (e :: es) X.env = (false, eval e X.env) :: starEach es X.env := by rfl) (hpl : (backTo pos (starEach es X.env)).any (·.1) = false := by rfl) :
    PE X (.Call (.Name x p) (e :: es) [] pos) (tCallVal X.prog X.w X.K X.mg X.base k i t) := by
  refine ⟨fun pins s σ H Q I h => ?_⟩
  obtain ⟨f, φ, sp, hs, c, hf, ht⟩ := h
  refine wpAny_Call_Name_kw (thn ((pe_var (pos := p) hN hv hdb hcd).run pins s σ H (fun v H1 => v = .ref f ∧ H1 = H) I ⟨.ref f, hs, rfl, rfl⟩) fun u s1 ⟨v, H1, I1, r1, q1⟩ => ?_)
  obtain ⟨ev, eH⟩ := q1
  subst ev
  subst eH
  obtain rfl : u = Value.ref f := r1
  refine PySem.W.callWith_F (first := []) (c.fn _ _ I1.hok I1.kIn hf) (thn (ha.run pos pins s1 σ _ _ I1 ht) fun us s2 ⟨vs, H2, I2, r, h2, q⟩ => ⟨c.fn _ _ I2.hok I2.kIn h2, ?_⟩) he hpl
  show wpAny _ _ (call (.ref f) us) _ _ _
  refine wpAny_call (codeAny_mono (c.run X.A X.stack s2 H2 us vs Q E0 (hr.mono hk) I2.env0 h2 r q) fun r s' hq => ?_)
  cases r with
  | error e => exact hq.elim
  | ok fl =>
    cases fl with
    | ret u => exact I2.after hq
    | next => exact hq.elim
    | brk => exact hq.elim
    | cont => exact hq.elim
end
/-- a lambda without captured names, by its expression -/
def lamAt (f : Addr) (F : NF) (b : Expr) : Hp → Prop := fun H => H f = some (LamO f F b) ∧ H F.c = some (CodeO F.c F.qual)
section
variable {P : Program} {w : World} {K : PySem.W.Frag} {mg : Str → Option Value} {base : Heap} {N ps : List Str} {F : NF} {b : Expr} {f : Addr} {k : Nat} {sp : Sp}
theorem VCall.lam (S : NScope N ps [] F.scope) (hcl : F.cl = [])
    (hb : ∀ (pm ctv : Value) (us : List Value), us.length = ps.length → bindArgs (PySem.W.kla_fn F.name F.qual F.params b F.scope F.cl pm (.ref F.c) ctv) ⟨us, []⟩ = pure (ps.zip us))
    (len : ∀ vs H Q E, sp vs H Q E → vs.length = ps.length)
    (hbody : ∀ (A : Around) (outer : List Env) (s : Shared) (H : Hp) (vs : List V) (Q : VK) (E : XK), Room k (A.deeper (envF F f s.heap.objs.size)) → lamAt f F b H → sp vs H Q E →
      ∃ t, PE (ncx CX0 P w K mg base N F f A outer s H E).nox b t ∧ t (startF N vs []) H Q) :
    VCall P w K mg base (k + 1) f (lamAt f F b) sp := by
  refine ⟨fun h H hok _ hf => ?_, fun A outer s H us vs Q E hr e0 hf r hsp => ?_⟩
  · obtain ⟨od, sl, pm, ctv, z⟩ := lamO_at hok hf.1
    exact ⟨_, od, _, sl, z⟩
  · have hl := len _ _ _ _ hsp
    have lim : s.heap.NoLimit := e0.mod.nolimit.keeps fun b o e => (e0.bs b o e).1
    obtain ⟨od, sl, pm, ctv, ho⟩ := lamO_at e0.hok hf.1
    refine PySem.W.kla_callFunE hr.depth ho rfl S.co S.gen rfl (codeO_at e0.hok hf.2) ?_
    rw [hb pm ctv us (by rw [← r.length]; exact hl)]
    refine wpAny_pure (wpAny_newFunctionEnv S.nocell (fun ⟨n, _⟩ hy => S.par n (List.of_mem_zip hy).1) (fun h₁ hns hsb => ⟨lim.fresh _ hsb, ?_⟩) S.kind)
    show codeAny _ _ (.expr b (envF F f s.heap.objs.size)) _ _
    have kp : ∀ b o, s.heap.get? b = some o → h₁.get? b = some o := fun b o e =>
      hsb.extBut b o (Nat.ne_of_lt (Heap.lt_size e)) (Heap.get?_push_of_some _ e)
    obtain ⟨t, ht, hq⟩ := hbody A outer s H vs Q E (hr.deeper _) hf hsp
    have C : CellsAt F.cl ([] : List Str) ([] : List (Option V)) s.heap H := by
      have no : ∀ (y : Str) (c : Addr), F.cl.lookup y ≠ some c := fun y c e => by
        rw [hcl] at e
        exact nomatch (show (none : Option Addr) = some c from e)
      exact ⟨rfl, fun y c e => absurd e (no y c), fun x y c e _ => absurd e (no x c), fun i y e => nomatch (show (none : Option Str) = some y from (by simpa using e))⟩
    have J : Inv (ncx CX0 P w K mg base N F f A outer s H E) [] (startF N vs []) H { s with heap := h₁, toks := s.toks + (ps.zip us).length } := inv_startN S hr.hd e0 hl r C hns kp
    refine PySem.W.kla_codeExpr (wpAny_mono (ht.nox.run [] _ (startF N vs []) H Q J hq) (fun v s' z => ?_) fun e s' z => z)
    obtain ⟨w', H', J', rv, q⟩ := z
    exact ⟨w', H', J'.os, J'.bare, J'.base, J'.hok, rv, q⟩
end
end VA

set_option Elab.async false
set_option linter.all false
set_option maxRecDepth 100000
set_option maxHeartbeats 4000000
namespace VS
open PySem PySem.Spec PyProof.Rows L2
/-! sets of keys (whole numbers and texts) that can be walked: as SetR, over the mixed keys -/
def kOf (e : Int × Value) : Key := match e.2 with
  | .int k _ => Sum.inl k
  | .str x _ => Sum.inr x
  | _ => Sum.inl 0
def Fit (w : World) (e : Int × Value) : Prop := ∃ k : Key, keyIs k e.2 = true ∧ e.1 = keyH w k
theorem kOf_is {e : Int × Value} {k : Key} (h : keyIs k e.2 = true) : kOf e = k := by
  unfold kOf
  rcases keyIs_shape h with ⟨i, t, rfl, q⟩ | ⟨x, t, rfl, q⟩ <;> rw [q]
theorem keyIs_kOf {w : World} {e : Int × Value} (g : Fit w e) (k : Key) : keyIs k e.2 = true ↔ kOf e = k := by
  obtain ⟨k0, h0, _⟩ := g
  have e0 := kOf_is h0
  constructor
  · exact kOf_is
  · intro z
    rw [e0] at z
    rw [← z]
    exact h0
theorem fit_scan {w : World} {e : Int × Value} (g : Fit w e) : e.2.scannable = true := by
  obtain ⟨k0, h0, _⟩ := g
  rcases keyIs_shape h0 with ⟨i, t, _, q⟩ | ⟨x, t, _, q⟩ <;> rw [q] <;> rfl
/-- the set at a: its members are those of S, n of them -/
def SetM (w : World) (h : Heap) (a : Addr) (S : Key → Bool) (n : Nat) : Prop :=
  ∃ ob es ep tb, h.get? a = some ob ∧ ob.ExactSet ∧ ob.data = .set es ep tb ∧ (∀ e ∈ es.toList, Fit w e) ∧ (es.toList.map kOf).Nodup ∧
    (∀ k, S k = true ↔ k ∈ es.toList.map kOf) ∧ es.size < scanBound ∧ tb.fits es.size = true ∧ es.size = n ∧ Ris tb.place.toList ∧
    (w.params.followText "set-order" = true ∨ tb.led = true)
section
variable {P : Program} {w : World} {h h' : Heap} {a : Addr} {S : Key → Bool} {n : Nat}
theorem SetM.at (m : SetM w h a S n) (kp : ∀ ob, h.get? a = some ob → h'.get? a = some ob) : SetM w h' a S n := by
  obtain ⟨ob, es, ep, tb, ho, r⟩ := m
  exact ⟨ob, es, ep, tb, kp ob ho, r⟩
theorem fit_elems {l : List (Int × Value)} (g : ∀ e ∈ l, Fit w e) : ElemsOf (mixKind P w) l := by
  intro e he
  obtain ⟨k, h1, h2⟩ := g e he
  exact ⟨⟨k, h1, h2⟩, fit_scan (g e he)⟩
theorem fit_mem {l : List (Int × Value)} (g : ∀ e ∈ l, Fit w e) (k : Key) : k ∈ l.map kOf ↔ ∃ e ∈ l, (mixKind P w).is k e.2 = true := by
  rw [List.mem_map]
  constructor
  · rintro ⟨e, he, q⟩; exact ⟨e, he, (keyIs_kOf (g e he) k).2 q⟩
  · rintro ⟨e, he, q⟩; exact ⟨e, he, (keyIs_kOf (g e he) k).1 q⟩
theorem SetM.setOf (m : SetM w h a S n) : h.SetOf (mixKind P w) a S n := by
  obtain ⟨ob, es, ep, tb, ho, hx, hd, g, nd, hm, hb, hf, hn, _⟩ := m
  exact ⟨ob, es, ep, tb, ho, hx, hd, fit_elems g, fun k => Iff.trans (hm k) (fit_mem g k), hb, hf, hn⟩
end
section
variable {P : Program} {w : World} {A : Around} {E : Value → Shared → Prop} {s : Shared} {a : Addr} {S : Key → Bool} {n : Nat}
theorem add_tailM {gv : Bool → Sem Unit} (hgv : ∀ (b : Bool) (z : Shared) (F : Unit → Shared → Prop), F () z → wpAny (model P w) A (gv b) F E z)
    {ob : Obj} {es : Array (Int × Value)} {ep : Nat} {tb : SetTable} (ho : s.heap.get? a = some ob) (hex : ob.ExactSet) (hd : ob.data = .set es ep tb)
    {e1 : Array (Int × Value)} {t1 : SetTable} {S1 : Key → Bool} (g1 : ∀ e ∈ e1.toList, Fit w e) (nd1 : (e1.toList.map kOf).Nodup)
    (m1 : ∀ k, S1 k = true ↔ k ∈ e1.toList.map kOf) (hb1 : e1.size < scanBound) (hf1 : t1.fits e1.size = true) (hr1 : Ris t1.place.toList)
    (hl1 : w.params.followText "set-order" = true ∨ t1.led = true) {wasDummy : Bool} {F : Option Bool → Shared → Prop}
    (hF : ∀ h', Heap.SameBut a s.heap h' → SetM w h' a S1 e1.size → F (some true) { s with heap := h' }) :
    wpAny (model P w) A (do
      storeSet a e1 t1
      if (!wasDummy && t1.tooFull) = true then do
          gv (relayAll t1 e1 (SetTable.grown e1.size)).2.2
          storeSet a (relayAll t1 e1 (SetTable.grown e1.size)).1 (relayAll t1 e1 (SetTable.grown e1.size)).2.1
          pure (some true)
        else pure (some true)) F E s := by
  have at1 := store_at (es' := e1) (t' := t1) ho hd
  have but1 := Heap.SameBut.update s.heap a (Obj.putSet e1 t1)
  refine wpAny_bind (wpAny_storeSet_of ho hd ?_ (fits_of_scanBound hb1))
  split
  · have p2 := relayAll_perm t1 e1 (SetTable.grown e1.size)
    have f2 := relayAll_fits t1 e1 (SetTable.grown e1.size)
    have r2 := relayAll_ris t1 e1 (SetTable.grown e1.size)
    have l2 := relayAll_led t1 e1 (SetTable.grown e1.size)
    generalize relayAll t1 e1 (SetTable.grown e1.size) = Y at p2 f2 r2 l2 ⊢
    obtain ⟨e2, t2, gave⟩ := Y
    dsimp only at p2 f2 r2 l2 ⊢
    have z2 : e2.size = e1.size := by rw [← Array.length_toList, p2.length_eq, Array.length_toList]
    have b2 : e2.size < scanBound := z2 ▸ hb1
    refine wpAny_bind (hgv _ _ _ (wpAny_bind (wpAny_storeSet_of at1 rfl ?_ (fits_of_scanBound b2))))
    have at2 := store_at (es' := e2) (t' := t2) at1 rfl
    have pk := p2.map kOf
    refine wpAny_pure (hF _ (but1.trans (Heap.SameBut.update _ a _)) ⟨_, e2, _, t2, at2, hex, rfl, ?_, ?_, ?_, b2, f2, z2, r2, ?_⟩)
    · intro e he; exact g1 e (p2.mem_iff.mp he)
    · exact pk.nodup_iff.mpr nd1
    · intro k; exact Iff.trans (m1 k) pk.mem_iff.symm
    · exact hl1.imp id fun z => by rw [l2]; exact z
  · exact wpAny_pure (hF _ but1 ⟨_, e1, _, t1, at1, hex, rfl, g1, nd1, m1, hb1, hf1, rfl, hr1, hl1⟩)
theorem add_hashedM {k : Key} {u : Value} {F : Bool → Shared → Prop} (hkey : (mixKind P w).is k u = true) (hsc : u.scannable = true)
    (m : SetM w s.heap a S n) (room : n + 1 < scanBound)
    (hF : ∀ h', Heap.SameBut a s.heap h' → SetM w h' a (fun j => S j || decide (j = k)) (if S k = true then n else n + 1) → F (!S k) { s with heap := h' }) :
    wpAny (model P w) A (setAddHashed a u ((mixKind P w).hash k)) F E s := by
  obtain ⟨ob, es, ep, tb, ho, hex, hd, g, nd, hm, hb, hf, hn, hr, hl⟩ := m
  have hel : ElemsOf (mixKind P w) es.toList := fit_elems g
  unfold setAddHashed setAddHashedIn
  refine wpAny_holding (wpAny_bind (wpAny_setState_of ho hd hf ?_))
  dsimp only
  rw [byScan_of hsc hb hel]
  simp only [↓reduceIte]
  unfold setAddByScan
  refine wpAny_bind (wpAny_bind (wpAny_rule (wpAny_bind (wpAny_setScan_of hkey ho hd hf hel ?_))))
  cases hfi : List.findIdx? (fun e => (mixKind P w).is k e.2) es.toList with
  | some j =>
    obtain ⟨hj, pj, _⟩ := List.findIdx?_eq_some_iff_getElem.mp hfi
    have inS : S k = true := (hm k).2 ((fit_mem (P := P) (w := w) g k).2 ⟨es.toList[j], List.getElem_mem hj, pj⟩)
    dsimp only
    have mem : ∀ i, (S i || decide (i = k)) = true ↔ i ∈ es.toList.map kOf := by
      intro i
      rw [Bool.or_eq_true, decide_eq_true_eq, ← hm i]
      exact ⟨fun z => z.elim id (fun e => e ▸ inS), .inl⟩
    have q := hF s.heap (Heap.SameBut.refl a s.heap) ⟨ob, es, ep, tb, ho, hex, hd, g, nd, mem, hb, hf, by rw [if_pos inS]; exact hn, hr, hl⟩
    rw [inS] at q
    exact wpAny_pure (wpAny_pure q)
  | none =>
    have out : k ∉ es.toList.map kOf := by
      intro z
      obtain ⟨e, he, q⟩ := (fit_mem (P := P) (w := w) g k).1 z
      have c := List.findIdx?_eq_none_iff.mp hfi e he
      rw [q] at c
      cases c
    have offS : S k = false := by
      cases q : S k with
      | false => rfl
      | true => exact absurd ((hm k).1 q) out
    dsimp only
    have gw : ∀ (b : Bool) {z : Shared} {F' : Unit → Shared → Prop}, F' () z →
        wpAny (model P w) A (match b with | true => rule "set.scan.the-table-gave-way" | false => pure ()) F' E z := by
      intro b z F' q
      cases b
      · exact wpAny_pure q
      · exact wpAny_rule q
    have p1 := layNew_perm tb es ((mixKind P w).hash k) u
    have f1 := layNew_fits tb es ((mixKind P w).hash k) u
    have r1 := layNew_ris tb es ((mixKind P w).hash k) u hr
    have l1 := layNew_led tb es ((mixKind P w).hash k) u
    generalize layNew tb es ((mixKind P w).hash k) u = Y at p1 f1 r1 l1 ⊢
    obtain ⟨e1, t1, wasDummy, gave⟩ := Y
    dsimp only at p1 f1 r1 l1 ⊢
    rw [Array.toList_push] at p1
    have pc : e1.toList.Perm (((mixKind P w).hash k, u) :: es.toList) := p1.trans (List.perm_append_singleton _ _)
    have hk1 : kOf ((mixKind P w).hash k, u) = k := kOf_is hkey
    have pk : (e1.toList.map kOf).Perm (k :: es.toList.map kOf) := by
      have z := pc.map kOf
      rw [List.map_cons, hk1] at z
      exact z
    have g1 : ∀ e ∈ e1.toList, Fit w e := by
      intro e he
      rcases List.mem_cons.mp (pc.mem_iff.mp he) with z | z
      · rw [z]; exact ⟨k, hkey, rfl⟩
      · exact g e z
    have nd1 : (e1.toList.map kOf).Nodup := pk.nodup_iff.mpr (List.nodup_cons.mpr ⟨out, nd⟩)
    have m1 : ∀ i, (S i || decide (i = k)) = true ↔ i ∈ e1.toList.map kOf := by
      intro i
      rw [Bool.or_eq_true, decide_eq_true_eq, hm i, pk.mem_iff, List.mem_cons]
      exact Or.comm
    have sz : e1.size = n + 1 := by rw [← Array.length_toList, pc.length_eq, List.length_cons, Array.length_toList, hn]
    have b1 : e1.size < scanBound := by rw [sz]; exact room
    have led1 : w.params.followText "set-order" = true ∨ t1.led = true := hl.imp id fun z => by rw [l1]; exact z
    have fin : ∀ h', Heap.SameBut a s.heap h' → SetM w h' a (fun j => S j || decide (j = k)) e1.size → F true { s with heap := h' } := by
      intro h' sb r
      have q := hF h' sb
      rw [offS] at q
      rw [sz] at r
      exact q r
    refine wpAny_bind (gw _ ?_)
    split
    · refine wpAny_bind ?_
      rw [hashByValue_scannable 8 hsc]
      refine wpAny_pure (add_tailM ?_ ho hex hd g1 nd1 m1 b1 ?_ ?_ ?_ fun h' sb r => ?_)
      · intro b z F' q
        cases b
        · first | exact wpAny_pure q | exact wpAny_rule q
        · first | exact wpAny_rule q | exact wpAny_pure q
      · first | (split <;> first | exact f1 | exact SetTable.fits_plain_off f1) | exact f1
      · first | (split <;> exact r1) | exact r1
      · first | (split <;> exact led1) | exact led1
      · dsimp only; exact wpAny_pure (fin h' sb r)
    · refine wpAny_bind (wpAny_pure ?_)
      simp only [↓reduceIte]
      refine add_tailM ?_ ho hex hd g1 nd1 m1 b1 f1 r1 led1 fun h' sb r => ?_
      · intro b z F' q
        cases b
        · first | exact wpAny_pure q | exact wpAny_rule q
        · first | exact wpAny_rule q | exact wpAny_pure q
      · dsimp only; exact wpAny_pure (fin h' sb r)
theorem call_addM {k : Key} {u : Value} {F : Value → Shared → Prop} (hkey : (mixKind P w).is k u = true) (hsc : u.scannable = true)
    (m : SetM w s.heap a S n) (room : n + 1 < scanBound)
    (hF : ∀ h', Heap.SameBut a s.heap h' → SetM w h' a (fun j => S j || decide (j = k)) (if S k = true then n else n + 1) → F .none { s with heap := h', toks := s.toks + 1 }) :
    wpAny (model P w) A (call (.builtin "set.add") [.ref a, u]) F E s := by
  have so : s.heap.SetOf (mixKind P w) a S n := m.setOf
  refine wpAny_call_entry PySem.F.slot_set_add so.typeIs PySem.F.entry_set_add ?_ (PySem.F.args_set_add_2 _ _)
  unfold Builtin.«set.add» Builtin.Frozenset.oneOther
  simp only [List.isEmpty_nil, bind_assoc]
  unfold Builtin.Frozenset.addrOf setAdd
  refine wpAny_bind (wpAny_pure ?_)
  try dsimp only
  refine wpAny_bind (wpAny_pure ?_)
  try dsimp only
  refine wpAny_bind (wpAny_holding (wpAny_bind ((mixKind P w).pyHash hkey ?_)))
  refine add_hashedM (s := { s with toks := s.toks + 1 }) hkey hsc m room fun h' sb r => ?_
  show wpAny _ _ (ret Value.none) _ _ _
  exact wpAny_pure ⟨_, rfl, hF h' sb r⟩
theorem freshM {h : Heap} (w : World) : SetM w (h.push { cls := .type "set", dict := none, data := .set #[] 0 (.fresh 0 0 (!w.params.followText "set-order")) }) h.objs.size (fun _ => false) 0 := by
  refine ⟨_, #[], 0, _, Heap.get?_push_size _ rfl, ⟨rfl, rfl, rfl⟩, rfl, (fun e he => by simp at he), (by simp), (fun k => by simp), (by decide), (by rfl), rfl, List.Pairwise.nil, ?_⟩
  show _ ∨ (!w.params.followText "set-order") = true
  cases w.params.followText "set-order"
  · exact .inr rfl
  · exact .inl rfl
end
/-! over the layer -/
def SetMO (w : World) (a : Addr) (S : Key → Bool) (n : Nat) : HO := .ext fun h => SetM w h a S n
section
variable {X : Cx}
theorem setMO_new {w : World} {P : Program} {H : Hp} {h : Heap} {a : Addr} {S : Key → Bool} {n : Nat} (m : SetM w h a S n) : ObjOk P w H h a (SetMO w a S n) := by
  have ⟨o, _, _, _, ho, _⟩ := m
  exact ⟨m, ⟨o, ho⟩, fun _ _ p q => SetM.at p q⟩
theorem setMO_get {pins : List (Addr × Obj)} {σ : L2.St} {H : Hp} {s : Shared} {a : Addr} {S : Key → Bool} {n : Nat} (I : Inv X pins σ H s)
    (ha : H a = some (SetMO X.w a S n)) : SetM X.w s.heap a S n := by
  have z := I.hok a _ ha
  exact z.1
/-- set() -/
def rSet0M (w : World) : List V → Hp → VK → Prop := fun xs H Q => xs = [] ∧ ∀ p, H p = none → Q (.ref p) (upd H p (SetMO w p (fun _ => false) 0))
theorem cr_set0M : CallR X (.type "set") (rSet0M X.w) := by
  intro pins s σ H xs us Q I r h
  obtain ⟨rfl, q⟩ := h
  cases r
  refine setR_new fun _ => ?_
  have fr : H s.heap.objs.size = none := I.hok.fresh (Nat.le_refl _)
  exact ⟨.ref _, upd H s.heap.objs.size (SetMO X.w s.heap.objs.size (fun _ => false) 0),
    I.laid (t' := s.toks) (fun b u e => Heap.get?_push_of_some _ e) (Nat.le_refl _) (setMO_new (freshM X.w)), rfl, q _ fr⟩
/-- found.add(k) -/
def tSAddM (w : World) (to te : TE) : TE := fun σ H Q => to σ H fun x H1 => (∃ a S n, x = V.ref a ∧ H1 a = some (SetMO w a S n)) ∧
  te σ H1 fun y H2 => ∃ (a : Addr) (k : Key) (S : Key → Bool) (n : Nat), x = V.ref a ∧ y = kV k ∧ H2 a = some (SetMO w a S n) ∧ n + 1 < scanBound ∧
    Q .non (upd H2 a (SetMO w a (fun j => S j || decide (j = k)) (if S k = true then n else n + 1)))
variable {o e : Expr} {to te : TE} {apos cpos : Pos}
theorem pe_saddM (ho : PE X o to) (he : PE X e te)
    (hbase : attributeBase o "add" X.env (eval o X.env) = eval o X.env := by rfl)
    (hfew : ((backTo cpos (starEach [e] X.env)).all (fun x => !x.1) && (backToKw cpos (keywordEach [] X.env)).all (fun x => x.1.isSome)
      && decide (([e] : List Expr).length + ([] : List Keyword).length + (if ([] : List Keyword).isEmpty then 0 else 1) < 30)) = true := by rfl)
    (hline : (apos.endLine == cpos.line) = true := by rfl) (hs : starEach [e] X.env = (false, eval e X.env) :: starEach [] X.env := by rfl) :
    PE X (.Call (.Attribute o "add" apos) [e] [] cpos) (tSAddM X.w to te) := by
  refine ⟨fun pins s σ H Q I h => ?_⟩
  refine wpAny_Call_method_late hbase hfew hline rfl (thn (ho.run pins s σ H _ I h) fun v s1 ⟨x, H1, I1, r1, ty, q1⟩ => ?_)
  obtain ⟨a, S, n, ex, hka⟩ := ty
  subst ex
  have m1 := setMO_get I1 hka
  obtain rfl : v = Value.ref a := r1
  have so : s1.heap.SetOf (mixKind X.prog X.w) a S n := m1.setOf
  refine ⟨"set", "set.add", PySem.F.plainAttrs_set, PySem.F.slot_set_add, PySem.F.type_set_add, so.typeIs, so.noDict, ?_⟩
  rw [hs]
  refine Calls.callWith_builtin (by rfl) (Calls.evalArgs_plain (Calls.spliced_cons (thn (he.run pins s1 σ H1 _ I1 q1) fun u s2 ⟨y, H2, I2, ry, q2⟩ => Calls.spliced_nil ?_)))
  obtain ⟨a2, k, S2, n2, ea, ey, hk2, room, q⟩ := q2
  obtain rfl : a = a2 := V.ref.inj ea
  subst ey
  refine call_addM (kV_is ry) (key_scan ry) (setMO_get I2 hk2) room fun h' sb new => ?_
  have there : ∃ o', h'.get? a = some o' := by
    have ⟨o', _, _, _, ho', _⟩ := new
    exact ⟨o', ho'⟩
  exact ⟨.non, upd H2 a (SetMO X.w a (fun j => S2 j || decide (j = k)) (if S2 k = true then n2 else n2 + 1)),
    I2.write (e := a) (t' := s2.toks + 1) (by rw [hk2]; trivial) (.inl rfl) (fun b u' hb hu => (sb.2 b hb).trans hu) there (setMO_new new), rfl, q⟩
/-- the order of texts -/
def leS (a b : Str) : Bool := decide (a.cps.toList ≤ b.cps.toList)
/-- sorted(found), the members texts -/
def rSortedM (w : World) : List V → Hp → VK → Prop := fun vs H Q => ∃ (a : Addr) (S : Key → Bool) (n : Nat), vs = [V.ref a] ∧ H a = some (SetMO w a S n) ∧
  (∀ k, S k = true → ∃ x, k = Sum.inr x) ∧ ∀ (ss : List Str) (p : Addr), ss.Nodup → (∀ x, x ∈ ss ↔ S (Sum.inr x) = true) → ss.length = n → H p = none →
    Q (.ref p) (upd H p (.lst ((ss.mergeSort leS).map V.str)))
theorem key_str {e : Int × Value} {w : World} (g : Fit w e) {x : Str} (hk : kOf e = Sum.inr x) : RelV (V.str x) e.2 := by
  obtain ⟨k0, h0, _⟩ := g
  have e0 := kOf_is h0
  rw [hk] at e0
  subst e0
  rcases keyIs_shape h0 with ⟨i, t, z, _⟩ | ⟨y, t, z, q⟩
  · cases z
  · cases z
    exact ⟨t, q⟩
theorem cr_sortedM {k : Nat} (hc : X.calm = true) (hr : Room k X.A) : CallR X (.builtin "sorted") (rSortedM X.w) := by
  intro pins s σ H vs us Q I r h
  obtain ⟨a, S, n, rfl, ha, ks, q⟩ := h
  obtain ⟨ob, es, ep, tb, ho, hex, hd, g, nd, hm, hb, hf, hn, hri, hl⟩ := setMO_get I ha
  rw [Vals.ref1 r]
  have hun := hr.un
  have hh : X.A.handled = none := I.ok.hd hc
  refine Calls.call_function_entry kind_sorted plain_sorted entry_sorted (args_sorted1 _) ?_
  unfold Builtin.«sorted»
  refine wpAny_bind (m := checkCount "sorted" 1 1 _) (wpAny_pure ?_)
  refine wpAny_bind (collect_set (A := X.A.in1) hh ⟨ob, ho, hex.1, hd⟩ hf hb hri hl fun s1 us1 k1 hz g1 o1 pm => ?_)
  -- the texts, in the order met
  have hv : ∀ u ∈ us1, ∃ x, RelV (V.str x) u ∧ S (Sum.inr x) = true := by
    intro u hu
    obtain ⟨e, he, z⟩ := List.mem_map.mp (pm.mem_iff.mp hu)
    have inS : S (kOf e) = true := (hm _).2 (List.mem_map.mpr ⟨e, he, rfl⟩)
    obtain ⟨x, hx⟩ := ks _ inS
    exact ⟨x, by rw [← z]; exact key_str (g e he) hx, by rw [← hx]; exact inS⟩
  let tx : Value → Str := fun u => match u with | .str x _ => x | _ => Str.empty
  have htx : ∀ {u : Value} {x : Str}, RelV (V.str x) u → tx u = x := by
    intro u x z
    obtain ⟨t, z⟩ := z
    rw [z]
  have each : ∀ l : List Value, (∀ u ∈ l, ∃ x, RelV (V.str x) u ∧ S (Sum.inr x) = true) → PySem.W.EachIs (fun u x => RelV (V.str x) u) l (l.map tx) := by
    intro l
    induction l with
    | nil => intro _; exact .nil
    | cons u l ih =>
      intro hl2
      obtain ⟨x, hx, _⟩ := hl2 u List.mem_cons_self
      exact .cons (by rw [htx hx]; exact hx) (ih fun v hv => hl2 v (List.mem_cons_of_mem _ hv))
  have e1 := each us1 hv
  have pk : ((us1.map tx).map Sum.inr).Perm (es.toList.map kOf) := by
    have z := pm.map (fun u => (Sum.inr (tx u) : Key))
    rw [List.map_map] at z
    rw [List.map_map]
    refine z.trans (List.Perm.of_eq ?_)
    refine List.map_congr_left fun e he => ?_
    obtain ⟨x, hx⟩ := ks _ ((hm _).2 (List.mem_map.mpr ⟨e, he, rfl⟩))
    show (Sum.inr (tx e.2) : Key) = kOf e
    rw [htx (key_str (g e he) hx), hx]
  have ndS : (us1.map tx).Nodup := by
    have z := pk.nodup_iff.mpr nd
    exact List.Pairwise.of_map _ (fun x y hxy e => hxy (congrArg Sum.inr e)) z
  have memS : ∀ x, x ∈ us1.map tx ↔ S (Sum.inr x) = true := by
    intro x
    rw [hm, ← pk.mem_iff]
    refine ⟨fun z => List.mem_map.mpr ⟨x, z, rfl⟩, fun z => ?_⟩
    obtain ⟨y, hy, e⟩ := List.mem_map.mp z
    cases e
    exact hy
  have lenS : (us1.map tx).length = n := by
    rw [List.length_map, pm.length_eq, List.length_map, Array.length_toList]; exact hn
  have few : us1.length ≤ sizeLine := by
    have z := lenS
    rw [List.length_map] at z
    rw [z, ← hn]
    exact fits_of_scanBound hb
  refine wpAny_bind (wpAny_newList ?_ few)
  have hoL : (s1.heap.push (seqObj "list" us1.toArray 0)).get? s1.heap.objs.size = some (seqObj "list" us1.toArray 0) := Heap.get?_push_size _ rfl
  have hbs : ((us1.map tx).map PyData.str).length = us1.length := by rw [List.length_map, List.length_map]
  refine wpAny_bind (wpAny_holding (PySem.W.list_sort_data (enc := PyData.str) (bs := us1.map tx) (R := fun u x => RelV (V.str x) u) hoL e1 ?_ ?_ ?_ (by rw [List.length_map]; exact few) ?_ fun out lo eo => ?_))
  · exact e1.mono fun u x ⟨t, z⟩ => ⟨[], by rw [z]; exact .str x t, by simp⟩
  · intro d hd' d' hd''
    obtain ⟨x, _, rfl⟩ := List.mem_map.mp hd'
    obtain ⟨y, _, rfl⟩ := List.mem_map.mp hd''
    rfl
  · refine .inr fun d hd' => ?_
    obtain ⟨x, _, rfl⟩ := List.mem_map.mp hd'
    exact ⟨fun z => PyData.noConfusion z, fun xs z => PyData.noConfusion z⟩
  · intro b hb'
    show X.A.units + 1 + 1 + 0 < cLine
    omega
  · obtain ⟨c, hc'⟩ := sortedHeap_at (vs := us1) (out := out.toArray) hoL
    have kp : ∀ b u, s.heap.get? b = some u → (PyProof.Rows.sortedHeap (s1.heap.push (seqObj "list" us1.toArray 0)) s1.heap.objs.size us1 out.toArray).get? b = some u := by
      intro b u e
      have z := k1 b u e
      have hlt := Heap.lt_size z
      rw [sortedHeap_old (Nat.ne_of_lt hlt) (by rw [size_push']; exact Nat.lt_succ_of_lt hlt)]
      exact Heap.get?_push_of_some _ z
    have eS : (PySem.W.dataLe false PyData.str : Str → Str → Bool) = leS := PySem.W.dataLe_str (fun x => x)
    rw [eS] at eo
    have fr : H s1.heap.objs.size = none := I.hok.fresh hz
    have rv : Vals ((((us1.map tx).mergeSort leS)).map V.str) out := VA.vals_each V.str eo
    have lim : ((((us1.map tx).mergeSort leS)).map V.str).length ≤ sizeLine := by
      rw [List.length_map, List.length_mergeSort, List.length_map]; exact few
    have J : Inv X pins σ (upd H s1.heap.objs.size (.lst (((us1.map tx).mergeSort leS).map V.str)))
        { s with heap := PyProof.Rows.sortedHeap (s1.heap.push (seqObj "list" us1.toArray 0)) s1.heap.objs.size us1 out.toArray, gens := s1.gens, drawn := s1.drawn, toks := s1.toks } :=
      I.call (ch := []) (Un.laid kp hz fr) (I.hok.laid kp hz ⟨lim, out, c, rv, hc'⟩) (by rw [g1]; exact I.bare) (fun _ z => nomatch z)
    have es' : ({ s1 with heap := PyProof.Rows.sortedHeap (s1.heap.push (seqObj "list" us1.toArray 0)) s1.heap.objs.size us1 out.toArray } : Shared) =
        { s with heap := PyProof.Rows.sortedHeap (s1.heap.push (seqObj "list" us1.toArray 0)) s1.heap.objs.size us1 out.toArray, gens := s1.gens, drawn := s1.drawn, toks := s1.toks } := by
      rw [← o1]
    refine wpAny_pure ⟨_, rfl, ?_⟩
    rw [es']
    exact ⟨.ref _, _, J, rfl, q (us1.map tx) _ ndS memS lenS fr⟩
end
end VS

set_option Elab.async false
set_option linter.all false
set_option maxRecDepth 100000
set_option maxHeartbeats 4000000
namespace VB
open PySem PySem.Spec PyProof.Rows L2 LamX NdefX
/-! a def of the text under its name -/
abbrev FnP (K : PySem.W.Frag) (x : Str) (st : Stmt) (f : Addr) (fd : FuncData) : Prop := FunD K x x (defArgs st) (defBody st) (defScope st) [] [] f fd
def Df (K : PySem.W.Frag) (mg : Str → Option Value) (x : Str) (st : Stmt) : Prop := ∃ (f : Addr) (fd : FuncData), FnP K x st f fd ∧ mg x = some (.ref f)
abbrev BindOk (x : Str) (st : Stmt) (ps : List Str) : Prop := ∀ (kV doc pm : Value) (an : Option Addr) (cdv ct : Value) (us : List Value), us.length = ps.length →
  bindArgs (PySem.W.fnOf x x (defArgs st) (defBody st) (defScope st) .none kV doc pm an cdv ct) ⟨us, []⟩ = pure (ps.zip us)
section
variable {P : Program} {w : World} {K : PySem.W.Frag} {mg : Str → Option Value} {base : Heap}
theorem Df.cal {x : Str} {st : Stmt} {N ps : List Str} {k : Nat} {sp : Sp} (D : Df K mg x st) (S : FnScope N ps (defScope st)) (hb : BindOk x st ps)
    (len : ∀ vs H Q E, sp vs H Q E → vs.length = ps.length)
    (hbody : ∀ (f : Addr) (cdv : Value) (A : Around) (outer : List Env) (s : Shared) (H : Hp) (vs : List V) (Q : VK) (E : XK),
      Room k (A.deeper (envOfC x (defScope st) s.heap.objs.size f cdv)) → sp vs H Q E →
      ∃ t, PSs (cxOf CX0 P w K mg base N x (defScope st) f cdv A outer s H E).nox (defBody st) t ∧ t { nx := fun _ H' => Q .non H', rt := Q } (start N vs) H) :
    C8.Cal P w K mg base (k + 1) x sp [] := by
  obtain ⟨f, fd, F, hm⟩ := D
  refine ⟨f, fd, ps, [], F.ok S len (fun cdv A outer s H vs Q E hr h => ?_), hm, F.kp, F.bindsN hb, .nil⟩
  obtain ⟨t, a, b⟩ := hbody f cdv A outer s H vs Q E hr h
  exact ⟨t, a.nox, b⟩
theorem calMono {x : Str} {j k : Nat} {sp : Sp} {dvs : List V} (c : C8.Cal P w K mg base j x sp dvs) (h : j ≤ k) : C8.Cal P w K mg base k x sp dvs := by
  obtain ⟨f, fd, ps, ds, F, r⟩ := c.ex
  exact ⟨f, fd, ps, ds, F.mono h, r⟩
theorem calImp {x : Str} {k : Nat} {sp sp' : Sp} {dvs : List V} (c : C8.Cal P w K mg base k x sp dvs) (h : ∀ vs H Q E, sp' vs H Q E → sp vs H Q E) : C8.Cal P w K mg base k x sp' dvs := by
  obtain ⟨f, fd, ps, ds, F, r⟩ := c.ex
  exact ⟨f, fd, ps, ds, F.imp h, r⟩
end
/-! heaps -/
/-- all but the object at a is as it was -/
def But (a : Addr) (H H' : Hp) : Prop := ∀ b o, b ≠ a → H b = some o → H' b = some o
/-- tuples and what is locked stay -/
structure Kp (H H' : Hp) : Prop where
  tup : ∀ b xs, H b = some (.tup xs) → H' b = some (.tup xs)
  frz : ∀ b o u, H b = some (.frz o u) → H' b = some (.frz o u)
theorem But.refl (a : Addr) (H : Hp) : But a H H := fun _ _ _ h => h
theorem But.trans {a : Addr} {H H1 H2 : Hp} (x : But a H H1) (y : But a H1 H2) : But a H H2 := fun b o n h => y b o n (x b o n h)
theorem But.of {a : Addr} {H H' : Hp} (x : Same H H') : But a H H' := fun b o _ h => x b o h
theorem But.upd {a : Addr} {H : Hp} (o : HO) : But a H (upd H a o) := fun b u n h => by rw [upd_ne n]; exact h
theorem same_upd {H : Hp} {p : Addr} (h : H p = none) (o : HO) : Same H (upd H p o) := fun b u q => by rw [upd_ne (ne_of_none q h)]; exact q
theorem Kp.refl (H : Hp) : Kp H H := ⟨fun _ _ h => h, fun _ _ _ h => h⟩
theorem Kp.trans {H H1 H2 : Hp} (x : Kp H H1) (y : Kp H1 H2) : Kp H H2 := ⟨fun b xs h => y.tup b xs (x.tup b xs h), fun b o u h => y.frz b o u (x.frz b o u h)⟩
theorem Kp.of {H H' : Hp} (x : Same H H') : Kp H H' := ⟨fun b xs h => x b _ h, fun b o u h => x b _ h⟩
theorem Kp.ofExtN {H H' : Hp} (x : ExtN H H') : Kp H H' := ⟨fun b xs h => x b _ h (fun ps z => by cases z), fun b o u h => x b _ h (fun ps z => by cases z)⟩
theorem Kp.ofBut {a : Addr} {H H' : Hp} {ys : List V} (x : But a H H') (h : H a = some (.lst ys)) : Kp H H' :=
  ⟨fun b xs q => x b _ (ne_of q h (by intro z; cases z)) q, fun b o u q => x b _ (ne_of q h (by intro z; cases z)) q⟩
theorem Kp.updL {H : Hp} {a : Addr} {ys : List V} (h : H a = some (.lst ys)) (o : HO) : Kp H (upd H a o) := Kp.ofBut (But.upd o) h
theorem Kp.updE {H : Hp} {a : Addr} {φ : Heap → Prop} (h : H a = some (.ext φ)) (o : HO) : Kp H (upd H a o) :=
  ⟨fun b xs q => by rw [upd_ne (ne_of q h (by intro z; cases z))]; exact q, fun b u v q => by rw [upd_ne (ne_of q h (by intro z; cases z))]; exact q⟩
theorem Kp.updN {H : Hp} {a : Addr} (h : H a = none) (o : HO) : Kp H (upd H a o) := Kp.of (same_upd h o)
theorem Kp.sqT {K : PySem.W.Frag} {H H' : Hp} {a : Addr} {xs : List V} (x : Kp H H') (h : SqT K H a xs) : SqT K H' a xs := by
  rcases h with (h | ⟨o, h⟩) | h
  · exact .inl (.inl (x.tup _ _ h))
  · exact .inl (.inr ⟨o, x.frz _ _ _ h⟩)
  · exact .inr h
theorem Same.sqT {K : PySem.W.Frag} {H H' : Hp} {a : Addr} {xs : List V} (x : Same H H') (h : SqT K H a xs) : SqT K H' a xs := (Kp.of x).sqT h
theorem same_none {H H' : Hp} (x : Same H H') {b : Addr} (h : H' b = none) : H b = none := x.free h
theorem But.none {a b : Addr} {H H' : Hp} (x : But a H H') (n : b ≠ a) (h : H' b = Option.none) : H b = Option.none := by
  cases q : H b with
  | none => rfl
  | some o => rw [x b o n q] at h; cases h
/-! data of tuples alone -/
mutual
def flatD : PyData → Bool
  | .none => true
  | .bool _ => true
  | .int _ => true
  | .str _ => true
  | .tuple xs => flatAll xs
  | _ => false
def flatAll : List PyData → Bool
  | [] => true
  | x :: xs => flatD x && flatAll xs
end
mutual
theorem Dp.kp {K : PySem.W.Frag} {H H' : Hp} (x : Kp H H') : ∀ (d : PyData) (v : V), flatD d = true → Dp K H v d → Dp K H' v d
  | .none, _, _, h => by cases h; exact .non
  | .bool _, _, _, h => by cases h; exact .bl _
  | .int _, _, _, h => by cases h; exact .int _
  | .str _, _, _, h => by cases h; exact .str _
  | .tuple ds, _, hf, h => by
    cases h with
    | tup h1 h2 => exact .tup (x.sqT h1) (DpAll.kp x ds _ (by simpa only [flatD] using hf) h2)
theorem DpAll.kp {K : PySem.W.Frag} {H H' : Hp} (x : Kp H H') : ∀ (ds : List PyData) (vs : List V), flatAll ds = true → DpAll K H vs ds → DpAll K H' vs ds
  | [], _, _, h => by cases h; exact .nil
  | d :: ds, _, hf, h => by
    cases h with
    | cons h1 h2 =>
      simp only [flatAll, Bool.and_eq_true] at hf
      exact .cons (Dp.kp x d _ hf.1 h1) (DpAll.kp x ds _ hf.2 h2)
end
theorem DpAll.len {K : PySem.W.Frag} {H : Hp} : ∀ {vs : List V} {ds : List PyData}, DpAll K H vs ds → vs.length = ds.length
  | _, _, .nil => rfl
  | _, _, .cons _ t => congrArg Nat.succ (DpAll.len t)
theorem DpAll.get {K : PySem.W.Frag} {H : Hp} : ∀ {vs : List V} {ds : List PyData}, DpAll K H vs ds → ∀ {i : Nat} {d : PyData}, ds[i]? = some d → ∃ v, vs[i]? = some v ∧ Dp K H v d
  | _, _, .nil, i, d, e => by simp at e
  | _, _, .cons (v := v) h t, 0, d, e => by simp at e; subst e; exact ⟨v, rfl, h⟩
  | _, _, .cons h t, i + 1, d, e => by
    obtain ⟨v, h1, h2⟩ := DpAll.get t (i := i) (d := d) (by simpa using e)
    exact ⟨v, by simpa using h1, h2⟩
/-! .. and any list, where all that was tracked stays -/
mutual
theorem Dp.same {K : PySem.W.Frag} {H H' : Hp} (x : Same H H') : ∀ (d : PyData) (v : V), Dp K H v d → Dp K H' v d
  | .none, _, h => by cases h; exact .non
  | .bool _, _, h => by cases h; exact .bl _
  | .int _, _, h => by cases h; exact .int _
  | .str _, _, h => by cases h; exact .str _
  | .tuple ds, _, h => by
    cases h with
    | tup h1 h2 => exact .tup (Same.sqT x h1) (DpAll.same x ds _ h2)
  | .list ds, _, h => by
    cases h with
    | lst h1 h2 => exact .lst (x.seq h1) (DpAll.same x ds _ h2)
theorem DpAll.same {K : PySem.W.Frag} {H H' : Hp} (x : Same H H') : ∀ (ds : List PyData) (vs : List V), DpAll K H vs ds → DpAll K H' vs ds
  | [], _, h => by cases h; exact .nil
  | d :: ds, _, h => by
    cases h with
    | cons h1 h2 => exact .cons (Dp.same x d _ h1) (DpAll.same x ds _ h2)
end
theorem dpAll_strs {K : PySem.W.Frag} {H : Hp} : ∀ ss : List Str, DpAll K H (ss.map V.str) (ss.map PyData.str)
  | [] => .nil
  | s :: ss => .cons (.str s) (dpAll_strs ss)
/-- the order of texts has one sorted list -/
theorem leS_total (a b : Str) : (VS.leS a b || VS.leS b a) = true := by
  unfold VS.leS
  rw [Bool.or_eq_true, decide_eq_true_eq, decide_eq_true_eq]
  exact List.le_total _ _
theorem leS_trans (a b c : Str) (h1 : VS.leS a b = true) (h2 : VS.leS b c = true) : VS.leS a c = true := by
  unfold VS.leS at *
  rw [decide_eq_true_eq] at *
  exact List.le_trans h1 h2
theorem leS_anti {a b : Str} (h1 : VS.leS a b = true) (h2 : VS.leS b a = true) : a = b := by
  unfold VS.leS at *
  rw [decide_eq_true_eq] at *
  exact PyProof.Rows.ext_toList (List.le_antisymm h1 h2)
theorem sort_perm {xs ys : List Str} (h : xs.Perm ys) : xs.mergeSort VS.leS = ys.mergeSort VS.leS := by
  have h1 := List.pairwise_mergeSort (le := VS.leS) leS_trans leS_total xs
  have h2 := List.pairwise_mergeSort (le := VS.leS) leS_trans leS_total ys
  have p : (xs.mergeSort VS.leS).Perm (ys.mergeSort VS.leS) := (List.mergeSort_perm xs _).trans (h.trans (List.mergeSort_perm ys _).symm)
  exact p.eq_of_pairwise (fun a b _ _ x y => leS_anti x y) h1 h2
theorem sort_mem {xs ys : List Str} (n1 : xs.Nodup) (n2 : ys.Nodup) (h : ∀ x, x ∈ xs ↔ x ∈ ys) : xs.mergeSort VS.leS = ys.mergeSort VS.leS :=
  sort_perm ((List.perm_ext_iff_of_nodup n1 n2).mpr h)
end VB

set_option Elab.async false
set_option linter.all false
set_option maxRecDepth 100000
set_option maxHeartbeats 4000000
namespace VK
open PySem PySem.Spec PyProof.Rows L2 LamX NdefX VB
/-! rules told with the written part by its name (within a comprehension's block the context has names of its own) -/
section
variable {X : Cx} {K : PySem.W.Frag} (h : X.K = K)
include h
theorem ixL : IxR X (rIxL K) := by subst h; exact ix_list
theorem ixT : IxR X (rIxT K) := by subst h; exact ix_tup
theorem ixQ : IxR X (rIx K) := by subst h; exact ix_seq
theorem slL : SlR X (rSlL K) := by subst h; exact sl_list
theorem slT : SlR X (rSlT K) := by subst h; exact sl_tup
theorem catT : OpR X (binaryOp .Add) (rCatT K) := by subst h; exact op_catT
theorem inQ : OpR X (compareOp .In) (rIn K false) := by subst h; exact op_in_seq
theorem notInQ : OpR X (compareOp .NotIn) (rIn K true) := by subst h; exact op_notIn_seq
theorem eqD (hu : X.A.units + 64 < cLine) : OpR X (compareOp .Eq) (rEqD K) := by subst h; exact op_eqD hu
theorem neD (hu : X.A.units + 64 < cLine) : OpR X (compareOp .NotEq) (rNeD K) := by subst h; exact op_neD hu
theorem maxL (hc : X.calm = true) : CallR X (.builtin "max") (rMax K) := by subst h; exact cr_max hc
theorem allL (hc : X.calm = true) : CallR X (.builtin "all") (rAll K) := by subst h; exact cr_all hc
theorem isi : CallR X (.builtin "isinstance") (rIsi K) := by subst h; exact call_isi
end
def rLenQ (K : PySem.W.Frag) : List V → Hp → VK → Prop := fun xs H Q => ∃ p ys, xs = [.ref p] ∧ (SqL K H p ys ∨ SqT K H p ys) ∧ Q (.int ys.length) H
def rListQ (K : PySem.W.Frag) : List V → Hp → VK → Prop := fun xs H Q => ∃ p ys, xs = [.ref p] ∧ (SqL K H p ys ∨ SqT K H p ys) ∧ ∀ l, H l = none → Q (.ref l) (upd H l (.lst ys))
def rTupQ (K : PySem.W.Frag) : List V → Hp → VK → Prop := fun xs H Q => ∃ p ys, xs = [.ref p] ∧ ((SqL K H p ys ∧ ∀ l, H l = none → Q (.ref l) (upd H l (.tup ys))) ∨ (SqT K H p ys ∧ Q (.ref p) H))
section
variable {X : Cx} {K : PySem.W.Frag} (h : X.K = K)
include h
theorem lenQ : CallR X (.builtin "len") (rLenQ K) := by subst h; exact call_len_seq
theorem listQ : CallR X (.type "list") (rListQ K) := by subst h; exact call_list_of
theorem tupQ : CallR X (.type "tuple") (rTupQ K) := by subst h; exact call_tuple_of
end
end VK
namespace VK
open PySem PySem.Spec PyProof.Rows L2 LamX NdefX VB
/-- sorted of texts, any number of them -/
def rSortS (K : PySem.W.Frag) : List V → Hp → VK → Prop := fun vs H Q => ∃ (a : Addr) (ss : List Str), vs = [V.ref a] ∧ SqL K H a (ss.map V.str) ∧
  ∀ p : Addr, H p = none → Q (.ref p) (upd H p (.lst ((ss.mergeSort VS.leS).map V.str)))
theorem sortedS {X : Cx} {K : PySem.W.Frag} (h : X.K = K) {k : Nat} (hr : Room k X.A) : CallR X (.builtin "sorted") (rSortS K) := by
  subst h
  intro pins s σ H vs us Q I r hh
  obtain ⟨a, ss, rfl, hs, q⟩ := hh
  have eS : (PySem.W.dataLe false PyData.str : Str → Str → Bool) = VS.leS := PySem.W.dataLe_str (fun x => x)
  refine VA.cr_sortedB V.str PyData.str hr pins s σ H [V.ref a] us Q I r ⟨a, ss, rfl, hs, fun b _ => .str b, ?_, ?_, ?_, fun p np => ?_⟩
  · intro d hd d' hd'
    obtain ⟨x, _, rfl⟩ := List.mem_map.mp hd
    obtain ⟨y, _, rfl⟩ := List.mem_map.mp hd'
    rfl
  · refine .inr fun d hd => ?_
    obtain ⟨x, _, rfl⟩ := List.mem_map.mp hd
    exact ⟨fun z => PyData.noConfusion z, fun xs z => PyData.noConfusion z⟩
  · intro b _
    show (0 : Nat) ≤ 8
    decide
  · rw [eS]
    exact q p np
end VK
namespace VK
open PySem PySem.Spec PyProof.Rows L2 LamX NdefX VB
/-! sets, told with the world by its name -/
section
variable {X : Cx} {w : World} (h : X.w = w)
include h
theorem set0M : CallR X (.type "set") (VS.rSet0M w) := by subst h; exact VS.cr_set0M
theorem sortedM {k : Nat} (hc : X.calm = true) (hr : Room k X.A) : CallR X (.builtin "sorted") (VS.rSortedM w) := by subst h; exact VS.cr_sortedM hc hr
theorem saddM {o e : Expr} {to te : TE} {apos cpos : Pos} (ho : PE X o to) (he : PE X e te)
    (hbase : attributeBase o "add" X.env (eval o X.env) = eval o X.env := by rfl)
    (hfew : ((backTo cpos (starEach [e] X.env)).all (fun x => !x.1) && (backToKw cpos (keywordEach [] X.env)).all (fun x => x.1.isSome)
      && decide (([e] : List Expr).length + ([] : List Keyword).length + (if ([] : List Keyword).isEmpty then 0 else 1) < 30)) = true := by rfl)
    (hline : (apos.endLine == cpos.line) = true := by rfl) (hs : starEach [e] X.env = (false, eval e X.env) :: starEach [] X.env := by rfl) :
    PE X (.Call (.Attribute o "add" apos) [e] [] cpos) (VS.tSAddM w to te) := by subst h; exact VS.pe_saddM ho he hbase hfew hline hs
end
end VK

set_option Elab.async false
set_option linter.all false
set_option maxRecDepth 100000
set_option maxHeartbeats 4000000
namespace VT
open PySem PySem.Spec PyProof.Rows L2
/-! sets of tuples of keys, any kind of keys, at most 76 members. The table's laws are the library's (L2.TabOk and what stands around it). -/
section
variable {P : Program} {w : World} {κ : Type} [DecidableEq κ]
/-- no reference -/
def NoRef (v : Value) : Prop := ∀ a, v ≠ .ref a
theorem noRef_of {v : Value} (h : carriedByValue v = true) : NoRef v := fun a e => by
  rw [e] at h
  simp [carriedByValue] at h
theorem class_no {v : Value} (h : NoRef v) (n : Nat) : ofAClassStatement n v = pure false := by
  cases v with
  | ref a => exact absurd rfl (h a)
  | _ => cases n <;> rfl
theorem hash_some {v : Value} (h : NoRef v) (n : Nat) : ∃ b, hashByValue n v = pure b := by
  cases v with
  | ref a => exact absurd rfl (h a)
  | _ => cases n <;> exact ⟨_, rfl⟩
variable {A : Around} {E : Value → Shared → Prop} {s : Shared} {knd : KeyKind P w κ}
theorem items_noRef {k : List κ} {vs : List Value} (h : ItemsAre knd k vs) : ∀ v ∈ vs, NoRef v := fun v hv => noRef_of (h.byValue v hv)
theorem class_tuple {k : List κ} {b : Addr} {Q : Bool → Shared → Prop} (hk : IsTupleKey knd s.heap k b) (h : Q false s) : wpAny (model P w) A (ofAClassStatement 8 (.ref b)) Q E s := by
  have hT := hk.typeIs
  obtain ⟨o, items, n, ho, _, hd, hi⟩ := hk
  have plain := items_noRef hi
  unfold ofAClassStatement
  refine wpAny_bind (wpAny_typeOf hT ?_)
  simp only [show (("tuple" : String) == "tuple") = true by decide, if_true, Bool.not_true, Bool.false_eq_true, if_false]
  try refine wpAny_bind (wpAny_pure ?_)
  try simp only [Bool.not_true, Bool.false_eq_true, if_false]
  show wpAny _ _ (seqItems? (.ref b) >>= _) _ _ s
  refine wpAny_bind (wpAny_seqItems ho hd ?_)
  refine wpAny_bind ?_
  show wpAny _ _ (forIn items _ _) _ _ s
  rw [← Array.forIn_toList]
  refine wpAny_forIn_list _ (fun rest r s' => (r.1 = none ∧ s' = s) ∧ ∀ v ∈ rest, NoRef v) _ ?_ ?_ _ _ ⟨⟨rfl, rfl⟩, plain⟩
  · rintro v rest r s' ⟨⟨hr, rfl⟩, all⟩
    rw [class_no (all v List.mem_cons_self)]
    refine wpAny_bind (wpAny_pure ?_)
    simp only [Bool.false_eq_true, if_false]
    exact wpAny_pure ⟨⟨rfl, rfl⟩, fun u hu => all u (List.mem_cons_of_mem _ hu)⟩
  · rintro ⟨r1, r2⟩ s' ⟨⟨hr, rfl⟩, _⟩
    simp only at hr
    subst hr
    exact wpAny_pure h
theorem byValue_tuple {k : List κ} {b : Addr} {Q : Bool → Shared → Prop} (hk : IsTupleKey knd s.heap k b) (h : ∀ c, Q c s) : wpAny (model P w) A (hashByValue 8 (.ref b)) Q E s := by
  have hT := hk.typeIs
  obtain ⟨o, items, n, ho, _, hd, hi⟩ := hk
  have plain := items_noRef hi
  unfold hashByValue
  refine wpAny_bind (wpAny_specialOf hT F.slot_tuple_hash.lookup ?_)
  show wpAny _ _ (seqItems? (.ref b) >>= _) _ _ s
  refine wpAny_bind (wpAny_seqItems ho hd ?_)
  refine wpAny_bind ?_
  show wpAny _ _ (forIn items _ _) _ _ s
  rw [← Array.forIn_toList]
  refine wpAny_forIn_list _ (fun rest r s' => (r.1 = none ∧ s' = s) ∧ ∀ v ∈ rest, NoRef v) _ ?_ ?_ _ _ ⟨⟨rfl, rfl⟩, plain⟩
  · rintro v rest r s' ⟨⟨hr, rfl⟩, all⟩
    obtain ⟨c, e⟩ := hash_some (all v List.mem_cons_self) 7
    rw [e]
    refine wpAny_bind (wpAny_pure ?_)
    cases c with
    | true =>
      simp only [Bool.not_true, Bool.false_eq_true, if_false]
      exact wpAny_pure ⟨⟨rfl, rfl⟩, fun u hu => all u (List.mem_cons_of_mem _ hu)⟩
    | false =>
      simp only [Bool.not_false, if_true]
      exact wpAny_pure (wpAny_pure (h false))
  · rintro ⟨r1, r2⟩ s' ⟨⟨hr, rfl⟩, _⟩
    simp only at hr
    subst hr
    exact wpAny_pure (h true)
/-- nobody sees a search among such tuples -/
theorem unseen {k : List κ} {b : Addr} {Q : Bool → Shared → Prop} (hk : IsTupleKey knd s.heap k b) {ys : List Value} (hy : ∀ y ∈ ys, ∃ k' c, y = Value.ref c ∧ IsTupleKey knd s.heap k' c) (h : Q false s) :
    wpAny (model P w) A (searchCouldBeSeen (.ref b) ys) Q E s := by
  unfold searchCouldBeSeen
  refine wpAny_bind (wpAny_forIn_list _ (fun rest r s' => (r.1 = none ∧ s' = s) ∧ ∀ y ∈ rest, ∃ k' c, y = Value.ref c ∧ IsTupleKey knd s.heap k' c) _ ?_ ?_ _ _ ⟨⟨rfl, rfl⟩, hy⟩)
  · rintro v rest r s' ⟨⟨hr, rfl⟩, all⟩
    obtain ⟨k', c, rfl, hc⟩ := all v List.mem_cons_self
    have tail := fun u (hu : u ∈ rest) => all u (List.mem_cons_of_mem _ hu)
    dsimp only
    split
    · exact wpAny_pure ⟨⟨rfl, rfl⟩, tail⟩
    · refine wpAny_bind (wpAny_eqIsQuiet_tuple hk ?_)
      simp only [Bool.not_true, Bool.false_eq_true, if_false]
      refine wpAny_bind (wpAny_eqIsQuiet_tuple hc ?_)
      simp only [Bool.not_true, Bool.false_eq_true, if_false]
      refine wpAny_bind (class_tuple hk ?_)
      simp only [Bool.false_eq_true, if_false]
      refine wpAny_bind (class_tuple hc ?_)
      simp only [Bool.false_eq_true, if_false]
      exact wpAny_pure ⟨⟨rfl, rfl⟩, tail⟩
  · rintro ⟨r1, r2⟩ s' ⟨⟨hr, rfl⟩, _⟩
    simp only at hr
    subst hr
    exact wpAny_pure h
/-! the set: its members in the order of the table -/
abbrev hOf (knd : KeyKind P w κ) (k : List κ) : Int := tupleKeyHash knd k
def ent (knd : KeyKind P w κ) (p : Addr × List κ) : Int × Value := (hOf knd p.2, Value.ref p.1)
/-- members L in the entries es and the table t -/
structure Laid (knd : KeyKind P w κ) (h : Heap) (L : List (Addr × List κ)) (es : Array (Int × Value)) (t : SetTable) : Prop where
  rows : es.toList = L.map (ent knd)
  tab : TabOk t (L.map fun p => hOf knd p.2)
  nd : (L.map (·.2)).Nodup
  mem : ∀ p ∈ L, IsTupleKey knd h p.2 p.1
  led : w.params.followText "set-order" = true ∨ t.led = true
def SetK (knd : KeyKind P w κ) (h : Heap) (a : Addr) (L : List (Addr × List κ)) : Prop :=
  ∃ o es ep t, h.get? a = some o ∧ o.ExactSet ∧ o.data = .set es ep t ∧ Laid knd h L es t ∧ L.length * 5 < t.mask * 3 ∧ L.length < 77
variable {L : List (Addr × List κ)} {es : Array (Int × Value)} {t : SetTable}
theorem Laid.size {h : Heap} (R : Laid knd h L es t) : es.size = L.length := by
  rw [← Array.length_toList, R.rows, List.length_map]
theorem Laid.places {h : Heap} (R : Laid knd h L es t) : t.place.toList.length = L.length := by
  rw [Array.length_toList, R.tab.sz, List.length_map]
theorem Laid.fits {h : Heap} (R : Laid knd h L es t) (hm : L.length ≤ t.mask) : t.fits es.size = true := by
  have h2 := R.size
  have h3 := R.places
  rw [Array.length_toList] at h3
  unfold SetTable.fits SetTable.fill
  rw [R.tab.dm, Bool.and_eq_true, beq_iff_eq, decide_eq_true_eq]
  exact ⟨by omega, (by show t.place.size + 0 ≤ t.mask; omega)⟩
theorem Laid.entry {h : Heap} (R : Laid knd h L es t) {i : Nat} {p : Addr × List κ} (e : L[i]? = some p) : es[i]? = some (hOf knd p.2, Value.ref p.1) := by
  rw [← Array.getElem?_toList, R.rows, List.getElem?_map, e] <;> rfl
theorem Laid.hashAt {h : Heap} (R : Laid knd h L es t) {i : Nat} {p : Addr × List κ} (e : L[i]? = some p) : (es[i]?.map (·.1)).getD 0 = hOf knd p.2 := by
  rw [R.entry e] <;> rfl
theorem Laid.at_ {h : Heap} (R : Laid knd h L es t) {i j : Nat} (e : t.place.toList[i]? = some j) : ∃ p, L[i]? = some p := by
  have h1 := (List.getElem?_eq_some_iff.mp e).1
  rw [R.places] at h1
  exact ⟨_, List.getElem?_eq_getElem h1⟩
/-- the c-th place of the way, as the search keeps it -/
abbrev pr (m : Nat) (h : Int) (c : Nat) : SetTable.Probe := nth m (runAt m (SetTable.bits h % (m + 1)) (SetTable.bits h)) c
theorem nth_noDummy (m : Nat) : ∀ (n : Nat) (p : SetTable.Probe), p.dummy = none → (nth m p n).dummy = none
  | 0, _, h => h
  | n + 1, p, h => nth_noDummy m n (adv m p) (by unfold adv; split <;> exact h)
theorem pr_add (m : Nat) (h : Int) (c q : Nat) : nth m (pr m h c) q = pr m h (c + q) := (nth_add m c _ q).symm
/-- one look of the search, from the place c on: the first member of this hash not before it, or the free place K -/
theorem look {hp : Heap} (R : Laid knd hp L es t) (h : Int) {K c : Nat} (hKf : K < 10 * SetTable.turns t.mask) (hK : way t.mask h K ∉ t.place.toList) (hb : ∀ k, k < K → way t.mask h k ∈ t.place.toList) (hc : c ≤ K) :
    (∃ d i, c ≤ d ∧ d < K ∧ t.place.toList[i]? = some (way t.mask h d) ∧ (∀ (d' i' : Nat) (p : Addr × List κ), c ≤ d' → d' < d → t.place.toList[i']? = some (way t.mask h d') → L[i']? = some p → hOf knd p.2 ≠ h) ∧
      t.probe (fun i => (es[i]?.map (·.1)).getD 0) h (pr t.mask h c) = some (.candidate (way t.mask h d) i (pr t.mask h (d + 1)))) ∨
    ((∀ (d' i' : Nat) (p : Addr × List κ), c ≤ d' → d' < K → t.place.toList[i']? = some (way t.mask h d') → L[i']? = some p → hOf knd p.2 ≠ h) ∧
      t.probe (fun i => (es[i]?.map (·.1)).getD 0) h (pr t.mask h c) = some (.empty (way t.mask h K) none)) := by
  have ej : ∀ q, (nth t.mask (pr t.mask h c) q).j = way t.mask h (c + q) := fun q => congrArg SetTable.Probe.j (pr_add t.mask h c q)
  have back : ∀ d, c ≤ d → c + (d - c) = d := fun d z => by omega
  rcases go_spec t R.tab.ris R.tab.dm (fun i => (es[i]?.map (·.1)).getD 0) h (10 * SetTable.turns t.mask) (K - c) (pr t.mask h c) (nth_noDummy _ _ _ rfl) (by omega)
      (fun q hq => by rw [ej]; exact hb _ (by omega)) (by rw [ej, back K hc]; exact hK) with ⟨q, i, h1, h2, h3, h4, h5⟩ | ⟨h4, h5⟩
  · refine .inl ⟨c + q, i, by omega, by omega, by rw [← ej]; exact h2, fun d' i' p z1 z2 z3 z4 e => ?_, ?_⟩
    · refine h4 (d' - c) i' (by omega) (by rw [ej, back d' z1]; exact z3) ?_
      exact (R.hashAt z4).trans e
    · have e1 : pr t.mask h (c + q + 1) = nth t.mask (pr t.mask h c) (q + 1) := by rw [pr_add]; rfl
      rw [e1, ← ej]
      exact h5
  · refine .inr ⟨fun d' i' p z1 z2 z3 z4 e => ?_, ?_⟩
    · refine h4 (d' - c) i' (by omega) (by rw [ej, back d' z1]; exact z3) ?_
      exact (R.hashAt z4).trans e
    · have e1 : way t.mask h K = (nth t.mask (pr t.mask h c) (K - c)).j := by rw [ej, back K hc]
      rw [e1]
      exact h5
variable {a : Addr} {o : Obj} {ep : Nat}
/-- the search of a tuple of the keys k -/
theorem search (ho : s.heap.get? a = some o) (hd : o.data = .set es ep t) (R : Laid knd s.heap L es t) (hm : L.length ≤ t.mask) {x : Addr} {k : List κ} (hx : IsTupleKey knd s.heap k x) (hu : A.units < cLine)
    {K : Nat} (hKf : K < 10 * SetTable.turns t.mask) (hK : way t.mask (hOf knd k) K ∉ t.place.toList) (hb : ∀ d, d < K → way t.mask (hOf knd k) d ∈ t.place.toList) {Q : SetFound → Shared → Prop}
    (yes : k ∈ L.map (·.2) → Q (.there none) s) (no : k ∉ L.map (·.2) → Q (.free (way t.mask (hOf knd k) K) false) s) :
    ∀ (f c : Nat) (stand : Option SetTable.Probe), stand.getD (t.probeStart (hOf knd k)) = pr t.mask (hOf knd k) c → c ≤ K → K - c < f →
      (∀ (d i : Nat) (p : Addr × List κ), d < c → t.place.toList[i]? = some (way t.mask (hOf knd k) d) → L[i]? = some p → p.2 ≠ k) →
      wpAny (model P w) A (setSearchFrom a (.ref x) (hOf knd k) true f stand) Q E s := by
  intro f
  induction f with
  | zero => exact fun c stand _ _ z _ => absurd z (Nat.not_lt_zero _)
  | succ f ih =>
    intro c stand est hc hf past
    rw [setSearchFrom_succ]
    refine wpAny_bind (wpAny_setState_of ho hd (R.fits hm) ?_)
    dsimp only
    refine wp_if_neg (by unfold SetTable.gaveWay; rw [mask_odd R.tab.mok]; decide) ?_
    try refine wpAny_bind (wpAny_pure ?_)
    rw [est]
    rcases look R (hOf knd k) hKf hK hb hc with ⟨d, i, d1, d2, d3, d4, e⟩ | ⟨d4, e⟩
    · rw [e]
      dsimp only
      obtain ⟨p, hp⟩ := R.at_ d3
      have hpm := List.mem_of_getElem? hp
      have cont : wpAny (model P w) A (searchRest a (.ref x) (hOf knd k) true f es t (way t.mask (hOf knd k) d) i (pr t.mask (hOf knd k) (d + 1))) Q E s := by
        unfold searchRest
        rw [R.entry hp]
        refine wpAny_bind (wpAny_holding (wpAny_eqBool_tuple hu (R.mem p hpm) hx ?_))
        refine wpAny_bind (wpAny_setState_of ho hd (R.fits hm) ?_)
        dsimp only
        by_cases same : p.2 = k
        · refine wp_if_pos (by simp [same]) (wpAny_pure (yes ?_))
          rw [← same]
          exact List.mem_map_of_mem hpm
        · refine wp_if_neg (by simp [same]) ?_
          try refine wpAny_bind (wpAny_pure ?_)
          rw [sameMem]
          simp only [if_true, slot_live R.tab.ris d3, R.entry hp]
          refine wpAny_bind (wpAny_isSame_ref_self (wpAny_bind (wpAny_pure ?_)))
          simp only [if_true]
          refine wp_if_neg (by simp [same]) ?_
          refine ih (d + 1) _ rfl d2 (by omega) fun d' i' p' z1 z2 z3 z4 => ?_
          rcases Nat.lt_or_ge d' c with y | y
          · exact past d' i' p' y z2 z3 z4
          · rcases Nat.lt_or_ge d' d with u | u
            · exact d4 d' i' p' y u z2 z3 (by rw [z4])
            · obtain rfl : d' = d := by omega
              have s1 := slot_live R.tab.ris z2
              rw [slot_live R.tab.ris d3] at s1
              injection s1 with s1
              rw [← s1, hp] at z3
              exact same (by rw [Option.some.inj z3]; exact z4)
      cases hl : t.led with
      | true =>
        refine wp_if_neg (by simp) ?_
        try refine wpAny_bind (wpAny_pure ?_)
        exact cont
      | false =>
        refine wp_if_pos (by simp) (wpAny_bind (unseen hx (fun y hy => ?_) ?_))
        · obtain ⟨g, hg, rfl⟩ := List.mem_map.mp hy
          have hg2 : g ∈ es.toList := by
            have z : g ∈ es ∧ g.1 = hOf knd k := by simpa using hg
            simpa using z.1
          rw [R.rows] at hg2
          obtain ⟨p2, hp2, rfl⟩ := List.mem_map.mp hg2
          exact ⟨p2.2, p2.1, rfl, R.mem p2 hp2⟩
        · refine wp_if_neg (by decide) ?_
          try refine wpAny_bind (wpAny_pure ?_)
          exact cont
    · rw [e]
      refine wpAny_pure (no fun hin => ?_)
      obtain ⟨p, hp, ek⟩ := List.mem_map.mp hin
      obtain ⟨i, hi, eg⟩ := List.getElem_of_mem hp
      have g1 : L[i]? = some p := by rw [List.getElem?_eq_getElem hi, eg]
      have g2 : (L.map fun p => hOf knd p.2)[i]? = some (hOf knd k) := by rw [List.getElem?_map, g1, ← ek] <;> rfl
      have hj : i < t.place.toList.length := by rw [R.places]; exact hi
      obtain ⟨d, z1, z2⟩ := R.tab.before hK g2 (List.getElem?_eq_getElem hj)
      have g3 : t.place.toList[i]? = some (way t.mask (hOf knd k) d) := by rw [List.getElem?_eq_getElem hj, z2]
      rcases Nat.lt_or_ge d c with y | y
      · exact past d i p y g3 g1 ek
      · exact d4 d i p y z1 g3 g1 (by rw [ek])
theorem range_all {α : Type} : ∀ l : List α, (List.range l.length).filterMap (fun i => l[i]?) = l
  | [] => rfl
  | x :: l => by
    rw [List.length_cons, List.range_succ_eq_map, List.filterMap_cons_some (f := fun i => (x :: l)[i]?) (b := x) rfl, List.filterMap_map]
    exact congrArg (x :: ·) (range_all l)
/-- the entries in another order -/
theorem reorder (rows : es.toList = L.map (ent knd)) {order : Array Nat} (hp : order.toList.Perm (List.range L.length)) :
    ∃ L2 : List (Addr × List κ), (order.filterMap (es[·]?)).toList = L2.map (ent knd) ∧ L2.Perm L ∧ (L2.map fun p => hOf knd p.2) = order.toList.map fun i => (es.map (·.1)).getD i 0 := by
  have e1 : (fun i : Nat => es[i]?) = fun i => (L[i]?).map (ent knd) := funext fun i => by rw [← Array.getElem?_toList, rows, List.getElem?_map]
  refine ⟨order.toList.filterMap fun i => L[i]?, ?_, ?_, ?_⟩
  · rw [Array.toList_filterMap, e1, List.map_filterMap]
  · have z := hp.filterMap (fun i => L[i]?)
    rw [range_all] at z
    exact z
  · have low : ∀ i ∈ order.toList, i < L.length := fun i hi => List.mem_range.mp (hp.mem_iff.mp hi)
    revert low
    generalize order.toList = l
    intro low
    induction l with
    | nil => rfl
    | cons i l ih =>
      have hi := low i List.mem_cons_self
      have e2 : es[i]? = some (ent knd L[i]) := by rw [congrFun e1 i, List.getElem?_eq_getElem hi] <;> rfl
      have e3 : (es.map (·.1)).getD i 0 = hOf knd (L[i]).2 := by
        rw [Array.getD_eq_getD_getElem?, Array.getElem?_map, e2] <;> rfl
      rw [List.filterMap_cons_some (List.getElem?_eq_getElem hi), List.map_cons, List.map_cons, ih fun j hj => low j (List.mem_cons_of_mem _ hj), e3]
theorem tuple_stays {h h' : Heap} {k : List κ} {b : Addr} (hb : IsTupleKey knd h k b) (ho : h.get? a = some o) (hd : o.data = .set es ep t) (hs : Heap.SameBut a h h') : IsTupleKey knd h' k b := by
  obtain ⟨o', items, n, ho', hc, hd', hi⟩ := hb
  refine ⟨o', items, n, (hs.2 b fun z => ?_).trans ho', hc, hd', hi⟩
  rw [z, ho] at ho'
  rw [← Option.some.inj ho', hd] at hd'
  cases hd'
theorem tuple_keep {h h' : Heap} {k : List κ} {b : Addr} (hb : IsTupleKey knd h k b) (e : ∀ o, h.get? b = some o → h'.get? b = some o) : IsTupleKey knd h' k b := by
  obtain ⟨o, items, n, ho, r⟩ := hb
  exact ⟨o, items, n, e o ho, r⟩
/-- a larger table -/
theorem relay (ho : s.heap.get? a = some o) (hex : o.ExactSet) (hd : o.data = .set es ep t) (R : Laid knd s.heap L es t) (hm : L.length ≤ t.mask) (few : L.length < 77) {wanted M : Nat}
    (hw : SetTable.sizeAbove wanted - 1 = M) (hM : MaskOk M) (hw2 : SetTable.sizeAbove wanted ≤ 128) (hn : L.length * 5 < M * 3) {Q : Unit → Shared → Prop}
    (hQ : ∀ h' L', Heap.SameBut a s.heap h' → SetK knd h' a L' → L'.Perm L → Q () { s with heap := h' }) : wpAny (model P w) A (setRelay a wanted) Q E s := by
  have sz := R.size
  obtain ⟨t', order, e, hp, T, em, el, _, ed⟩ := relaid_ok t (hs := es.map (·.1)) (wanted := wanted) hw hM (by rw [Array.size_map, sz]; omega)
  rw [Array.size_map, sz] at hp
  obtain ⟨L2, r1, r2, r3⟩ := reorder R.rows hp
  rw [← r3] at T
  have sz2 : (order.filterMap (es[·]?)).size = es.size := by rw [← Array.length_toList, r1, List.length_map, r2.length_eq, sz]
  rw [setRelay_eq]
  refine wpAny_bind (wpAny_setState_of ho hd (R.fits hm) ?_)
  dsimp only
  refine wp_if_neg (by rw [sizeLine_eq]; omega) ?_
  try refine wpAny_bind (wpAny_pure ?_)
  rw [e]
  refine wpAny_bind ?_
  dsimp only
  refine wp_if_neg (by rw [sz2]; simp) ?_
  try refine wpAny_bind (wpAny_pure ?_)
  refine wpAny_pure (wpAny_storeSet_of ho hd ?_ (by rw [sz2, sz, sizeLine_eq]; omega))
  have sb : Heap.SameBut a s.heap (s.heap.update a (Obj.putSet (order.filterMap (es[·]?)) t')) := Heap.SameBut.update ..
  refine hQ _ L2 sb ⟨_, _, _, t', store_at ho hd, hex, rfl, ⟨r1, T, (r2.map (·.2)).nodup_iff.mpr R.nd, fun p hp' => tuple_stays (R.mem p (r2.mem_iff.mp hp')) ho hd sb, by rw [el]; exact R.led⟩, ?_, ?_⟩ r2
  · rw [r2.length_eq, em]; exact hn
  · rw [r2.length_eq]; exact few
/-- a member is added -/
theorem add (M : SetK knd s.heap a L) {x : Addr} {k : List κ} (hx : IsTupleKey knd s.heap k x) (hu : A.units < cLine) (few0' : k ∉ L.map (·.2) → L.length + 1 < 77) {Q : Bool → Shared → Prop}
    (hQ : ∀ b h' L', Heap.SameBut a s.heap h' → SetK knd h' a L' → (k ∈ L.map (·.2) → L' = L) → (k ∉ L.map (·.2) → L'.Perm ((x, k) :: L)) → Q b { s with heap := h' }) :
    wpAny (model P w) A (setAddHashed a (.ref x) (hOf knd k)) Q E s := by
  obtain ⟨o, es, ep, t, ho, hex, hd, R, room, few0⟩ := M
  have hm : L.length ≤ t.mask := by omega
  have sz := R.size
  unfold setAddHashed
  refine wpAny_holding ?_
  rw [show (100000 : Nat) = 99999 + 1 from rfl, setAddHashedIn_succ]
  refine wpAny_bind (wpAny_setState_of ho hd (R.fits hm) ?_)
  dsimp only
  refine wp_if_neg (by simp [byScan, Value.scannable]) ?_
  try refine wpAny_bind (wpAny_pure ?_)
  obtain ⟨K, hKf, hK, hb⟩ := R.tab.first (by rw [List.length_map]; exact hm) (hOf knd k)
  have turns : 10 * SetTable.turns t.mask ≤ 2000 := by
    unfold SetTable.turns
    rcases R.tab.mok with e | e | e <;> omega
  unfold setSearch
  refine wpAny_bind (search ho hd R hm hx hu hKf hK hb (fun hin => ?_) (fun hin => ?_) 100000 0 none rfl (Nat.zero_le _) (by omega) fun d _ _ z => absurd z (Nat.not_lt_zero d))
  · exact wpAny_pure (hQ false s.heap L (Heap.SameBut.refl a s.heap) ⟨o, es, ep, t, ho, hex, hd, R, room, few0⟩ (fun _ => rfl) fun z => absurd hin z)
  have few := few0' hin
  dsimp only
  refine wpAny_bind (wpAny_setState_of ho hd (R.fits hm) ?_)
  dsimp only
  obtain ⟨q1, q2, q3, q4, q5, q6, q7, q8, q9⟩ := R.tab.put hK hb
  revert q1 q2 q3 q4 q5 q6 q7 q8 q9
  generalize t.put (way t.mask (hOf knd k) K) = pt
  obtain ⟨t1, at_⟩ := pt
  intro q1 q2 q3 q4 q5 q6 q7 q8 q9
  dsimp only at q1 q3 q4 q5 q6 q7 q8 q9 ⊢
  rw [← q1] at q2 q3
  rw [List.length_map] at q2 q9
  have pm := put_perm L at_ (x, k)
  have len1 : (L.take at_ ++ (x, k) :: L.drop at_).length = L.length + 1 := pm.length_eq
  have rows1 : (SetTable.insertAt es at_ (hOf knd k, Value.ref x)).toList = (L.take at_ ++ (x, k) :: L.drop at_).map (ent knd) := by
    rw [SetTable.toList_insertAt, R.rows, List.map_append, List.map_cons, List.map_take, List.map_drop] <;> rfl
  have hash1 : (L.take at_ ++ (x, k) :: L.drop at_).map (fun p => hOf knd p.2) = (L.map fun p => hOf knd p.2).take at_ ++ hOf knd k :: (L.map fun p => hOf knd p.2).drop at_ := by
    rw [List.map_append, List.map_cons, List.map_take, List.map_drop]
  rw [← hash1] at q3
  have nd1 : ((L.take at_ ++ (x, k) :: L.drop at_).map (·.2)).Nodup := by
    rw [(pm.map (·.2)).nodup_iff, List.map_cons, List.nodup_cons]
    exact ⟨hin, R.nd⟩
  revert rows1 pm len1 q3 nd1
  generalize L.take at_ ++ (x, k) :: L.drop at_ = L1
  generalize SetTable.insertAt es at_ (hOf knd k, Value.ref x) = es1
  clear hash1
  intro q3 pm len1 rows1 nd1
  have sz1 : es1.size = L.length + 1 := by rw [← Array.length_toList, rows1, List.length_map, len1]
  -- the marks of the table do not matter
  have done : ∀ t2 : SetTable, t2.place = t1.place → t2.dummies = t1.dummies → t2.mask = t1.mask → t2.led = t1.led →
      wpAny (model P w) A (do
        storeSet a es1 t2
        if (!false && t2.tooFull) = true then do
          setRelay a (SetTable.grown (es.size + 1))
          pure true
        else pure true) Q E s := by
    intro t2 g1 g2 g3 g4
    have T2 : TabOk t2 (L1.map fun p => hOf knd p.2) :=
      ⟨by rw [g1]; exact q3.ris, by rw [g2]; exact q3.dm, by rw [g1]; exact q3.sz, by rw [g3]; exact q3.mok, by rw [g1, g3]; exact q3.bd, by rw [g1, g3]; exact q3.reach⟩
    have fill2 : t2.fill = L.length + 1 := by
      rw [← q9]
      unfold SetTable.fill
      rw [g1, g2]
    refine wpAny_bind (wpAny_storeSet_of ho hd ?_ (by rw [sz1, sizeLine_eq]; omega))
    have sb : Heap.SameBut a s.heap (s.heap.update a (Obj.putSet es1 t2)) := Heap.SameBut.update ..
    have ho1 := store_at (es' := es1) (t' := t2) ho hd
    generalize s.heap.update a (Obj.putSet es1 t2) = h1 at sb ho1 ⊢
    have R1 : Laid knd h1 L1 es1 t2 := ⟨rows1, T2, nd1, fun p hp => by
      rcases List.mem_cons.mp (pm.mem_iff.mp hp) with e | z
      · rw [e]; exact tuple_stays hx ho hd sb
      · exact tuple_stays (R.mem p z) ho hd sb, by rw [g4, q5]; exact R.led⟩
    have ex1 : Obj.ExactSet { cls := o.cls, dict := o.dict, data := Data.set es1 (ep + 1) t2, slots := o.slots } := ⟨hex.1, hex.2.1, hex.2.2⟩
    have full : (t2.tooFull = true) ↔ t.mask * 3 ≤ (L.length + 1) * 5 := by
      unfold SetTable.tooFull
      rw [decide_eq_true_eq, fill2, g3, q4]
    by_cases tf : t2.tooFull = true
    · refine wp_if_pos (by simp [tf]) ?_
      have big := full.mp tf
      rw [sz]
      refine wpAny_bind ?_
      have fin : ∀ (M : Nat), SetTable.sizeAbove (SetTable.grown (L.length + 1)) - 1 = M → MaskOk M → SetTable.sizeAbove (SetTable.grown (L.length + 1)) ≤ 128 → (L.length + 1) * 5 < M * 3 →
          wpAny (model P w) A (setRelay a (SetTable.grown (L.length + 1))) (fun _ s' => wpAny (model P w) A (pure true) Q E s') E { s with heap := h1 } := fun M z1 z2 z3 z4 =>
        relay (s := { s with heap := h1 }) ho1 ex1 rfl R1 (by rw [len1, g3, q4]; rcases R.tab.mok with e | e | e <;> omega) (by rw [len1]; exact few) z1 z2 z3 (by rw [len1]; exact z4)
          fun h2 L2 sb2 M2 pm2 => wpAny_pure (hQ true h2 L2 (sb.trans sb2) M2 (fun z => absurd z hin) fun _ => pm2.trans pm)
      rcases R.tab.mok with e | e | e
      · have e4 : L.length = 4 := by omega
        exact fin 31 (by rw [e4, size_20]) (.inr (.inl rfl)) (by rw [e4, size_20]; decide) (by omega)
      · have e4 : L.length = 18 := by omega
        exact fin 127 (by rw [e4, size_76]) (.inr (.inr rfl)) (by rw [e4, size_76]; decide) (by omega)
      · omega
    · refine wp_if_neg (by simp [tf]) ?_
      refine wpAny_pure (hQ true h1 L1 sb ⟨_, es1, _, t2, ho1, ex1, rfl, R1, ?_, by rw [len1]; exact few⟩ (fun z => absurd z hin) fun _ => pm)
      have small : ¬ t.mask * 3 ≤ (L.length + 1) * 5 := fun z => tf (full.mpr z)
      rw [len1, g3, q4]
      omega
  by_cases pl : t1.plain = true
  · rw [if_pos pl]
    refine wpAny_bind (byValue_tuple hx fun c => ?_)
    cases c with
    | true => exact done t1 rfl rfl rfl rfl
    | false => exact done { t1 with plain := false } rfl rfl rfl rfl
  · rw [if_neg pl]
    refine wpAny_bind (wpAny_pure ?_)
    exact done t1 rfl rfl rfl rfl
end
end VT

set_option Elab.async false
set_option linter.all false
set_option maxRecDepth 100000
set_option maxHeartbeats 4000000
namespace VT
open PySem PySem.Spec PyProof.Rows L2
/-! set(xs), xs a list, by what adding a member means: J i tells the set's state after i items -/
section
variable {P : Program} {w : World} {A : Around} {E : Value → Shared → Prop} {s : Shared}
/-- what was in h0, and the object at S, stays -/
def Holds0 (h0 : Heap) (S : Addr) (h h' : Heap) : Prop := ∀ b o, (b = S ∨ h0.get? b ≠ none) → h.get? b = some o → h'.get? b = some o
def Old (h0 h : Heap) : Prop := ∀ b o, h0.get? b = some o → h.get? b = some o
structure Adds (P : Program) (w : World) (S : Addr) (h0 : Heap) (n : Nat) (Pv : Nat → Value → Prop) (J : Nat → Heap → Prop) : Prop where
  keep : ∀ i h h', J i h → Holds0 h0 S h h' → J i h'
  step : ∀ (A : Around) (E : Value → Shared → Prop) (i : Nat) (v : Value) (s : Shared) (F : Bool → Shared → Prop), A.units < cLine → i < n → Pv i v → J i s.heap → Old h0 s.heap →
    (∀ b h' tk, Heap.SameBut S s.heap h' → J (i + 1) h' → F b { s with heap := h', toks := s.toks + tk }) → wpAny (model P w) A (setAdd S v) F E s
variable {I S : Addr} {fp wr : List Addr} {G : Array GenState → Array GenState → Prop} {n : Nat} {Pv : Nat → Value → Prop} {St : Nat → Shared → Prop} {R : Result → Shared → Prop} {h0 : Heap} {J : Nat → Heap → Prop}
theorem loop_adds (W : WalksS P w A.in1 I fp wr G n Pv St) (hS : S ∉ fp) (hS0 : h0.get? S = none) (hw : ∀ b ∈ wr, h0.get? b = none) (D : Adds P w S h0 n Pv J) (hu : A.in1.units < cLine) :
    ∀ (m i : Nat) (s : Shared), n - i = m → i ≤ n → St i s → Old h0 s.heap → J i s.heap →
      (∀ s', Moved (S :: wr) G s s' → J n s'.heap → Old h0 s'.heap → R (.ok (.ret .none)) s') →
      codeAny (model P w) A (.builtin "set.update.loop" ⟨[.ref S, .ref I], []⟩) R s := by
  have nS : S ∉ wr := fun z => hS (W.sub _ z)
  have up : ∀ {s s' : Shared}, Moved wr G s s' → Old h0 s.heap → Old h0 s'.heap := fun mv z b o e => mv.heap b o (fun y => by rw [hw b y] at e; cases e) (z b o e)
  have held : ∀ {s s' : Shared}, Moved wr G s s' → Holds0 h0 S s.heap s'.heap := fun mv b o c e =>
    mv.heap b o (fun y => c.elim (fun z => nS (z ▸ y)) fun z => z (hw b y)) e
  intro m
  induction m with
  | zero =>
    intro i s em hi st old j fin
    obtain rfl : i = n := by omega
    refine codeAny_builtin F.entry_set_update_loop ?_
    rw [Around.under_plainId F.plain_set_update_loop _]
    show wpAny _ A.in1 (pyNext (.ref I) >>= _) _ _ s
    refine wpAny_bind (W.done s _ _ st fun s' mv => ?_)
    show wpAny _ A.in1 (ret Value.none) _ _ s'
    exact wpAny_pure (fin s' (mv.mono fun b hb => List.mem_cons_of_mem _ hb) (D.keep _ _ _ j (held mv)) (up mv old))
  | succ m ih =>
    intro i s em hi st old j fin
    have lt : i < n := by omega
    refine codeAny_builtin F.entry_set_update_loop ?_
    rw [Around.under_plainId F.plain_set_update_loop _]
    show wpAny _ A.in1 (pyNext (.ref I) >>= _) _ _ s
    refine wpAny_bind (W.item i s _ _ lt st fun v s' pv st' mv => ?_)
    show wpAny _ A.in1 (holding [v] (setAdd S v) >>= _) _ _ s'
    refine wpAny_bind (wpAny_holding (D.step A.in1 _ i v s' _ hu lt pv (D.keep _ _ _ j (held mv)) (up mv old) fun b h' tk sb j' => ?_))
    have old' : Old h0 h' := fun b o e => (sb.2 b fun z => by rw [z, hS0] at e; cases e).trans (up mv old b o e)
    refine wpAny_pure ⟨plainId_quiet F.plain_set_update_loop _, ih (i + 1) _ (by omega) lt (W.frame _ s' _ _ st' (Nat.le_add_right _ _) fun b hb o e => ?_) old' j' fun s'' mv'' j'' old'' => ?_⟩
    · rw [sb.2 b fun z => hS (z ▸ hb)]; exact e
    · refine fin s'' (Moved.trans W.gtrans ((mv.mono fun b hb => List.mem_cons_of_mem _ hb).then_heap (Nat.le_add_right _ _) fun b o hb e => ?_) mv'') j'' old''
      rw [sb.2 b fun z => hb (z ▸ List.mem_cons_self)]; exact e
/-- the new set -/
abbrev newSetO (w : World) : Obj := { cls := .type "set", dict := none, data := .set #[] 0 (.fresh 0 0 (!w.params.followText "set-order")) }
theorem set_of_list {l : Addr} {items : Array Value} {Q : Value → Shared → Prop} (hh : A.handled = none) (hl : s.heap.IsList l items) (hu : A.units + 3 < cLine) (J : Nat → Heap → Prop)
    (D : Adds P w s.heap.objs.size s.heap items.size (fun i v => items[i]? = some v) J) (j0 : ∀ h, h.get? s.heap.objs.size = some (newSetO w) → Old s.heap h → J 0 h)
    (h : ∀ (h' : Heap) (tk : Nat), J items.size h' → Old s.heap h' → Q (.ref s.heap.objs.size) { s with heap := h', toks := tk }) :
    wpAny (model P w) A (call (.type "set") [.ref l]) Q E s := by
  obtain ⟨c, tl, hmro⟩ := F.called_set.mro
  have hmade := F.called_set.made
  have hsub := F.called_set.sub
  refine wpAny_call (codeAny_of_tree ?_)
  show wpAny _ _ (callAny (.type "set") _) _ _ _
  refine wpAny_pure ⟨Code.quiet_builtin _ (by decide +kernel), codeAny_builtin F.entry_type_call ?_⟩
  rw [Around.under_plain (weight_type_call_type "set" [.ref l] []) rfl]
  have h1 := F.called_set.notType
  have h2 := F.called_set.canCreate
  have hct := F.typeCall_set_1 (.ref l)
  repeat (any_goals (first | assumption | wp_step))
  refine codeAny_mono (code_set_led1 (.ref l) (E := E) (Q₁ := fun obj s₁ => obj = .ref s.heap.objs.size ∧ s₁ = { s with heap := s.heap.push (newSetO w) }) ⟨rfl, rfl⟩) fun r s₁ hr => ?_
  cases r with
  | error e => exact hr
  | ok fl =>
    cases fl with
    | ret obj =>
      obtain ⟨rfl, rfl⟩ := hr
      have hS : (s.heap.push (newSetO w)).get? s.heap.objs.size = some (newSetO w) := Heap.get?_push_size _ rfl
      have hT : Shared.TypeIs { s with heap := s.heap.push (newSetO w) } (.ref s.heap.objs.size) "set" := ⟨_, hS, rfl⟩
      have hli := F.called_set.init.lookup
      have hbi := F.called_set.init.bind (.ref s.heap.objs.size)
      repeat (any_goals (first | assumption | wp_step))
      refine codeAny_mono (codeAny_call_builtin (R := wants (fun r s₂ => r = .none ∧ ∃ h' tk, s₂ = { s with heap := h', toks := tk } ∧ J items.size h' ∧ Old s.heap h') E) F.called_set.init.plain F.entry_set_init (check_set_init_1 hT ?_)) fun r₂ s₂ hr₂ => ?_
      · obtain ⟨ol, hol, hcl, nl, hdl⟩ := hl
        obtain ⟨ocls, odict, odata, oslots⟩ := ol
        simp only at hcl hdl
        subst hcl; subst hdl
        have hol' : (s.heap.push (newSetO w)).get? l = some { cls := .type "list", dict := odict, data := .seq items nl, slots := oslots } := Heap.get?_push_of_some _ hol
        have hsls := F.sub_list_set
        have hslf := F.sub_list_frozenset
        have hne : (Value.type "list" == Value.type "dict") = false := by decide
        have hl1 : (s.heap.push (newSetO w)).IsList l items := ⟨_, hol', rfl, nl, rfl⟩
        unfold Builtin.«set.__init__» noKeywords Builtin.Frozenset.updateFrom
        generalize hPI : pyIter = PI
        wp_walk
        subst hPI
        refine wpAny_pyIter_list hl1 ?_
        refine wpAny_bind (wpAny_runValue ?_)
        have lS : l < s.heap.objs.size := Heap.lt_size hol
        have nI : l ≠ (s.heap.push (newSetO w)).objs.size := by
          rw [Heap.size_push]; exact Nat.ne_of_lt (Nat.lt_succ_of_lt lS)
        have nS : s.heap.objs.size ∉ [(s.heap.push (newSetO w)).objs.size, l] := by
          rw [Heap.size_push]
          intro z
          rcases List.mem_cons.mp z with e | z
          · omega
          · exact absurd lS (by rw [List.mem_singleton.mp z]; exact Nat.lt_irrefl _)
        have free : ∀ b, s.heap.objs.size ≤ b → s.heap.get? b = none := fun b hb => by
          cases q : s.heap.get? b with
          | none => rfl
          | some o => exact absurd (Nat.lt_of_lt_of_le (Heap.lt_size q) hb) (Nat.lt_irrefl _)
        refine loop_adds ((Walks.list (by simp [hh]) _ l nI items).toS) nS (free _ (Nat.le_refl _)) (fun b hb => free b (by rw [List.mem_singleton.mp hb, Heap.size_push]; exact Nat.le_succ _)) D hu (items.size - 0) 0 _ (by omega) (Nat.zero_le _)
          ⟨⟨_, Heap.get?_push_size _ rfl, rfl, rfl⟩, (hl1.push _)⟩ (fun b o e => Heap.get?_push_of_some _ (Heap.get?_push_of_some _ e))
          (j0 _ (Heap.get?_push_of_some _ hS) fun b o e => Heap.get?_push_of_some _ (Heap.get?_push_of_some _ e)) fun s' mv j old => ?_
        obtain ⟨h', g2, d', tk', os'⟩ := s'
        have eg : g2 = s.gens := mv.gens
        have ed : d' = s.drawn := mv.drawn
        have eo : os' = s.os := mv.os
        subst eg; subst ed; subst eo
        show wpAny _ _ _ _ _ _
        refine wpAny_pure ?_
        show wpAny _ _ (ret Value.none) _ _ _
        exact wpAny_pure ⟨rfl, h', tk', rfl, j, old⟩
      · cases r₂ with
        | error e => exact hr₂
        | ok fl₂ =>
          cases fl₂ with
          | ret r =>
            obtain ⟨rfl, h', tk, rfl, j, old⟩ := hr₂
            repeat (any_goals (first | assumption | wp_step))
            exact h _ _ j old
          | _ => exact hr₂.elim
    | _ => exact hr.elim
end
end VT

set_option Elab.async false
set_option linter.all false
set_option maxRecDepth 100000
set_option maxHeartbeats 4000000
namespace VT
open PySem PySem.Spec PyProof.Rows L2
/-! over the layer: set(xs) of a list of tuples of ints and texts, sorted of such a set -/
section
variable {κ : Type} [DecidableEq κ] {P : Program} {w : World} {knd : KeyKind P w κ}
/-- the set alone, without its members' objects -/
def BareK (knd : KeyKind P w κ) (h : Heap) (a : Addr) (L : List (Addr × List κ)) : Prop :=
  ∃ o es ep t, h.get? a = some o ∧ o.ExactSet ∧ o.data = .set es ep t ∧ es.toList = L.map (ent knd) ∧ TabOk t (L.map fun p => hOf knd p.2) ∧ (L.map (·.2)).Nodup ∧
    (w.params.followText "set-order" = true ∨ t.led = true) ∧ L.length * 5 < t.mask * 3 ∧ L.length < 77
theorem SetK.bare {h : Heap} {a : Addr} {L : List (Addr × List κ)} (M : SetK knd h a L) : BareK knd h a L := by
  obtain ⟨o, es, ep, t, ho, hx, hd, R, r, f⟩ := M
  exact ⟨o, es, ep, t, ho, hx, hd, R.rows, R.tab, R.nd, R.led, r, f⟩
theorem BareK.full {h : Heap} {a : Addr} {L : List (Addr × List κ)} (M : BareK knd h a L) (hm : ∀ p ∈ L, IsTupleKey knd h p.2 p.1) : SetK knd h a L := by
  obtain ⟨o, es, ep, t, ho, hx, hd, r1, r2, r3, r4, r, f⟩ := M
  exact ⟨o, es, ep, t, ho, hx, hd, ⟨r1, r2, r3, hm, r4⟩, r, f⟩
theorem BareK.at_ {h h' : Heap} {a : Addr} {L : List (Addr × List κ)} (M : BareK knd h a L) (e : ∀ o, h.get? a = some o → h'.get? a = some o) : BareK knd h' a L := by
  obtain ⟨o, es, ep, t, ho, r⟩ := M
  exact ⟨o, es, ep, t, e o ho, r⟩
/-- the fresh set is the set of no members -/
theorem fresh_bare {h : Heap} {a : Addr} (e : h.get? a = some (newSetO w)) : BareK knd h a [] :=
  ⟨_, #[], 0, _, e, ⟨rfl, rfl, rfl⟩, rfl, rfl, ⟨List.Pairwise.nil, rfl, rfl, .inl rfl, fun x hx => (by cases hx), fun i h j hi => (by simp at hi)⟩, List.nodup_nil, by
    show _ ∨ (!w.params.followText "set-order") = true
    cases w.params.followText "set-order"
    · exact .inr rfl
    · exact .inl rfl, (by show 0 * 5 < 7 * 3; decide), (by show 0 < 77; decide)⟩
theorem nodup_le {α : Type} [DecidableEq α] : ∀ (l m : List α), l.Nodup → (∀ x ∈ l, x ∈ m) → l.length ≤ m.length
  | [], m, _, _ => Nat.zero_le _
  | x :: l, m, nd, h => by
    obtain ⟨n1, n2⟩ := List.nodup_cons.mp nd
    have hx := h x List.mem_cons_self
    have ih := nodup_le l (m.erase x) n2 fun y hy => (List.mem_erase_of_ne (fun e => by rw [e] at hy; exact n1 hy)).mpr (h y (List.mem_cons_of_mem _ hy))
    rw [List.length_erase_of_mem hx] at ih
    have := List.length_pos_of_mem hx
    rw [List.length_cons]
    omega
/-- the keys are among 76 -/
def Few {α β : Type} (ks : List (β × α)) : Prop := ∃ U : List α, U.length ≤ 76 ∧ ∀ p ∈ ks, p.2 ∈ U
theorem few_of {α β : Type} {ks : List (β × α)} (h : ks.length < 64) : Few ks := ⟨ks.map (·.2), by rw [List.length_map]; omega, fun p hp => List.mem_map_of_mem hp⟩
/-- the members after i items of the list -/
def Mid (knd : KeyKind P w κ) (a : Addr) (ks : List (Addr × List κ)) (i : Nat) (h : Heap) : Prop :=
  ∃ L, BareK knd h a L ∧ (∀ p ∈ L, p ∈ ks.take i) ∧ (∀ p ∈ ks.take i, p.2 ∈ L.map (·.2)) ∧ L.length ≤ i
theorem mid_adds {S : Addr} {h0 : Heap} {items : Array Value} (ks : List (Addr × List κ)) (hit : items.toList = ks.map fun p => Value.ref p.1) (hk : ∀ p ∈ ks, IsTupleKey knd h0 p.2 p.1) (few : Few ks) :
    Adds P w S h0 items.size (fun i v => items[i]? = some v) (Mid knd S ks) where
  keep := fun i h h' ⟨L, B, r⟩ z => ⟨L, B.at_ fun o e => z S o (.inl rfl) e, r⟩
  step := by
    intro A E i v s F hu hi hv ⟨L, B, sub, all, len⟩ old fin
    have hv2 : (ks.map fun p => Value.ref p.1)[i]? = some v := by rw [← hit, Array.getElem?_toList]; exact hv
    rw [List.getElem?_map] at hv2
    obtain ⟨p, hp, rfl⟩ := Option.map_eq_some_iff.mp hv2
    have pin := List.mem_of_getElem? hp
    have tk : ks.take (i + 1) = ks.take i ++ [p] := by rw [List.take_succ, hp] <;> rfl
    have mem : ∀ q ∈ L, IsTupleKey knd s.heap q.2 q.1 := fun q hq => tuple_keep (hk q (List.mem_of_mem_take (sub q hq))) fun o e => old _ o e
    have hx : IsTupleKey knd s.heap p.2 p.1 := tuple_keep (hk p pin) fun o e => old _ o e
    have small : i < ks.length := (List.getElem?_eq_some_iff.mp hp).1
    have room : p.2 ∉ L.map (·.2) → L.length + 1 < 77 := fun c => by
      obtain ⟨U, hU, inU⟩ := few
      have ndL : (L.map (·.2)).Nodup := by
        obtain ⟨_, _, _, _, _, _, _, _, _, nd, _⟩ := B
        exact nd
      have z := nodup_le (p.2 :: L.map (·.2)) U (List.nodup_cons.mpr ⟨c, ndL⟩) fun x hx => by
        rcases List.mem_cons.mp hx with e | e
        · rw [e]; exact inU p pin
        · obtain ⟨q, hq, rfl⟩ := List.mem_map.mp e
          exact inU q (List.mem_of_mem_take (sub q hq))
      rw [List.length_cons, List.length_map] at z
      omega
    unfold setAdd
    refine wpAny_holding (wpAny_bind (wpAny_pyHash_tuple hu hx ?_))
    refine add (s := { s with toks := s.toks + (p.2.length + 1) }) (B.full mem) hx hu room fun b h' L' sb M' c1 c2 => fin b h' (p.2.length + 1) sb ⟨L', M'.bare, ?_⟩
    by_cases c : p.2 ∈ L.map (·.2)
    · rw [c1 c, tk]
      refine ⟨fun q hq => List.mem_append_left _ (sub q hq), fun q hq => ?_, by omega⟩
      rcases List.mem_append.mp hq with z | z
      · exact all q z
      · rw [List.mem_singleton.mp z]; exact c
    · have pm := c2 c
      rw [tk]
      refine ⟨fun q hq => ?_, fun q hq => ?_, by rw [pm.length_eq, List.length_cons]; omega⟩
      · rcases List.mem_cons.mp (pm.mem_iff.mp hq) with e | z
        · rw [e]; exact List.mem_append_right _ (List.mem_singleton.mpr rfl)
        · exact List.mem_append_left _ (sub q z)
      · rw [(pm.map (·.2)).mem_iff, List.map_cons]
        rcases List.mem_append.mp hq with z | z
        · exact List.mem_cons_of_mem _ (all q z)
        · rw [List.mem_singleton.mp z]; exact List.mem_cons_self
end
/-- the members of a set made of ks -/
structure Of {κ : Type} (ks L : List (Addr × List κ)) : Prop where
  sub : ∀ p ∈ L, p ∈ ks
  all : ∀ p ∈ ks, p.2 ∈ L.map (·.2)
  nd : (L.map (·.2)).Nodup
def SetKO (P : Program) (w : World) (a : Addr) (L : List (Addr × List Key)) : HO := .ext fun h => BareK (mixKind P w) h a L
section
variable {X : Cx} {P : Program} {w : World}
theorem setKO_new {H : Hp} {h : Heap} {a : Addr} {L : List (Addr × List Key)} (M : BareK (mixKind P w) h a L) : ObjOk P w H h a (SetKO P w a L) := by
  have ⟨o, _, _, _, ho, _⟩ := M
  exact ⟨M, ⟨o, ho⟩, fun _ _ p q => BareK.at_ p q⟩
theorem items_vals : ∀ {k : List Key} {us : List Value}, Vals (k.map kV) us → ItemsAre (mixKind P w) k us
  | [], us, r => by rw [List.map_nil] at r; cases r; exact .nil
  | k :: ks, us, r => by
    rw [List.map_cons] at r
    cases r with
    | cons h t => exact .cons (kV_is h) (items_vals t)
theorem inv_tuple {pins : List (Addr × Obj)} {σ : L2.St} {H : Hp} {s : Shared} {b : Addr} {k : List Key} (I : Inv X pins σ H s) (h : SqT X.K H b (k.map kV)) : IsTupleKey (mixKind X.prog X.w) s.heap k b := by
  obtain ⟨its, r, ⟨o, ho, hc, n, hd⟩, _⟩ := I.tuple h
  exact ⟨o, its.toArray, n, ho, hc, hd, by simpa using items_vals r⟩
theorem refs_list : ∀ {ks : List (Addr × List Key)} {us : List Value}, Vals (ks.map fun p => V.ref p.1) us → us = ks.map fun p => Value.ref p.1
  | [], us, r => by rw [List.map_nil] at r; cases r; rfl
  | k :: ks, us, r => by
    rw [List.map_cons] at r
    cases r with
    | cons h t => rw [refs_list t, List.map_cons, show _ = Value.ref k.1 from h]
/-- set(xs) -/
def rSetT (K : PySem.W.Frag) (P : Program) (w : World) : List V → Hp → VK → Prop := fun xs H Q => ∃ (l : Addr) (ks : List (Addr × List Key)), xs = [V.ref l] ∧ SqL K H l (ks.map fun p => V.ref p.1) ∧
  (∀ p ∈ ks, SqT K H p.1 (p.2.map kV)) ∧ Few ks ∧ ∀ (a : Addr) (L : List (Addr × List Key)), H a = none → Of ks L → Q (.ref a) (upd H a (SetKO P w a L))
theorem cr_setT {K : PySem.W.Frag} (hK : X.K = K) (hP : X.prog = P) (hw : X.w = w) (hc : X.calm = true) (hu : X.A.units + 3 < cLine) : CallR X (.type "set") (rSetT K P w) := by
  subst hK
  subst hP
  subst hw
  intro pins s σ H xs us Q I r h
  obtain ⟨l, ks, rfl, hS, hk, few, q⟩ := h
  obtain ⟨its, rv, hl, hz⟩ := I.list hS
  rw [Vals.ref1 r]
  have hit := refs_list rv
  have hk0 : ∀ p ∈ ks, IsTupleKey (mixKind X.prog X.w) s.heap p.2 p.1 := fun p hp => inv_tuple I (hk p hp)
  have szs : its.toArray.size = ks.length := by rw [List.size_toArray, hit, List.length_map]
  refine set_of_list (I.ok.hd hc) hl.isList hu (Mid (mixKind X.prog X.w) s.heap.objs.size ks) (mid_adds ks (by simpa using hit) hk0 few) (fun h' e _ => ⟨[], fresh_bare e, fun p z => absurd z List.not_mem_nil, fun p z => absurd z (by rw [List.take_zero]; exact List.not_mem_nil), Nat.zero_le _⟩) fun h' tk j old => ?_
  rw [szs] at j
  obtain ⟨L, B, sub, all, _⟩ := j
  rw [List.take_length] at sub all
  have fr : H s.heap.objs.size = none := I.hok.fresh (Nat.le_refl _)
  have nd : (L.map (·.2)).Nodup := by
    obtain ⟨_, _, _, _, _, _, _, _, _, nd, _⟩ := B
    exact nd
  exact ⟨.ref _, upd H s.heap.objs.size (SetKO X.prog X.w s.heap.objs.size L), I.laid (t' := tk) old (Nat.le_refl _) (setKO_new B), rfl, q _ L fr ⟨sub, all, nd⟩⟩
/-! sorted of it -/
def keyD : Key → PyData
  | .inl i => .int i
  | .inr x => .str x
def keysD (k : List Key) : PyData := .tuple (k.map keyD)
theorem key_read {h : Heap} {k : Key} {u : Value} (e : (mixKind P w).is k u = true) : Reads h u (keyD k) [] := by
  rcases keyIs_shape e with ⟨i, t, rfl, rfl⟩ | ⟨x, t, rfl, rfl⟩
  · exact .int i t
  · exact .str x t
theorem keys_read {h : Heap} : ∀ {k : List Key} {us : List Value}, ItemsAre (mixKind P w) k us → ReadsAll h us (k.map keyD) []
  | _, _, .nil => .nil
  | _, _, .cons e t => ReadsAll.cons (as := []) (bs := []) (key_read e) (keys_read t)
theorem tuple_read {h : Heap} {k : List Key} {b : Addr} (e : IsTupleKey (mixKind P w) h k b) : Reads h (.ref b) (keysD k) [] := by
  obtain ⟨o, items, n, ho, hc, hd, hi⟩ := e
  exact .tuple ho hc hd (keys_read hi)
theorem keys_flat : ∀ k : List Key, PyData.depthAll (k.map keyD) = 0
  | [] => rfl
  | .inl i :: k => by rw [List.map_cons]; simp only [PyData.depthAll, keyD, PyData.depth, keys_flat k, Nat.max_self]
  | .inr i :: k => by rw [List.map_cons]; simp only [PyData.depthAll, keyD, PyData.depth, keys_flat k, Nat.max_self]
theorem keys_depth (k : List Key) : (keysD k).depth = 1 := by
  unfold keysD PyData.depth
  rw [keys_flat]
def leK (p q : Addr × List Key) : Bool := PySem.W.dataLe false (fun p : Addr × List Key => keysD p.2) p q
def rSortT (P : Program) (w : World) (K : PySem.W.Frag) : List V → Hp → VK → Prop := fun vs H Q => ∃ (a : Addr) (L : List (Addr × List Key)), vs = [V.ref a] ∧ H a = some (SetKO P w a L) ∧ (∀ p ∈ L, SqT K H p.1 (p.2.map kV)) ∧
  PySem.W.AllAlike (L.map fun p => keysD p.2) ∧ (∀ p ∈ L, p.2 ≠ []) ∧ ∀ (L' : List (Addr × List Key)) (p : Addr), L'.Perm L → H p = none → Q (.ref p) (upd H p (.lst ((L'.mergeSort leK).map fun q => V.ref q.1)))
theorem each_refs : ∀ L : List (Addr × List Key), PySem.W.EachIs (fun (u : Value) (p : Addr × List Key) => u = Value.ref p.1) (L.map fun p => Value.ref p.1) L
  | [] => .nil
  | p :: L => .cons rfl (each_refs L)
theorem each_out : ∀ {L : List (Addr × List Key)} {us : List Value}, PySem.W.EachIs (fun (u : Value) (p : Addr × List Key) => u = Value.ref p.1) us L → Vals (L.map fun p => V.ref p.1) us
  | _, _, .nil => .nil
  | _, _, .cons h t => .cons (by rw [h]; rfl) (each_out t)
theorem perm_lift {α β : Type} {f : α → β} : ∀ {l : List α} {us : List β}, us.Perm (l.map f) → ∃ l' : List α, l'.Perm l ∧ us = l'.map f := by
  intro l us h
  have : ∀ {us vs : List β}, us.Perm vs → ∀ l : List α, vs = l.map f → ∃ l' : List α, l'.Perm l ∧ us = l'.map f := by
    intro us vs h
    induction h with
    | nil => intro l e; exact ⟨[], by rw [List.map_eq_nil_iff.mp e.symm], rfl⟩
    | @cons x l1 l2 _ ih =>
      intro l e
      cases l with
      | nil => cases e
      | cons y l =>
        rw [List.map_cons] at e
        injection e with e1 e2
        obtain ⟨l', p, e3⟩ := ih l e2
        exact ⟨y :: l', p.cons y, by rw [List.map_cons, ← e1, e3]⟩
    | swap x y l1 =>
      intro l e
      match l, e with
      | a :: b :: l, e =>
        rw [List.map_cons, List.map_cons] at e
        injection e with e1 e2
        injection e2 with e2 e3
        exact ⟨b :: a :: l, .swap a b l, by rw [List.map_cons, List.map_cons, ← e1, ← e2, e3]⟩
    | trans _ _ ih1 ih2 =>
      intro l e
      obtain ⟨l2, p2, e2⟩ := ih2 l e
      obtain ⟨l1, p1, e1⟩ := ih1 l2 e2
      exact ⟨l1, p1.trans p2, e1⟩
  exact this h l rfl
theorem cr_sortT {K : PySem.W.Frag} (hK : X.K = K) (hP : X.prog = P) (hw : X.w = w) {k : Nat} (hc : X.calm = true) (hr : Room k X.A) : CallR X (.builtin "sorted") (rSortT P w K) := by
  subst hK
  subst hP
  subst hw
  intro pins s σ H vs us Q I r h
  obtain ⟨a, L, rfl, ha, hk, hal, hne, q⟩ := h
  have M0 : BareK (mixKind X.prog X.w) s.heap a L := (I.hok a _ ha).1
  obtain ⟨o, es, ep, t, ho, hx, hd, R, room, few⟩ := M0.full fun p hp => inv_tuple I (hk p hp)
  rw [Vals.ref1 r]
  have hun := hr.un
  refine Calls.call_function_entry kind_sorted plain_sorted entry_sorted (args_sorted1 _) ?_
  unfold Builtin.«sorted»
  refine wpAny_bind (m := checkCount "sorted" 1 1 _) (wpAny_pure ?_)
  refine wpAny_bind (collect_set (A := X.A.in1) (I.ok.hd hc) ⟨o, ho, hx.1, hd⟩ (R.fits (by omega)) (by rw [R.size]; exact Nat.lt_of_lt_of_le few (by decide)) R.tab.ris R.led fun s1 us1 k1 hz g1 o1 pm => ?_)
  have pm2 : us1.Perm (L.map fun p => Value.ref p.1) := by
    rw [R.rows, List.map_map] at pm
    exact pm
  obtain ⟨L', pl, rfl⟩ := perm_lift pm2
  have len : L'.length = L.length := pl.length_eq
  have lim : (L'.map fun p => Value.ref p.1).length ≤ sizeLine := by rw [List.length_map, len, sizeLine_eq]; omega
  refine wpAny_bind (wpAny_newList ?_ lim)
  have hoL : (s1.heap.push (seqObj "list" (L'.map fun p => Value.ref p.1).toArray 0)).get? s1.heap.objs.size = some (seqObj "list" (L'.map fun p => Value.ref p.1).toArray 0) := Heap.get?_push_size _ rfl
  refine wpAny_bind (wpAny_holding (PySem.W.list_sort_data (enc := fun p : Addr × List Key => keysD p.2) (bs := L') (R := fun (u : Value) (p : Addr × List Key) => u = Value.ref p.1) hoL (each_refs L') ?_ ?_ ?_ (by rw [len, sizeLine_eq]; omega) ?_ fun out lo eo => ?_))
  · have go : ∀ l : List (Addr × List Key), (∀ p ∈ l, p ∈ L) → PySem.W.EachIs (fun (u : Value) (p : Addr × List Key) => ∃ as, Reads (s1.heap.push (seqObj "list" (L'.map fun p => Value.ref p.1).toArray 0)) u (keysD p.2) as ∧ s1.heap.objs.size ∉ as) (l.map fun p => Value.ref p.1) l := by
      intro l
      induction l with
      | nil => intro _; exact .nil
      | cons p l ih =>
        intro hl
        refine .cons ⟨[], tuple_read (tuple_keep (R.mem p (hl p List.mem_cons_self)) fun o e => Heap.get?_push_of_some _ (k1 _ o e)), by simp⟩ (ih fun q hq => hl q (List.mem_cons_of_mem _ hq))
    exact go L' fun p hp => pl.mem_iff.mp hp
  · intro d hd' d' hd''
    refine hal d ?_ d' ?_
    · exact (pl.map _).mem_iff.mp hd'
    · exact (pl.map _).mem_iff.mp hd''
  · refine .inl fun d hd' => ?_
    obtain ⟨p, hp, rfl⟩ := List.mem_map.mp hd'
    have ne := hne p (pl.mem_iff.mp hp)
    cases e : p.2 with
    | nil => exact absurd e ne
    | cons x r => exact ⟨keyD x, r.map keyD, by rw [keysD, List.map_cons]⟩
  · intro p hp
    show X.A.units + 1 + 1 + (keysD p.2).depth < cLine
    rw [keys_depth]
    omega
  · obtain ⟨c, hc'⟩ := sortedHeap_at (vs := L'.map fun p => Value.ref p.1) (out := out.toArray) hoL
    have kp : ∀ b u, s.heap.get? b = some u → (PyProof.Rows.sortedHeap (s1.heap.push (seqObj "list" (L'.map fun p => Value.ref p.1).toArray 0)) s1.heap.objs.size (L'.map fun p => Value.ref p.1) out.toArray).get? b = some u := by
      intro b u e
      have hlt := Heap.lt_size (k1 b u e)
      rw [sortedHeap_old (Nat.ne_of_lt hlt) (by rw [size_push']; exact Nat.lt_succ_of_lt hlt)]
      exact Heap.get?_push_of_some _ (k1 b u e)
    have fr : H s1.heap.objs.size = none := I.hok.fresh hz
    have rv : Vals ((L'.mergeSort leK).map fun p => V.ref p.1) out := each_out eo
    have J : Inv X pins σ (upd H s1.heap.objs.size (.lst ((L'.mergeSort leK).map fun p => V.ref p.1)))
        { s with heap := PyProof.Rows.sortedHeap (s1.heap.push (seqObj "list" (L'.map fun p => Value.ref p.1).toArray 0)) s1.heap.objs.size (L'.map fun p => Value.ref p.1) out.toArray, gens := s1.gens, drawn := s1.drawn, toks := s1.toks } :=
      I.call (ch := []) (Un.laid kp hz fr) (I.hok.laid kp hz ⟨by rw [List.length_map, List.length_mergeSort, len, sizeLine_eq]; omega, out, c, rv, hc'⟩) (by rw [g1]; exact I.bare) (fun _ z => nomatch z)
    refine wpAny_pure ⟨_, rfl, ?_⟩
    rw [show ({ s1 with heap := PyProof.Rows.sortedHeap (s1.heap.push (seqObj "list" (L'.map fun p => Value.ref p.1).toArray 0)) s1.heap.objs.size (L'.map fun p => Value.ref p.1) out.toArray } : Shared) =
        { s with heap := PyProof.Rows.sortedHeap (s1.heap.push (seqObj "list" (L'.map fun p => Value.ref p.1).toArray 0)) s1.heap.objs.size (L'.map fun p => Value.ref p.1) out.toArray, gens := s1.gens, drawn := s1.drawn, toks := s1.toks } by rw [← o1]]
    exact ⟨.ref _, _, J, rfl, q L' _ pl fr⟩
end
end VT

set_option Elab.async false
set_option linter.all false
set_option maxRecDepth 100000
set_option maxHeartbeats 4000000
namespace VO
open PySem PySem.Spec PyProof.Rows L2 LamX NdefX VB
/-- a statement that is never reached -/
def tNever : TS := fun _ _ _ => False
theorem ps_never {X : Cx} (st : Stmt) : PS X st tNever := ⟨fun pins s σ H D I h => h.elim⟩
/-! set(xs), xs a list of texts -/
def MidS (P : Program) (w : World) (a : Addr) (ss : List Str) (i : Nat) (h : Heap) : Prop :=
  ∃ (S : Key → Bool) (n : Nat), VS.SetM w h a S n ∧ (∀ k, S k = true ↔ ∃ x ∈ ss.take i, k = Sum.inr x) ∧ n ≤ i
theorem strs_at : ∀ {ss : List Str} {us : List Value}, Vals (ss.map V.str) us → ∀ {i : Nat} {v : Value}, us[i]? = some v → ∃ x, ss[i]? = some x ∧ RelV (V.str x) v
  | [], us, r, i, v, e => by rw [List.map_nil] at r; cases r; simp at e
  | x :: ss, us, r, i, v, e => by
    rw [List.map_cons] at r
    cases r with
    | cons h t =>
      cases i with
      | zero => simp at e; subst e; exact ⟨x, rfl, h⟩
      | succ i => exact strs_at t (by simpa using e)
theorem midS_adds {P : Program} {w : World} {a : Addr} {h0 : Heap} {items : Array Value} (ss : List Str) (hit : Vals (ss.map V.str) items.toList) (few : ss.length + 1 < scanBound) :
    VT.Adds P w a h0 items.size (fun i v => items[i]? = some v) (MidS P w a ss) where
  keep := fun i h h' ⟨S, n, M, r⟩ z => ⟨S, n, M.at fun o e => z a o (.inl rfl) e, r⟩
  step := by
    intro A E i v s F hu hi hv ⟨S, n, M, mem, len⟩ old fin
    obtain ⟨x, hx, hr⟩ := strs_at hit (i := i) (v := v) (by rw [Array.getElem?_toList]; exact hv)
    have tk : ss.take (i + 1) = ss.take i ++ [x] := by rw [List.take_succ, hx] <;> rfl
    have small : i < ss.length := (List.getElem?_eq_some_iff.mp hx).1
    have hkey : (mixKind P w).is (Sum.inr x) v = true := kV_is (k := Sum.inr x) hr
    have hsc : v.scannable = true := key_scan (k := Sum.inr x) hr
    unfold setAdd
    refine wpAny_holding (wpAny_bind ((mixKind P w).pyHash hkey ?_))
    refine VS.add_hashedM (s := { s with toks := s.toks + 1 }) hkey hsc M (by omega) fun h' sb M' => fin _ h' 1 sb ⟨_, _, M', fun k => ?_, ?_⟩
    · rw [Bool.or_eq_true, decide_eq_true_eq, mem, tk]
      constructor
      · rintro (⟨y, hy, e⟩ | e)
        · exact ⟨y, List.mem_append_left _ hy, e⟩
        · exact ⟨x, List.mem_append_right _ (List.mem_singleton.mpr rfl), e⟩
      · rintro ⟨y, hy, e⟩
        rcases List.mem_append.mp hy with z | z
        · exact .inl ⟨y, z, e⟩
        · rw [List.mem_singleton.mp z] at e; exact .inr e
    · split <;> omega
theorem noneS (ss : List Str) : ∀ k : Key, (fun _ : Key => false) k = true ↔ ∃ x ∈ ss.take 0, k = Sum.inr x := fun k => ⟨fun z => Bool.noConfusion z, fun ⟨x, z, _⟩ => absurd z (by rw [List.take_zero]; exact List.not_mem_nil)⟩
def rSetS (K : PySem.W.Frag) (w : World) : List V → Hp → VK → Prop := fun xs H Q => ∃ (l : Addr) (ss : List Str), xs = [V.ref l] ∧ SqL K H l (ss.map V.str) ∧ ss.length + 1 < scanBound ∧
  ∀ (a : Addr) (S : Key → Bool) (n : Nat), H a = none → (∀ k, S k = true ↔ ∃ x ∈ ss, k = Sum.inr x) → n ≤ ss.length → Q (.ref a) (upd H a (VS.SetMO w a S n))
theorem cr_setS {X : Cx} {K : PySem.W.Frag} {w : World} (hK : X.K = K) (hw : X.w = w) (hc : X.calm = true) (hu : X.A.units + 3 < cLine) : CallR X (.type "set") (rSetS K w) := by
  subst hK
  subst hw
  intro pins s σ H xs us Q I r h
  obtain ⟨l, ss, rfl, hS, few, q⟩ := h
  obtain ⟨its, rv, hl, hz⟩ := I.list hS
  rw [Vals.ref1 r]
  have szs : its.toArray.size = ss.length := by rw [List.size_toArray, ← rv.length, List.length_map]
  refine VT.set_of_list (I.ok.hd hc) hl.isList hu (MidS X.prog X.w s.heap.objs.size ss) (midS_adds ss (by simpa using rv) few) (fun h' e _ => ⟨fun _ => false, 0, ?_, noneS ss, Nat.zero_le _⟩) fun h' tk j old => ?_
  · refine ⟨_, #[], 0, _, e, ⟨rfl, rfl, rfl⟩, rfl, (fun e he => by simp at he), (by simp), (fun k => by simp), (by decide), (by rfl), rfl, List.Pairwise.nil, ?_⟩
    show _ ∨ (!X.w.params.followText "set-order") = true
    cases X.w.params.followText "set-order"
    · exact .inr rfl
    · exact .inl rfl
  rw [szs] at j
  obtain ⟨S, n, M, mem, len⟩ := j
  rw [List.take_length] at mem
  have fr : H s.heap.objs.size = none := I.hok.fresh (Nat.le_refl _)
  exact ⟨.ref _, upd H s.heap.objs.size (VS.SetMO X.w s.heap.objs.size S n), I.laid (t' := tk) old (Nat.le_refl _) (VS.setMO_new (P := X.prog) M), rfl, q _ S n fr mem len⟩
/-! d.setdefault(t, e), t a tuple of ints and texts -/
section
variable {X : Cx} {o e f : Expr} {td ty tx : TE} {apos cpos : Pos}
def tSetdT (td ty tx : TE) : TE := fun σ H Q => td σ H fun x H1 => ∃ a, x = .ref a ∧ IsD H1 a ∧ ty σ H1 fun y H2 => tx σ H2 fun z H3 => ∃ (kvs : List (List Key × V)) (k : List Key) (b : Addr), H3 a = some (.dT kvs) ∧ y = .ref b ∧ H3 b = some (.tup (k.map kV)) ∧
  kvs.length < sizeLine ∧ (∀ v, valV kvs k = some v → Q v H3) ∧ (valV kvs k = none → Q z (upd H3 a (.dT (putK kvs k z))))
theorem pe_setdT (hu : X.A.units + 1 < cLine) (ho : PE X o td) (he : PE X e ty) (hf : PE X f tx) (m : M2 X o "setdefault" apos e f cpos) : PE X (.Call (.Attribute o "setdefault" apos) [e, f] [] cpos) (tSetdT td ty tx) := by
  refine ⟨fun pins s σ H Q I h => ?_⟩
  refine wpAny_Call_method m.base m.few m.line PySem.F.plainAttrs_dict PySem.F.slot_dict_setdefault PySem.F.type_dict_setdefault (thn (ho.run pins s σ H _ I h) fun u s1 ⟨x, H1, I1, rx, a, ex, d, q1⟩ => ?_)
  subst ex
  obtain rfl : u = Value.ref a := rx
  obtain ⟨t1, t2, _⟩ := isD_at I1 d
  refine ⟨t1, t2, ?_⟩
  rw [m.trees]
  refine Calls.callWith_builtin rfl (Calls.evalArgs_plain (Calls.spliced_cons (thn (he.run pins s1 σ H1 _ I1 q1) fun iv s2 ⟨y, H2, I2, ry, q2⟩ =>
    Calls.spliced_cons (thn (hf.run pins s2 σ H2 _ I2 q2) fun fv s3 ⟨z, H3, I3, rz, kvs, k, b, ea, ey, eb, hl, q3, q4⟩ => Calls.spliced_nil ?_))))
  subst ey
  obtain rfl : iv = Value.ref b := ry
  obtain ⟨len, low, xs, kt, dh⟩ := dt_of I3.hok ea
  have room : X.A.in1.units < cLine := by
    show X.A.units + 1 < cLine
    exact hu
  refine PySem.call_setdefault_heap (knd := tupleKind (mixKind X.prog X.w)) room (key_of I3.hok eb) low dh (fun p hp => ?_) (fun hn h' dh' sb => ?_) (by rw [← kt.length]; exact len)
  · have g := kt.val k
    rw [hp] at g
    cases c : valV kvs k with
    | none => rw [c] at g; exact (show False from g).elim
    | some v => rw [c] at g; exact ⟨v, H3, I3.tok _, g, q3 v c⟩
  · have g := kt.val k
    rw [hn] at g
    cases c : valV kvs k with
    | some v => rw [c] at g; exact (show False from g).elim
    | none =>
      have l2 : (putK kvs k z).length ≤ sizeLine := by
        have := length_putK kvs k z
        omega
      obtain ⟨q, es, ep, hq, g1, g2, g3, _, g4⟩ := dh'
      refine ⟨z, _, d_write (ob := .dT (putK kvs k z)) I3 (by rw [ea]; exact True.intro) sb ⟨q, hq⟩ ⟨l2, low, _, (kt.put k eb rz).keeps fun c ys ec => ?_, q, es, ep, hq, g1, g2, g3, g4⟩, rz, q4 c⟩
      rw [upd_ne (ne_of ec ea (fun z => nomatch z))]
      exact ec
end
end VO

set_option Elab.async false
set_option linter.all false
set_option maxRecDepth 100000
set_option maxHeartbeats 4000000
namespace VM
open PySem PySem.Spec PyProof.Rows L2 LamX NdefX VB
/-! edges and their order -/
abbrev Ed := Int × Str × Int
abbrev Pr := Str × Int
def edV (e : Ed) : List V := [.int e.1, .str e.2.1, .int e.2.2]
def edK (e : Ed) : List Key := [.inl e.1, .inr e.2.1, .inl e.2.2]
def edD (e : Ed) : PyData := .tuple [.int e.1, .str e.2.1, .int e.2.2]
def pqV (e : Pr) : List V := [.str e.1, .int e.2]
def pqD (e : Pr) : PyData := .tuple [.str e.1, .int e.2]
def sLt (a b : Str) : Prop := a.cps.toList < b.cps.toList
instance (a b : Str) : Decidable (sLt a b) := inferInstanceAs (Decidable (a.cps.toList < b.cps.toList))
def ltP (a b : Pr) : Prop := sLt a.1 b.1 ∨ (a.1 = b.1 ∧ a.2 < b.2)
instance (a b : Pr) : Decidable (ltP a b) := inferInstanceAs (Decidable (_ ∨ _))
def ltE (a b : Ed) : Prop := a.1 < b.1 ∨ (a.1 = b.1 ∧ ltP a.2 b.2)
instance (a b : Ed) : Decidable (ltE a b) := inferInstanceAs (Decidable (_ ∨ _))
theorem sLt_irrefl (a : Str) : ¬ sLt a a := List.lt_irrefl _
theorem sLt_trans {a b c : Str} (h : sLt a b) (g : sLt b c) : sLt a c := List.lt_trans h g
theorem sLt_tri {a b : Str} (h : ¬ sLt a b) (g : ¬ sLt b a) : a = b :=
  PyProof.Rows.ext_toList (List.le_antisymm (List.not_lt.mp g) (List.not_lt.mp h))
theorem ltP_irrefl (a : Pr) : ¬ ltP a a := fun z => z.elim (sLt_irrefl _) fun z => Int.lt_irrefl _ z.2
theorem ltP_trans {a b c : Pr} (h : ltP a b) (g : ltP b c) : ltP a c := by
  rcases h with h | ⟨h1, h2⟩
  · rcases g with g | ⟨g1, g2⟩
    · exact .inl (sLt_trans h g)
    · exact .inl (g1 ▸ h)
  · rcases g with g | ⟨g1, g2⟩
    · exact .inl (h1 ▸ g)
    · exact .inr ⟨h1.trans g1, Int.lt_trans h2 g2⟩
theorem ltP_tri {a b : Pr} (h : ¬ ltP a b) (g : ¬ ltP b a) : a = b := by
  have e1 : a.1 = b.1 := sLt_tri (fun z => h (.inl z)) fun z => g (.inl z)
  have h2 : ¬ a.2 < b.2 := fun z => h (.inr ⟨e1, z⟩)
  have g2 : ¬ b.2 < a.2 := fun z => g (.inr ⟨e1.symm, z⟩)
  exact Prod.ext e1 (by omega)
theorem ltE_irrefl (a : Ed) : ¬ ltE a a := fun z => z.elim (Int.lt_irrefl _) fun z => ltP_irrefl _ z.2
theorem ltE_trans {a b c : Ed} (h : ltE a b) (g : ltE b c) : ltE a c := by
  rcases h with h | ⟨h1, h2⟩
  · rcases g with g | ⟨g1, g2⟩
    · exact .inl (Int.lt_trans h g)
    · exact .inl (g1 ▸ h)
  · rcases g with g | ⟨g1, g2⟩
    · exact .inl (h1 ▸ g)
    · exact .inr ⟨h1.trans g1, ltP_trans h2 g2⟩
theorem ltE_tri {a b : Ed} (h : ¬ ltE a b) (g : ¬ ltE b a) : a = b := by
  have h1 : ¬ a.1 < b.1 := fun z => h (.inl z)
  have g1 : ¬ b.1 < a.1 := fun z => g (.inl z)
  have e1 : a.1 = b.1 := by omega
  exact Prod.ext e1 (ltP_tri (fun z => h (.inr ⟨e1, z⟩)) fun z => g (.inr ⟨e1.symm, z⟩))
/-- a list without repetition, ascending, is told by its members -/
theorem asc_unique {α : Type} {lt : α → α → Prop} (ir : ∀ a, ¬ lt a a) (tr : ∀ a b c, lt a b → lt b c → lt a c) : ∀ {l m : List α}, l.Pairwise lt → m.Pairwise lt → (∀ x, x ∈ l ↔ x ∈ m) → l = m
  | [], [], _, _, _ => rfl
  | [], b :: m, _, _, h => absurd ((h b).2 List.mem_cons_self) List.not_mem_nil
  | a :: l, [], _, _, h => absurd ((h a).1 List.mem_cons_self) List.not_mem_nil
  | a :: l, b :: m, hl, hm, h => by
    obtain ⟨l1, l2⟩ := List.pairwise_cons.mp hl
    obtain ⟨m1, m2⟩ := List.pairwise_cons.mp hm
    have e : a = b := by
      rcases List.mem_cons.mp ((h a).1 List.mem_cons_self) with z | z
      · exact z
      · rcases List.mem_cons.mp ((h b).2 List.mem_cons_self) with y | y
        · exact y.symm
        · exact absurd (tr _ _ _ (l1 b y) (m1 a z)) (ir a)
    subst e
    rw [asc_unique ir tr l2 m2 fun x => ?_]
    constructor
    · intro z
      rcases List.mem_cons.mp ((h x).1 (List.mem_cons_of_mem _ z)) with y | y
      · exact absurd (l1 x z) (y ▸ ir a)
      · exact y
    · intro z
      rcases List.mem_cons.mp ((h x).2 (List.mem_cons_of_mem _ z)) with y | y
      · exact absurd (m1 x z) (y ▸ ir a)
      · exact y
theorem ascE {l m : List Ed} (hl : l.Pairwise ltE) (hm : m.Pairwise ltE) (h : ∀ x, x ∈ l ↔ x ∈ m) : l = m := asc_unique ltE_irrefl (fun _ _ _ => ltE_trans) hl hm h
theorem ascP {l m : List Pr} (hl : l.Pairwise ltP) (hm : m.Pairwise ltP) (h : ∀ x, x ∈ l ↔ x ∈ m) : l = m := asc_unique ltP_irrefl (fun _ _ _ => ltP_trans) hl hm h
/-! the order of the data -/
theorem dataLt_pr (a b : Pr) : PySem.W.dataLt (pqD a) (pqD b) = decide (ltP a b) := by
  unfold pqD
  rw [PySem.W.dataLt_pair rfl rfl, PySem.W.dataLt_str]
  by_cases e : a.1 = b.1
  · rw [if_pos (by rw [e]; simp [PyData.eqv])]
    by_cases e2 : a.2 = b.2
    · rw [if_pos (by rw [e2]; simp [PyData.eqv])]
      refine (decide_eq_false fun z => ?_).symm
      rcases z with z | z
      · rw [e] at z; exact sLt_irrefl _ z
      · omega
    · rw [if_neg (by simp [PyData.eqv, e2]), PySem.W.dataLt_int]
      refine decide_eq_decide.mpr ⟨fun z => .inr ⟨e, z⟩, fun z => ?_⟩
      rcases z with z | z
      · rw [e] at z; exact absurd z (sLt_irrefl _)
      · exact z.2
  · rw [if_neg (by simp [PyData.eqv, e])]
    refine decide_eq_decide.mpr ⟨fun z => .inl z, fun z => ?_⟩
    rcases z with z | z
    · exact z
    · exact absurd z.1 e
theorem dataLt_ed (a b : Ed) : PySem.W.dataLt (edD a) (edD b) = decide (ltE a b) := by
  have h2 : PySem.W.dataLt (pqD a.2) (pqD b.2) = decide (ltP a.2 b.2) := dataLt_pr a.2 b.2
  unfold pqD at h2
  rw [PySem.W.dataLt_tuple] at h2
  unfold edD
  rw [PySem.W.dataLt_tuple, PySem.W.dataLt_cons rfl, h2, PySem.W.dataLt_int]
  by_cases e : a.1 = b.1
  · rw [if_pos (by rw [e]; simp [PyData.eqv])]
    refine decide_eq_decide.mpr ⟨fun z => .inr ⟨e, z⟩, fun z => ?_⟩
    rcases z with z | z
    · omega
    · exact z.2
  · rw [if_neg (by simp [PyData.eqv, e])]
    refine decide_eq_decide.mpr ⟨fun z => .inl z, fun z => ?_⟩
    rcases z with z | z
    · exact z
    · exact absurd z.1 e
/-- what sorting leaves of distinct items: ascending -/
theorem asc_of_sorted {α : Type} {lt : α → α → Prop} [DecidableRel lt] (tri : ∀ a b, ¬ lt a b → ¬ lt b a → a = b) {le : α → α → Bool} (hle : ∀ a b, le a b = !decide (lt b a)) (tr : ∀ a b c, lt a b → lt b c → lt a c) (ir : ∀ a, ¬ lt a a)
    {l : List α} (nd : l.Nodup) : (l.mergeSort le).Pairwise lt := by
  have tot : ∀ a b, (le a b || le b a) = true := by
    intro a b
    rw [hle, hle, Bool.or_eq_true, Bool.not_eq_true', Bool.not_eq_true', decide_eq_false_iff_not, decide_eq_false_iff_not]
    by_cases h : lt b a
    · exact .inr fun z => ir a (tr _ _ _ z h)
    · exact .inl h
  have trn : ∀ a b c, le a b = true → le b c = true → le a c = true := by
    intro a b c h g
    rw [hle, Bool.not_eq_true', decide_eq_false_iff_not] at *
    intro z
    by_cases e : lt a b
    · exact g (tr _ _ _ z e)
    · rw [tri a b e h] at z
      exact g z
  have p1 := List.pairwise_mergeSort (le := le) trn tot l
  have nd2 : (l.mergeSort le).Nodup := (List.mergeSort_perm l le).nodup_iff.mpr nd
  refine (p1.and nd2).imp fun {a b} ⟨h, n⟩ => ?_
  rw [hle, Bool.not_eq_true', decide_eq_false_iff_not] at h
  by_cases e : lt a b
  · exact e
  · exact absurd (tri a b e h) n
/-! the edges that leave a state -/
def leav (E : List Ed) (s : Int) : List Pr := (E.filter fun e => decide (e.1 = s)).map (·.2)
theorem leav_mem {E : List Ed} {s : Int} {p : Pr} : p ∈ leav E s ↔ (s, p) ∈ E := by
  unfold leav
  rw [List.mem_map]
  constructor
  · rintro ⟨e, he, rfl⟩
    obtain ⟨h1, h2⟩ := List.mem_filter.mp he
    rw [← of_decide_eq_true h2]
    exact h1
  · intro h
    exact ⟨(s, p), List.mem_filter.mpr ⟨h, decide_eq_true rfl⟩, rfl⟩
theorem leav_asc {E : List Ed} (h : E.Pairwise ltE) (s : Int) : (leav E s).Pairwise ltP := by
  unfold leav
  rw [List.pairwise_map]
  refine (h.filter _).imp_of_mem fun {a b} ha hb z => ?_
  have e1 := of_decide_eq_true (List.mem_filter.mp ha).2
  have e2 := of_decide_eq_true (List.mem_filter.mp hb).2
  rcases z with z | z
  · omega
  · exact z.2
theorem leav_snoc (E : List Ed) (e : Ed) (s : Int) : leav (E ++ [e]) s = if e.1 = s then leav E s ++ [e.2] else leav E s := by
  unfold leav
  rw [List.filter_append, List.map_append]
  by_cases h : e.1 = s
  · rw [if_pos h, List.filter_cons_of_pos (by simpa using h)]; rfl
  · rw [if_neg h, List.filter_cons_of_neg (by simpa using h)]; simp
/-- the states' edges are no more than all -/
theorem leav_sum : ∀ (E : List Ed) (ss : List Int), ss.Nodup → (ss.map fun s => (leav E s).length).sum ≤ E.length
  | [], ss, _ => by
    have z : ss.map (fun s => (leav [] s).length) = ss.map fun _ => 0 := rfl
    rw [z]
    have g : ∀ l : List Int, (l.map fun _ => 0).sum = 0 := by
      intro l
      induction l with
      | nil => rfl
      | cons x l ih => rw [List.map_cons, List.sum_cons, ih]
    rw [g]
    exact Nat.le_refl _
  | e :: E, ss, nd => by
    have ih := leav_sum E ss nd
    have g : ∀ l : List Int, l.Nodup → (l.map fun s => (leav (e :: E) s).length).sum ≤ (l.map fun s => (leav E s).length).sum + (if e.1 ∈ l then 1 else 0) := by
      intro l
      induction l with
      | nil => intro _; exact Nat.zero_le _
      | cons x l ih =>
        intro hn
        obtain ⟨n1, n2⟩ := List.nodup_cons.mp hn
        have ih2 := ih n2
        rw [List.map_cons, List.sum_cons, List.map_cons, List.sum_cons]
        by_cases h : e.1 = x
        · have e1 : (leav (e :: E) x).length = (leav E x).length + 1 := by
            unfold leav
            rw [List.filter_cons_of_pos (by simpa using h), List.map_cons, List.length_cons]
          rw [e1, if_pos (h ▸ List.mem_cons_self)]
          rw [if_neg (h ▸ n1)] at ih2
          omega
        · have e1 : (leav (e :: E) x).length = (leav E x).length := by
            unfold leav
            rw [List.filter_cons_of_neg (by simpa using h)]
          rw [e1]
          have e2 : (e.1 ∈ x :: l) = (e.1 ∈ l) := by
            rw [List.mem_cons]
            exact propext ⟨fun z => z.elim (fun y => absurd y h) id, .inr⟩
          simp only [e2]
          omega
    have z := g ss nd
    rw [List.length_cons]
    split at z <;> omega
/-! numbering: the states in their new order, the edges so far -/
abbrev Bs := List Int × List Ed
def ix (o : List Int) (t : Int) : Int := (o.idxOf t : Nat)
def see (o : List Int) (t : Int) : List Int := if t ∈ o then o else o ++ [t]
def visit (k : Nat) : List Pr → Bs → Bs
  | [], st => st
  | p :: r, (o, f) => visit k r (see o p.2, f ++ [((k : Int), p.1, ix (see o p.2) p.2)])
def step (E : List Ed) (k : Nat) (st : Bs) : Bs := match st.1[k]? with
  | some s => visit k (leav E s) st
  | none => st
def runB (E : List Ed) (start : Int) : Nat → Bs
  | 0 => ([start], [])
  | k + 1 => step E k (runB E start k)
theorem see_mem (o : List Int) (t : Int) : t ∈ see o t := by
  unfold see
  by_cases h : t ∈ o
  · rw [if_pos h]; exact h
  · rw [if_neg h]; simp
theorem see_sub {o : List Int} {t x : Int} (h : x ∈ o) : x ∈ see o t := by
  unfold see
  split
  · exact h
  · exact List.mem_append_left _ h
theorem see_nodup {o : List Int} (h : o.Nodup) (t : Int) : (see o t).Nodup := by
  unfold see
  by_cases q : t ∈ o
  · rw [if_pos q]; exact h
  · rw [if_neg q]
    exact List.nodup_append.mpr ⟨h, by simp, fun a ha b hb => by rw [List.mem_singleton.mp hb]; intro e; exact q (e ▸ ha)⟩
theorem see_pre (o : List Int) (t : Int) : ∃ r, see o t = o ++ r := by
  unfold see
  split
  · exact ⟨[], by simp⟩
  · exact ⟨_, rfl⟩
theorem visit_pre (k : Nat) : ∀ (l : List Pr) (st : Bs), ∃ r g, visit k l st = (st.1 ++ r, st.2 ++ g)
  | [], st => ⟨[], [], by simp [visit]⟩
  | p :: l, (o, f) => by
    obtain ⟨r1, e1⟩ := see_pre o p.2
    obtain ⟨r, g, e⟩ := visit_pre k l (see o p.2, f ++ [((k : Int), p.1, ix (see o p.2) p.2)])
    refine ⟨r1 ++ r, [((k : Int), p.1, ix (see o p.2) p.2)] ++ g, ?_⟩
    show visit k l _ = _
    rw [e, e1]
    simp [List.append_assoc]
theorem visit_len (k : Nat) : ∀ (l : List Pr) (st : Bs), (visit k l st).2.length = st.2.length + l.length
  | [], st => rfl
  | p :: l, (o, f) => by
    show (visit k l _).2.length = _
    rw [visit_len k l, List.length_append, List.length_singleton, List.length_cons]
    show f.length + 1 + l.length = f.length + (l.length + 1)
    omega
theorem visit_nodup (k : Nat) : ∀ (l : List Pr) (st : Bs), st.1.Nodup → (visit k l st).1.Nodup
  | [], st, h => h
  | p :: l, (o, f), h => visit_nodup k l _ (see_nodup h p.2)
theorem visit_mem (k : Nat) : ∀ (l : List Pr) (st : Bs) (x : Int), x ∈ (visit k l st).1 ↔ x ∈ st.1 ∨ ∃ p ∈ l, p.2 = x
  | [], st, x => ⟨.inl, fun z => z.elim id fun ⟨_, y, _⟩ => absurd y List.not_mem_nil⟩
  | p :: l, (o, f), x => by
    show x ∈ (visit k l _).1 ↔ _
    rw [visit_mem k l]
    show x ∈ see o p.2 ∨ _ ↔ _
    have e : x ∈ see o p.2 ↔ x ∈ o ∨ p.2 = x := by
      constructor
      · intro h
        unfold see at h
        split at h
        · exact .inl h
        · rcases List.mem_append.mp h with z | z
          · exact .inl z
          · exact .inr (List.mem_singleton.mp z).symm
      · rintro (h | h)
        · exact see_sub h
        · exact h ▸ see_mem o p.2
    rw [e]
    constructor
    · rintro ((h | h) | ⟨q, hq, h⟩)
      · exact .inl h
      · exact .inr ⟨p, List.mem_cons_self, h⟩
      · exact .inr ⟨q, List.mem_cons_of_mem _ hq, h⟩
    · rintro (h | ⟨q, hq, h⟩)
      · exact .inl (.inl h)
      · rcases List.mem_cons.mp hq with rfl | z
        · exact .inl (.inr h)
        · exact .inr ⟨q, z, h⟩
end VM

set_option Elab.async false
set_option linter.all false
set_option maxRecDepth 100000
set_option maxHeartbeats 4000000
namespace VM
open PySem PySem.Spec PyProof.Rows L2 LamX NdefX VB
theorem ix_app {o : List Int} {t : Int} (h : t ∈ o) (r : List Int) : ix (o ++ r) t = ix o t := by
  unfold ix
  rw [List.idxOf_append, if_pos h]
theorem ix_lt {o : List Int} {t : Int} (h : t ∈ o) : 0 ≤ ix o t ∧ ix o t < (o.length : Nat) := by
  unfold ix
  have := List.idxOf_lt_length_iff.mpr h
  omega
theorem ix_at {o : List Int} (nd : o.Nodup) {i : Nat} {t : Int} (h : o[i]? = some t) : ix o t = (i : Nat) := by
  unfold ix
  obtain ⟨hi, e⟩ := List.getElem?_eq_some_iff.mp h
  have := nd.idxOf_getElem i hi
  rw [e] at this
  rw [this]
theorem ix_get {o : List Int} {t : Int} (h : t ∈ o) : o[(ix o t).toNat]? = some t := by
  unfold ix
  have hl := List.idxOf_lt_length_iff.mpr h
  rw [Int.toNat_natCast, List.getElem?_eq_getElem hl, List.getElem_idxOf hl]
/-- the edges that a visit writes, by the states behind it -/
theorem visit_edges (k : Nat) : ∀ (l : List Pr) (st : Bs) (e : Ed), e ∈ (visit k l st).2 ↔ e ∈ st.2 ∨ ∃ p ∈ l, e = ((k : Int), p.1, ix (visit k l st).1 p.2)
  | [], st, e => ⟨.inl, fun z => z.elim id fun ⟨_, y, _⟩ => absurd y List.not_mem_nil⟩
  | p :: l, (o, f), e => by
    show e ∈ (visit k l (see o p.2, f ++ [((k : Int), p.1, ix (see o p.2) p.2)])).2 ↔ _ ∨ ∃ q ∈ p :: l, e = ((k : Int), q.1, ix (visit k l (see o p.2, f ++ [((k : Int), p.1, ix (see o p.2) p.2)])).1 q.2)
    rw [visit_edges k l]
    obtain ⟨r, g, er⟩ := visit_pre k l (see o p.2, f ++ [((k : Int), p.1, ix (see o p.2) p.2)])
    have e1 : ix (visit k l (see o p.2, f ++ [((k : Int), p.1, ix (see o p.2) p.2)])).1 p.2 = ix (see o p.2) p.2 := by
      rw [er]; exact ix_app (see_mem o p.2) r
    constructor
    · rintro (h | ⟨q, hq, h⟩)
      · rcases List.mem_append.mp h with z | z
        · exact .inl z
        · exact .inr ⟨p, List.mem_cons_self, by rw [e1]; exact List.mem_singleton.mp z⟩
      · exact .inr ⟨q, List.mem_cons_of_mem _ hq, h⟩
    · rintro (h | ⟨q, hq, h⟩)
      · exact .inl (List.mem_append_left _ h)
      · rcases List.mem_cons.mp hq with rfl | z
        · rw [e1] at h
          exact .inl (List.mem_append_right _ (List.mem_singleton.mpr h))
        · exact .inr ⟨q, z, h⟩
/-- what the numbering has after k states -/
structure Numb (E : List Ed) (n : Int) (k : Nat) (st : Bs) : Prop where
  nd : st.1.Nodup
  low : ∀ x ∈ st.1, 0 ≤ x ∧ x < n
  le : k ≤ st.1.length
  len : st.2.length = ((st.1.take k).map fun s => (leav E s).length).sum
  mem : ∀ e, e ∈ st.2 ↔ ∃ i s, i < k ∧ st.1[i]? = some s ∧ ∃ p ∈ leav E s, e = ((i : Int), p.1, ix st.1 p.2)
  has : ∀ i s, i < k → st.1[i]? = some s → ∀ p ∈ leav E s, p.2 ∈ st.1
theorem numb0 (E : List Ed) {n : Int} (h : 0 < n) : Numb E n 0 ([0], []) :=
  ⟨by simp, fun x hx => by rw [List.mem_singleton.mp hx]; omega, Nat.zero_le _, rfl, fun e => ⟨fun z => absurd z List.not_mem_nil, fun ⟨i, _, z, _⟩ => absurd z (Nat.not_lt_zero _)⟩, fun i _ z => absurd z (Nat.not_lt_zero _)⟩
theorem numb_step {E : List Ed} {n : Int} {k : Nat} {st : Bs} {s : Int} (N : Numb E n k st) (hs : st.1[k]? = some s) (ok : ∀ e ∈ E, 0 ≤ e.2.2 ∧ e.2.2 < n) : Numb E n (k + 1) (visit k (leav E s) st) := by
  obtain ⟨r, g, e⟩ := visit_pre k (leav E s) st
  have hk : k < st.1.length := (List.getElem?_eq_some_iff.mp hs).1
  have e1 : (visit k (leav E s) st).1 = st.1 ++ r := by rw [e]
  have old : ∀ {i : Nat} {x : Int}, i < k + 1 → ((visit k (leav E s) st).1[i]? = some x ↔ st.1[i]? = some x) := by
    intro i x hi
    rw [e1, List.getElem?_append_left (by omega)]
  have all : ∀ p ∈ leav E s, p.2 ∈ (visit k (leav E s) st).1 := fun p hp => (visit_mem k _ st p.2).2 (.inr ⟨p, hp, rfl⟩)
  refine ⟨visit_nodup k _ st N.nd, fun x hx => ?_, by rw [e1, List.length_append]; omega, ?_, fun e' => ?_, fun i x hi hx p hp => ?_⟩
  · rcases (visit_mem k _ st x).1 hx with z | ⟨p, hp, rfl⟩
    · exact N.low x z
    · exact ok _ (leav_mem.1 hp)
  · have t1 : (visit k (leav E s) st).1.take (k + 1) = st.1.take k ++ [s] := by
      rw [e1, List.take_append_of_le_length (by omega), List.take_succ, hs] <;> rfl
    rw [visit_len, t1, N.len, List.map_append, List.sum_append]
    simp
  · rw [visit_edges, N.mem]
    constructor
    · rintro (⟨i, x, hi, hx, p, hp, he⟩ | ⟨p, hp, he⟩)
      · refine ⟨i, x, by omega, (old (by omega)).2 hx, p, hp, ?_⟩
        rw [he, e1, ix_app (N.has i x hi hx p hp)]
      · exact ⟨k, s, by omega, (old (by omega)).2 hs, p, hp, he⟩
    · rintro ⟨i, x, hi, hx, p, hp, he⟩
      have hx2 := (old hi).1 hx
      rcases Nat.lt_or_ge i k with z | z
      · refine .inl ⟨i, x, z, hx2, p, hp, ?_⟩
        rw [he, e1, ix_app (N.has i x z hx2 p hp)]
      · obtain rfl : i = k := by omega
        rw [hs] at hx2
        obtain rfl := Option.some.inj hx2
        exact .inr ⟨p, hp, he⟩
  · have hx2 := (old hi).1 hx
    rcases Nat.lt_or_ge i k with z | z
    · rw [e1]; exact List.mem_append_left _ (N.has i x z hx2 p hp)
    · obtain rfl : i = k := by omega
      rw [hs] at hx2
      obtain rfl := Option.some.inj hx2
      exact all p hp
theorem low_len {o : List Int} {n : Int} (nd : o.Nodup) (low : ∀ x ∈ o, 0 ≤ x ∧ x < n) (hn : 0 ≤ n) : (o.length : Int) ≤ n := by
  have nd2 : (o.map Int.toNat).Nodup := by
    refine List.nodup_iff_pairwise_ne.mpr ?_
    rw [List.pairwise_map]
    refine (List.nodup_iff_pairwise_ne.mp nd).imp_of_mem fun {a b} ha hb h e => h ?_
    have := low a ha
    have := low b hb
    omega
  have z := nat_nodup_len (o.map Int.toNat) (List.range n.toNat) nd2 fun x hx => by
    obtain ⟨y, hy, rfl⟩ := List.mem_map.mp hx
    have := low y hy
    rw [List.mem_range]
    omega
  rw [List.length_map, List.length_range] at z
  omega
theorem Numb.few {E : List Ed} {n : Int} {k : Nat} {st : Bs} (N : Numb E n k st) : st.2.length ≤ E.length := by
  rw [N.len]
  exact leav_sum E _ (N.nd.sublist (List.take_sublist _ _))
/-! the run -/
theorem runB_numb {E : List Ed} {n : Int} (hn : 0 < n) (ok : ∀ e ∈ E, 0 ≤ e.2.2 ∧ e.2.2 < n) : ∀ k, k ≤ (runB E 0 k).1.length → Numb E n k (runB E 0 k)
  | 0, _ => numb0 E hn
  | k + 1, h => by
    have e : runB E 0 (k + 1) = step E k (runB E 0 k) := rfl
    rw [e] at h ⊢
    unfold step at h ⊢
    cases c : (runB E 0 k).1[k]? with
    | none =>
      rw [c] at h
      have z := List.getElem?_eq_none_iff.mp c
      have y : k + 1 ≤ (runB E 0 k).1.length := h
      omega
    | some s =>
      have lt := (List.getElem?_eq_some_iff.mp c).1
      exact numb_step (runB_numb hn ok k (by omega)) c ok
theorem runB_stop {E : List Ed} {k : Nat} (h : (runB E 0 k).1.length ≤ k) : ∀ j, runB E 0 (k + j) = runB E 0 k
  | 0 => rfl
  | j + 1 => by
    have e : runB E 0 (k + (j + 1)) = step E (k + j) (runB E 0 (k + j)) := rfl
    rw [e, runB_stop h j]
    unfold step
    rw [List.getElem?_eq_none (by omega)]
/-- a run that has come to its end -/
structure Done (E : List Ed) (n : Int) (st : Bs) : Prop where
  at_ : runB E 0 st.1.length = st
  nb : Numb E n st.1.length st
/-! renumbering what is numbered changes nothing -/
def rng (m : Nat) : List Int := (List.range m).map fun i => ((i : Nat) : Int)
theorem rng_mem {m : Nat} {x : Int} : x ∈ rng m ↔ 0 ≤ x ∧ x < (m : Nat) := by
  unfold rng
  rw [List.mem_map]
  constructor
  · rintro ⟨i, hi, rfl⟩
    rw [List.mem_range] at hi
    omega
  · rintro ⟨h1, h2⟩
    exact ⟨x.toNat, List.mem_range.mpr (by omega), by omega⟩
theorem rng_succ (m : Nat) : rng (m + 1) = rng m ++ [((m : Nat) : Int)] := by
  unfold rng
  rw [List.range_succ, List.map_append] <;> rfl
theorem rng_len (m : Nat) : (rng m).length = m := by
  unfold rng
  rw [List.length_map, List.length_range]
theorem rng_nodup (m : Nat) : (rng m).Nodup := by
  unfold rng
  refine List.nodup_iff_pairwise_ne.mpr ?_
  rw [List.pairwise_map]
  exact (List.nodup_iff_pairwise_ne.mp List.nodup_range).imp fun h e => h (by omega)
theorem rng_get {m i : Nat} (h : i < m) : (rng m)[i]? = some ((i : Nat) : Int) := by
  unfold rng
  rw [List.getElem?_map, List.getElem?_range h] <;> rfl
theorem rng_ix {m : Nat} {x : Int} (h : x ∈ rng m) : ix (rng m) x = x := by
  obtain ⟨h1, h2⟩ := rng_mem.1 h
  have := ix_at (rng_nodup m) (i := x.toNat) (t := x) (by rw [rng_get (by omega)]; congr 1; omega)
  rw [this]
  omega
theorem rng_eq {a b : Nat} (h : ∀ x, x ∈ rng a ↔ x ∈ rng b) : a = b := by
  rcases Nat.lt_trichotomy a b with z | z | z
  · have := (h (a : Nat)).2 (rng_mem.2 ⟨by omega, by omega⟩)
    have := (rng_mem.1 this).2
    omega
  · exact z
  · have := (h (b : Nat)).1 (rng_mem.2 ⟨by omega, by omega⟩)
    have := (rng_mem.1 this).2
    omega
/-- a new number comes behind all smaller new ones, whose actions are no greater -/
theorem visit_order (k m : Nat) (Q : List Pr) (fin : List Int) : ∀ (l : List Pr) (st : Bs), (∀ p ∈ l, p ∈ Q) → l.Pairwise ltP → (∃ r, fin = (visit k l st).1 ++ r) →
    (∀ c : Nat, m ≤ c → c < st.1.length → ∃ q' ∈ Q, ix fin q'.2 = (c : Nat) ∧ ∀ q ∈ l, ¬ sLt q.1 q'.1) →
    ∀ q ∈ l, ∀ c : Nat, m ≤ c → (c : Int) < ix fin q.2 → ∃ q' ∈ Q, ix fin q'.2 = (c : Nat) ∧ ¬ sLt q.1 q'.1
  | [], _, _, _, _, _, q, h => absurd h List.not_mem_nil
  | p :: l, (o, f), sub, asc, hfin, H, q, hq => by
    obtain ⟨r, er⟩ := hfin
    obtain ⟨p1, p2⟩ := List.pairwise_cons.mp asc
    have er' : fin = (visit k l (see o p.2, f ++ [((k : Int), p.1, ix (see o p.2) p.2)])).1 ++ r := er
    obtain ⟨r2, g2, e2⟩ := visit_pre k l (see o p.2, f ++ [((k : Int), p.1, ix (see o p.2) p.2)])
    have e3 : fin = see o p.2 ++ (r2 ++ r) := by rw [er', e2]; show see o p.2 ++ r2 ++ r = _; rw [List.append_assoc]
    have ip : ix fin p.2 = ix (see o p.2) p.2 := by rw [e3]; exact ix_app (see_mem o p.2) _
    have below : ix fin p.2 ≤ (o.length : Nat) := by
      rw [ip]
      have z := (ix_lt (see_mem o p.2)).2
      unfold see at z ⊢
      by_cases h : p.2 ∈ o
      · rw [if_pos h] at z ⊢; omega
      · rw [if_neg h, List.length_append, List.length_singleton] at z; rw [if_neg h]; omega
    rcases List.mem_cons.mp hq with rfl | hql
    · intro c h1 h2
      obtain ⟨q', z1, z2, z3⟩ := H c h1 (by show c < o.length; omega)
      exact ⟨q', z1, z2, z3 _ List.mem_cons_self⟩
    · refine visit_order k m Q fin l _ (fun x hx => sub x (List.mem_cons_of_mem _ hx)) p2 ⟨r, er'⟩ (fun c h1 h2 => ?_) q hql
      rcases Nat.lt_or_ge c o.length with z | z
      · obtain ⟨q', z1, z2, z3⟩ := H c h1 z
        exact ⟨q', z1, z2, fun x hx => z3 x (List.mem_cons_of_mem _ hx)⟩
      · have h2' : c < (see o p.2).length := h2
        have ho : p.2 ∉ o := fun y => by unfold see at h2'; rw [if_pos y] at h2'; omega
        have ec : c = o.length := by
          unfold see at h2'
          rw [if_neg ho, List.length_append, List.length_singleton] at h2'
          omega
        refine ⟨p, sub p List.mem_cons_self, ?_, fun x hx => ?_⟩
        · rw [ip]
          unfold see
          rw [if_neg ho]
          unfold ix
          rw [List.idxOf_append, if_neg ho]
          simp [ec]
        · intro y
          rcases p1 x hx with w | w
          · exact sLt_irrefl _ (sLt_trans w y)
          · rw [w.1] at y; exact sLt_irrefl _ y
/-- a visit in ascending order of numbered pairs numbers them as they are -/
theorem visit_rng (k m : Nat) (P : List Pr) (h0 : ∀ p ∈ P, 0 ≤ p.2) (h2 : ∀ p ∈ P, ∀ c : Nat, m ≤ c → (c : Int) < p.2 → ∃ p' ∈ P, p'.2 = (c : Nat) ∧ ¬ sLt p.1 p'.1) :
    ∀ (l pre : List Pr) (c : Nat) (f : List Ed), P = pre ++ l → P.Pairwise ltP → m ≤ c → (∀ p ∈ pre, p.2 < (c : Nat)) → ∃ c2, (visit k l (rng c, f)).1 = rng c2
  | [], pre, c, f, _, _, _, _ => ⟨c, rfl⟩
  | p :: l, pre, c, f, eP, asc, mc, old => by
    have hp : p ∈ P := by rw [eP]; simp
    have pos := h0 p hp
    by_cases h : p.2 < (c : Nat)
    · have e : see (rng c) p.2 = rng c := by
        unfold see
        rw [if_pos (rng_mem.2 ⟨pos, h⟩)]
      show ∃ c2, (visit k l (see (rng c) p.2, _)).1 = rng c2
      rw [e]
      refine visit_rng k m P h0 h2 l (pre ++ [p]) c _ (by rw [eP]; simp) asc mc fun x hx => ?_
      rcases List.mem_append.mp hx with z | z
      · exact old x z
      · rw [List.mem_singleton.mp z]; exact h
    · have ec : p.2 = (c : Nat) := by
        by_cases q : (c : Int) < p.2
        · obtain ⟨p', m1, m2, m3⟩ := h2 p hp c mc q
          exfalso
          rw [eP] at m1 asc
          rcases List.mem_append.mp m1 with w | w
          · have := old p' w; omega
          · rcases List.mem_cons.mp w with w | w
            · rw [w] at m2; omega
            · have lt := (List.pairwise_cons.mp (List.pairwise_append.mp asc).2.1).1 p' w
              rcases lt with y | y
              · exact m3 y
              · omega
        · omega
      have nin : p.2 ∉ rng c := fun z => h (rng_mem.1 z).2
      have e : see (rng c) p.2 = rng (c + 1) := by
        unfold see
        rw [if_neg nin, rng_succ, ec]
      show ∃ c2, (visit k l (see (rng c) p.2, _)).1 = rng c2
      rw [e]
      refine visit_rng k m P h0 h2 l (pre ++ [p]) (c + 1) _ (by rw [eP]; simp) asc (by omega) fun x hx => ?_
      rcases List.mem_append.mp hx with z | z
      · have := old x z; omega
      · rw [List.mem_singleton.mp z, ec]; omega
theorem runB_pre (E : List Ed) (k : Nat) : ∀ j, ∃ r, (runB E 0 (k + j)).1 = (runB E 0 k).1 ++ r
  | 0 => ⟨[], by simp⟩
  | j + 1 => by
    obtain ⟨r, e⟩ := runB_pre E k j
    have e1 : runB E 0 (k + (j + 1)) = step E (k + j) (runB E 0 (k + j)) := rfl
    rw [e1]
    unfold step
    cases c : (runB E 0 (k + j)).1[k + j]? with
    | none => exact ⟨r, e⟩
    | some s =>
      obtain ⟨r2, g, e2⟩ := visit_pre (k + j) (leav E s) (runB E 0 (k + j))
      exact ⟨r ++ r2, by show (visit _ _ _).1 = _; rw [e2, e, List.append_assoc]⟩
section
variable {E : List Ed} {n : Int} {st : Bs}
theorem Done.lt (D : Done E n st) {k : Nat} (h : k < st.1.length) : k < (runB E 0 k).1.length := by
  rcases Nat.lt_or_ge k (runB E 0 k).1.length with z | z
  · exact z
  · have e := runB_stop z (st.1.length - k)
    rw [Nat.add_sub_cancel' (Nat.le_of_lt h), D.at_] at e
    rw [← e] at z
    omega
theorem Done.pre (D : Done E n st) {k : Nat} (h : k ≤ st.1.length) : ∃ r, st.1 = (runB E 0 k).1 ++ r := by
  obtain ⟨r, e⟩ := runB_pre E k (st.1.length - k)
  rw [Nat.add_sub_cancel' h, D.at_] at e
  exact ⟨r, e⟩
variable {E1 : List Ed}
/-- the pairs that leave a new state -/
theorem Done.leav (D : Done E n st) (mem : ∀ e, e ∈ E1 ↔ e ∈ st.2) {k : Nat} {s : Int} (hs : st.1[k]? = some s) (p : Pr) :
    p ∈ VM.leav E1 ((k : Nat) : Int) ↔ ∃ q ∈ VM.leav E s, p = (q.1, ix st.1 q.2) := by
  rw [leav_mem, mem, D.nb.mem]
  constructor
  · rintro ⟨i, s', hi, hs', q, hq, e⟩
    have e1 : ((k : Nat) : Int) = ((i : Nat) : Int) := congrArg (fun z : Ed => z.1) e
    obtain rfl : i = k := by omega
    rw [hs] at hs'
    obtain rfl := Option.some.inj hs'
    exact ⟨q, hq, congrArg (fun z : Ed => z.2) e⟩
  · rintro ⟨q, hq, rfl⟩
    exact ⟨k, s, (List.getElem?_eq_some_iff.mp hs).1, hs, q, hq, rfl⟩
theorem Done.again_k (D : Done E n st) (aE : E.Pairwise ltE) (a1 : E1.Pairwise ltE) (mem : ∀ e, e ∈ E1 ↔ e ∈ st.2) : ∀ k, k ≤ st.1.length → (runB E1 0 k).1 = rng (runB E 0 k).1.length
  | 0, _ => rfl
  | k + 1, h => by
    have ih := D.again_k aE a1 mem k (by omega)
    have lt := D.lt (k := k) (by omega)
    obtain ⟨r1, e1⟩ := D.pre (k := k) (by omega)
    have hs : (runB E 0 k).1[k]? = some (runB E 0 k).1[k] := List.getElem?_eq_getElem lt
    generalize (runB E 0 k).1[k] = s at hs
    have hsf : st.1[k]? = some s := by rw [e1, List.getElem?_append_left lt]; exact hs
    have eE : runB E 0 (k + 1) = visit k (VM.leav E s) (runB E 0 k) := by
      show step E k (runB E 0 k) = _
      unfold step
      rw [hs]
    have e1k : (runB E1 0 k).1[k]? = some ((k : Nat) : Int) := by rw [ih]; exact rng_get lt
    have eE1 : runB E1 0 (k + 1) = visit k (VM.leav E1 ((k : Nat) : Int)) (runB E1 0 k) := by
      show step E1 k (runB E1 0 k) = _
      unfold step
      rw [e1k]
    obtain ⟨r2, e2⟩ := D.pre (k := k + 1) h
    rw [eE] at e2
    have ix2 : ∀ {t : Int}, t ∈ (visit k (VM.leav E s) (runB E 0 k)).1 → ix st.1 t = ix (visit k (VM.leav E s) (runB E 0 k)).1 t := fun ht => by rw [e2]; exact ix_app ht r2
    have nd2 : (visit k (VM.leav E s) (runB E 0 k)).1.Nodup := by
      have z := D.nb.nd
      rw [e2] at z
      exact (List.nodup_append.mp z).1
    have ord := visit_order k (runB E 0 k).1.length (VM.leav E s) st.1 (VM.leav E s) (runB E 0 k) (fun _ z => z) (leav_asc aE s) ⟨r2, e2⟩ (fun c c1 c2 => absurd c2 (by omega))
    have P0 : ∀ p ∈ VM.leav E1 ((k : Nat) : Int), 0 ≤ p.2 := fun p hp => by
      obtain ⟨q, _, rfl⟩ := (D.leav mem hsf p).1 hp
      unfold ix
      omega
    have P2 : ∀ p ∈ VM.leav E1 ((k : Nat) : Int), ∀ c : Nat, (runB E 0 k).1.length ≤ c → (c : Int) < p.2 → ∃ p' ∈ VM.leav E1 ((k : Nat) : Int), p'.2 = (c : Nat) ∧ ¬ sLt p.1 p'.1 := fun p hp c c1 c2 => by
      obtain ⟨q, hq, rfl⟩ := (D.leav mem hsf p).1 hp
      obtain ⟨q', z1, z2, z3⟩ := ord q hq c c1 c2
      exact ⟨(q'.1, ix st.1 q'.2), (D.leav mem hsf _).2 ⟨q', z1, rfl⟩, z2, z3⟩
    obtain ⟨c2, ec⟩ := visit_rng k (runB E 0 k).1.length _ P0 P2 (VM.leav E1 ((k : Nat) : Int)) [] (runB E 0 k).1.length (runB E1 0 k).2 rfl (leav_asc a1 _) (Nat.le_refl _) (fun p z => absurd z List.not_mem_nil)
    have eP : (runB E1 0 k) = (rng (runB E 0 k).1.length, (runB E1 0 k).2) := by rw [← ih]
    rw [eE1, eE, eP, ec]
    congr 1
    refine rng_eq fun x => ?_
    rw [← ec, visit_mem]
    show x ∈ rng (runB E 0 k).1.length ∨ _ ↔ _
    obtain ⟨r3, g3, e3⟩ := visit_pre k (VM.leav E s) (runB E 0 k)
    have e31 : (visit k (VM.leav E s) (runB E 0 k)).1 = (runB E 0 k).1 ++ r3 := by rw [e3]
    constructor
    · rintro (z | ⟨p, hp, rfl⟩)
      · have y := rng_mem.1 z
        refine rng_mem.2 ⟨y.1, ?_⟩
        rw [e31, List.length_append]
        omega
      · obtain ⟨q, hq, rfl⟩ := (D.leav mem hsf p).1 hp
        have hin : q.2 ∈ (visit k (VM.leav E s) (runB E 0 k)).1 := (visit_mem k _ _ _).2 (.inr ⟨q, hq, rfl⟩)
        show ix st.1 q.2 ∈ _
        rw [ix2 hin]
        exact rng_mem.2 (ix_lt hin)
    · intro z
      have y := rng_mem.1 z
      by_cases c : x < ((runB E 0 k).1.length : Nat)
      · exact .inl (rng_mem.2 ⟨y.1, c⟩)
      · have lx : x.toNat < (visit k (VM.leav E s) (runB E 0 k)).1.length := by omega
        have gx := List.getElem?_eq_getElem lx
        generalize (visit k (VM.leav E s) (runB E 0 k)).1[x.toNat] = t at gx
        have tin := List.mem_of_getElem? gx
        have ixx : ix (visit k (VM.leav E s) (runB E 0 k)).1 t = x := by rw [ix_at nd2 gx]; omega
        rcases (visit_mem k _ _ t).1 tin with w | ⟨q, hq, rfl⟩
        · exfalso
          rw [e31, ix_app w] at ixx
          have := (ix_lt w).2
          omega
        · exact .inr ⟨(q.1, ix st.1 q.2), (D.leav mem hsf _).2 ⟨q, hq, rfl⟩, by show ix st.1 q.2 = x; rw [ix2 tin]; exact ixx⟩
/-- numbered again: the same numbers, the same edges -/
theorem Done.again (D : Done E n st) (aE : E.Pairwise ltE) (a1 : E1.Pairwise ltE) (mem : ∀ e, e ∈ E1 ↔ e ∈ st.2) (hn : 0 < st.1.length) {st2 : Bs} {n2 : Int} (D2 : Done E1 n2 st2) :
    st2.1.length = st.1.length ∧ ∀ e, e ∈ st2.2 ↔ e ∈ E1 := by
  have z := D.again_k aE a1 mem st.1.length (Nat.le_refl _)
  rw [D.at_] at z
  have len1 : (runB E1 0 st.1.length).1.length = st.1.length := by rw [z, rng_len]
  have e2 : st2 = runB E1 0 st.1.length := by
    rcases Nat.le_total st2.1.length st.1.length with h | h
    · have y := runB_stop (E := E1) (k := st2.1.length) (by rw [D2.at_]; exact Nat.le_refl _) (st.1.length - st2.1.length)
      rw [Nat.add_sub_cancel' h, D2.at_] at y
      exact y.symm
    · have y := runB_stop (E := E1) (k := st.1.length) (by rw [len1]; exact Nat.le_refl _) (st2.1.length - st.1.length)
      rw [Nat.add_sub_cancel' h, D2.at_] at y
      exact y
  have l2 : st2.1.length = st.1.length := by rw [e2, len1]
  refine ⟨l2, fun e => ?_⟩
  have o2 : st2.1 = rng st.1.length := by rw [e2, z]
  rw [D2.nb.mem, l2, o2]
  constructor
  · rintro ⟨i, s', hi, hs', p, hp, rfl⟩
    rw [rng_get hi] at hs'
    obtain rfl := Option.some.inj hs'
    have h1 := leav_mem.1 hp
    obtain ⟨j, s2, hj, hs2, q, hq, eq⟩ := (D.nb.mem _).1 ((mem _).1 h1)
    have e3 : p.2 = ix st.1 q.2 := congrArg (fun z : Ed => z.2.2) eq
    have inr : p.2 ∈ rng st.1.length := by rw [e3]; exact rng_mem.2 (ix_lt (D.nb.has j s2 hj hs2 q hq))
    rw [rng_ix inr]
    exact h1
  · intro he
    obtain ⟨j, s2, hj, hs2, q, hq, eq⟩ := (D.nb.mem _).1 ((mem _).1 he)
    have inr : ix st.1 q.2 ∈ rng st.1.length := rng_mem.2 (ix_lt (D.nb.has j s2 hj hs2 q hq))
    refine ⟨j, ((j : Nat) : Int), hj, rng_get hj, (q.1, ix st.1 q.2), leav_mem.2 (by rw [← eq]; exact he), ?_⟩
    show e = (((j : Nat) : Int), q.1, ix (rng st.1.length) (ix st.1 q.2))
    rw [rng_ix inr]
    exact eq
end
end VM

set_option Elab.async false
set_option linter.all false
set_option maxRecDepth 100000
set_option maxHeartbeats 4000000
namespace VC
open PySem PySem.Spec PyProof.Rows L2 LamX NdefX VB
/-! captured names: while a def runs that is handed a lambda, the cells that the lambda reads are locked in the abstract heap -/
def lockO (c : Addr) (o : Obj) : HO := .frz o (.ext fun h => h.get? c = some o)
theorem lockO_ok {P : Program} {w : World} {H : Hp} {h : Heap} {c : Addr} {o : Obj} (e : h.get? c = some o) : ObjOk P w H h c (lockO c o) :=
  ⟨e, e, ⟨o, e⟩, fun _ _ p q => q o p⟩
/-- the cells of the closure cl are locked in H; fr: the captured names, ws what they hold -/
structure Locked (H : Hp) (cl : List (Str × Addr)) (fr : List Str) (ws : List (Option V)) : Prop where
  len : ws.length = fr.length
  all : ∀ y c, cl.lookup y = some c → ∃ o v, H c = some (lockO c o) ∧ o.data = .cell v
  inj : ∀ x y c, cl.lookup x = some c → cl.lookup y = some c → x = y
  has : ∀ (i : Nat) (y : Str), fr[i]? = some y → ∃ c o v, cl.lookup y = some c ∧ H c = some (lockO c o) ∧ o.data = .cell v ∧ ∀ x, ws[i]? = some (some x) → ∃ u, RelV x u ∧ v = some u
/-- an address is a cell of the closure -/
def In (cl : List (Str × Addr)) (b : Addr) : Prop := ∃ y, cl.lookup y = some b
open Classical in
noncomputable def open_ (cl : List (Str × Addr)) (H : Hp) : Hp := fun b => if In cl b then none else H b
open Classical in
noncomputable def shut (cl : List (Str × Addr)) (H0 H : Hp) : Hp := fun b => if In cl b then H0 b else H b
theorem open_in {cl : List (Str × Addr)} {H : Hp} {b : Addr} (h : In cl b) : open_ cl H b = none := by unfold open_; rw [if_pos h]
theorem open_out {cl : List (Str × Addr)} {H : Hp} {b : Addr} (h : ¬ In cl b) : open_ cl H b = H b := by unfold open_; rw [if_neg h]
theorem shut_in {cl : List (Str × Addr)} {H0 H : Hp} {b : Addr} (h : In cl b) : shut cl H0 H b = H0 b := by unfold shut; rw [if_pos h]
theorem shut_out {cl : List (Str × Addr)} {H0 H : Hp} {b : Addr} (h : ¬ In cl b) : shut cl H0 H b = H b := by unfold shut; rw [if_neg h]
section
variable {P : Program} {w : World} {H H' : Hp} {h h' : Heap} {cl : List (Str × Addr)} {fr : List Str} {ws : List (Option V)} {fs : List Addr}
theorem Locked.frz (L : Locked H cl fr ws) {b : Addr} (i : In cl b) : ∃ o v, H b = some (lockO b o) ∧ o.data = .cell v := let ⟨y, e⟩ := i; L.all y b e
theorem open_ok (L : Locked H cl fr ws) (ok : HOk P w H h) : HOk P w (open_ cl H) h := by
  intro b u e
  by_cases i : In cl b
  · rw [open_in i] at e; cases e
  · rw [open_out i] at e
    refine (ok b u e).stay (fun _ _ _ z => z) (fun c z => ?_) fun c xs z => ?_
    · rw [open_out fun j => ?_]; exact z
      obtain ⟨o, v, q, _⟩ := L.frz j
      rw [q] at z; cases z
    · rw [open_out fun j => ?_]; exact z
      obtain ⟨o, v, q, _⟩ := L.frz j
      rw [q] at z; cases z
theorem open_cells (L : Locked H cl fr ws) (ok : HOk P w H h) : CellsAt cl fr ws h (open_ cl H) := by
  refine ⟨L.len, fun y c e => ⟨open_in ⟨y, e⟩, ?_⟩, L.inj, fun i y e => ?_⟩
  · obtain ⟨o, v, q, d⟩ := L.all y c e
    exact ⟨v, o, (ok c _ q).1, d⟩
  · obtain ⟨c, o, v, e1, q, d, hv⟩ := L.has i y e
    refine ⟨c, e1, fun x hx => ?_⟩
    obtain ⟨u, r, ev⟩ := hv x hx
    exact ⟨u, r, o, (ok c _ q).1, by rw [d, ev]⟩
/-- behind the lambda: the cells locked again -/
theorem shut_ok (L : Locked H cl fr ws) (ok0 : HOk P w H h) (un : Un fs [] (open_ cl H) H' h h') (nf : ∀ b ∈ fs, H b = none) (ok : HOk P w H' h') : HOk P w (shut cl H H') h' ∧ Un fs [] H (shut cl H H') h h' := by
  have keepC : ∀ b, In cl b → ∀ o, h.get? b = some o → h'.get? b = some o := fun b i o e => by
    refine un.keep b o e (open_in i) (fun z => ?_) (by simp)
    obtain ⟨o', v, q, _⟩ := L.frz i
    rw [nf b z] at q; cases q
  have freeC : ∀ b, In cl b → H' b = none := fun b i => by
    obtain ⟨o, v, q, _⟩ := L.frz i
    exact un.free b o (ok0 b _ q).1 (open_in i) (by simp)
  refine ⟨fun b u e => ?_, fun b o e n hb _ => ?_, fun b o e n hb _ => ?_, fun b o e n _ => ?_, fun b o e _ => un.there b o e (by simp), fun b xs e => ?_, fun b o u e => ?_, fun b ps e => ?_⟩
  · by_cases i : In cl b
    · rw [shut_in i] at e
      obtain ⟨o, v, q, _⟩ := L.frz i
      rw [q] at e
      cases e
      exact lockO_ok (keepC b i o (ok0 b _ q).1)
    · rw [shut_out i] at e
      refine (ok b u e).stay (fun _ _ _ z => z) (fun c z => ?_) fun c xs z => ?_
      · rw [shut_out fun j => ?_]; exact z
        rw [freeC c j] at z; cases z
      · rw [shut_out fun j => ?_]; exact z
        rw [freeC c j] at z; cases z
  · have i : ¬ In cl b := fun i => by obtain ⟨o', v, q, _⟩ := L.frz i; rw [n] at q; cases q
    exact un.keep b o e (by rw [open_out i]; exact n) hb (by simp)
  · have i : ¬ In cl b := fun i => by obtain ⟨o', v, q, _⟩ := L.frz i; rw [n] at q; cases q
    exact un.slot b o e (by rw [open_out i]; exact n) hb (by simp)
  · have i : ¬ In cl b := fun i => by obtain ⟨o', v, q, _⟩ := L.frz i; rw [n] at q; cases q
    rw [shut_out i]
    exact un.free b o e (by rw [open_out i]; exact n) (by simp)
  · have i : ¬ In cl b := fun i => by obtain ⟨o', v, q, _⟩ := L.frz i; rw [e] at q; cases q
    rw [shut_out i]
    exact un.tups b xs (by rw [open_out i]; exact e)
  · by_cases i : In cl b
    · rw [shut_in i]; exact e
    · rw [shut_out i]; exact un.frzs b o u (by rw [open_out i]; exact e)
  · have i : ¬ In cl b := fun i => by obtain ⟨o', v, q, _⟩ := L.frz i; rw [e] at q; cases q
    rw [shut_out i]
    exact un.tbls b ps (by rw [open_out i]; exact e)
end
/-- a lambda whose captured names are locked -/
def lamLk (f : Addr) (F : NF) (b : Expr) (fr : List Str) (ws : List (Option V)) : Hp → Prop := fun H => H f = some (VA.LamO f F b) ∧ H F.c = some (CodeO F.c F.qual) ∧ Locked H F.cl fr ws
section
variable {P : Program} {w : World} {K : PySem.W.Frag} {mg : Str → Option Value} {base : Heap} {N ps fr : List Str} {F : NF} {b : Expr} {f : Addr} {k : Nat} {sp : Sp} {ws : List (Option V)}
theorem lam_locked (S : NScope N ps fr F.scope)
    (hb : ∀ (pm ctv : Value) (us : List Value), us.length = ps.length → bindArgs (PySem.W.kla_fn F.name F.qual F.params b F.scope F.cl pm (.ref F.c) ctv) ⟨us, []⟩ = pure (ps.zip us))
    (len : ∀ vs H Q E, sp vs H Q E → vs.length = ps.length)
    (hbody : ∀ (A : Around) (outer : List Env) (s : Shared) (H : Hp) (vs : List V) (Q : VK) (E : XK), Room k (A.deeper (envF F f s.heap.objs.size)) → lamLk f F b fr ws H → sp vs H Q E →
      ∃ t, PE (ncx CX0 P w K mg base N F f A outer s (open_ F.cl H) E).nox b t ∧ t (startF N vs ws) (open_ F.cl H) fun v H' => (∀ b, In F.cl b → H' b = none) → Q v (shut F.cl H H')) :
    VA.VCall P w K mg base (k + 1) f (lamLk f F b fr ws) sp := by
  refine ⟨fun h H hok _ hf => ?_, fun A outer s H us vs Q E hr e0 hf r hsp => ?_⟩
  · obtain ⟨od, sl, pm, ctv, z⟩ := VA.lamO_at hok hf.1
    exact ⟨_, od, _, sl, z⟩
  · have hl := len _ _ _ _ hsp
    obtain ⟨h1, h2, L⟩ := hf
    have lim : s.heap.NoLimit := e0.mod.nolimit.keeps fun b o e => (e0.bs b o e).1
    obtain ⟨od, sl, pm, ctv, ho⟩ := VA.lamO_at e0.hok h1
    have C := open_cells L e0.hok
    have e1 : Env0 P w K mg base A outer s (open_ F.cl H) := ⟨e0.frames, e0.mod, fun b o e => ⟨(e0.bs b o e).1, by
      by_cases i : In F.cl b
      · exact open_in i
      · rw [open_out i]; exact (e0.bs b o e).2⟩, e0.bsz, e0.funs, fun b hb => by
      by_cases i : In F.cl b
      · exact open_in i
      · rw [open_out i]; exact e0.frf b hb, open_ok L e0.hok, e0.bare⟩
    refine PySem.W.kla_callFunE hr.depth ho rfl S.co S.gen rfl (codeO_at e0.hok h2) ?_
    rw [hb pm ctv us (by rw [← r.length]; exact hl)]
    refine wpAny_pure (wpAny_newFunctionEnv S.nocell (fun ⟨n, _⟩ hy => S.par n (List.of_mem_zip hy).1) (fun h₁ hns hsb => ⟨lim.fresh _ hsb, ?_⟩) S.kind)
    show codeAny _ _ (.expr b (envF F f s.heap.objs.size)) _ _
    have kp : ∀ b o, s.heap.get? b = some o → h₁.get? b = some o := fun b o e =>
      hsb.extBut b o (Nat.ne_of_lt (Heap.lt_size e)) (Heap.get?_push_of_some _ e)
    obtain ⟨t, ht, hq⟩ := hbody A outer s H vs Q E (hr.deeper _) ⟨h1, h2, L⟩ hsp
    have J : Inv (ncx CX0 P w K mg base N F f A outer s (open_ F.cl H) E) [] (startF N vs ws) (open_ F.cl H) { s with heap := h₁, toks := s.toks + (ps.zip us).length } := inv_startN S hr.hd e1 hl r C hns kp
    refine PySem.W.kla_codeExpr (wpAny_mono (ht.nox.run [] _ (startF N vs ws) (open_ F.cl H) _ J hq) (fun v s' z => ?_) fun e s' z => z)
    obtain ⟨w', H', J', rv, q⟩ := z
    obtain ⟨ok2, un2⟩ := shut_ok L e0.hok J'.base e0.frf J'.hok
    have un : Un _ [] (open_ F.cl H) H' s.heap s'.heap := J'.base
    have freeC : ∀ b, In F.cl b → H' b = none := fun b i => by
      obtain ⟨o, v, q, _⟩ := L.frz i
      exact un.free b o (e0.hok b _ q).1 (open_in i) (by simp)
    exact ⟨w', shut F.cl H H', J'.os, J'.bare, un2, ok2, rv, q freeC⟩
end
/-! the call of a def, cells locked -/
/-- H2 is H1, the cells of cl locked -/
structure Lock (cl : List (Str × Addr)) (fr : List Str) (ws : List (Option V)) (H1 H2 : Hp) : Prop where
  out : ∀ b, ¬ In cl b → H2 b = H1 b
  free : ∀ b, In cl b → H1 b = none
  lk : Locked H2 cl fr ws
section
variable {X : Cx} {k j : Nat} {x : Str} {sp : Sp} {p pos : Pos} {e : Expr} {es : List Expr} {t : TA} {cl : List (Str × Addr)} {fr : List Str} {js : List Nat}
theorem lock_of {pins : List (Addr × Obj)} {σ : L2.St} {H : Hp} {s : Shared} (I : Inv X pins σ H s) (cp : Caps X cl fr js) : ∃ H2, Lock cl fr (js.map (slotAt σ)) H H2 ∧ HOk X.prog X.w H2 s.heap := by
  classical
  have C := cells_of I cp
  have get : ∀ b, In cl b → ∃ o v, s.heap.get? b = some o ∧ o.data = .cell v := fun b ⟨y, ey⟩ => by
    obtain ⟨_, v, o, ho, hd⟩ := C.all y b ey
    exact ⟨o, v, ho, hd⟩
  let H2 : Hp := fun b => if h : In cl b then some (lockO b (get b h).choose) else H b
  have e1 : ∀ b (i : In cl b), H2 b = some (lockO b (get b i).choose) := fun b i => dif_pos i
  have e2 : ∀ b, ¬ In cl b → H2 b = H b := fun b i => dif_neg i
  refine ⟨H2, ⟨e2, fun b ⟨y, ey⟩ => (C.all y b ey).1, ⟨C.len, fun y c e => ?_, C.inj, fun i y e => ?_⟩⟩, fun b u e => ?_⟩
  · obtain ⟨v, ho, hd⟩ := (get c ⟨y, e⟩).choose_spec
    exact ⟨_, v, e1 c ⟨y, e⟩, hd⟩
  · obtain ⟨c, ec, hv⟩ := C.has i y e
    obtain ⟨v, ho, hd⟩ := (get c ⟨y, ec⟩).choose_spec
    refine ⟨c, _, v, ec, e1 c ⟨y, ec⟩, hd, fun x hx => ?_⟩
    obtain ⟨u, r, o', ho', hd'⟩ := hv x hx
    rw [ho] at ho'
    rw [Option.some.inj ho', hd'] at hd
    exact ⟨u, r, by injection hd with hd; exact hd.symm⟩
  · by_cases i : In cl b
    · rw [e1 b i] at e
      cases e
      obtain ⟨v, ho, _⟩ := (get b i).choose_spec
      exact lockO_ok ho
    · rw [e2 b i] at e
      refine (I.hok b u e).stay (fun _ _ _ z => z) (fun c z => ?_) fun c xs z => ?_
      · rw [e2 c fun j => ?_]; exact z
        obtain ⟨y, ey⟩ := j
        rw [(C.all y c ey).1] at z; cases z
      · rw [e2 c fun j => ?_]; exact z
        obtain ⟨y, ey⟩ := j
        rw [(C.all y c ey).1] at z; cases z
/-- g(..), cells locked while it runs -/
def tCallLk (cl : List (Str × Addr)) (fr : List Str) (js : List Nat) (sp : Sp) (t : TA) : TE := fun σ H Q => t σ H fun vs H1 => ∀ H2, Lock cl fr (js.map (slotAt σ)) H1 H2 → sp vs H2 (fun v H' => Q v (open_ cl H')) C8.E0
theorem pe_cLk (c : C8.Cal X.prog X.w X.K X.mg X.base k x sp []) (hr : Room j X.A) (hk : k ≤ j) (hg : Gl X x) (cpo : X.Ok → Caps X cl fr js) (hfn : ∀ y, X.fn y = true) (ha : PA X (e :: es) t)
    (hdb : (x == ("__debug__" : Str)) = false := by decide) (he : starEach (e :: es) X.env = (false, eval e X.env) :: starEach es X.env := by rfl) (hpl : (backTo pos (starEach es X.env)).any (·.1) = false := by rfl) :
    PE X (.Call (.Name x p) (e :: es) [] pos) (tCallLk cl fr js sp t) := by
  obtain ⟨f, fd, ps, ds, F, hm, kp, bnd, hd⟩ := c.ex
  refine ⟨fun pins s σ H Q I h => ?_⟩
  have cp := cpo I.ok
  refine wpAny_Call_Name_kw (ld_glob I hg hm ?_ hdb)
  refine PySem.W.callWith_K (h₀ := X.base) I.ok.mod.kin kp (thn (ha.run pos pins s σ H _ I h) fun us s1 ⟨vs, H1, I1, r, q⟩ => ⟨I1.kIn, ?_⟩) he hpl
  obtain ⟨H2, lk, ok2⟩ := lock_of I1 cp
  have q2 := q H2 lk
  have C := cells_of I1 cp
  -- the cells are the frame's own
  have young : ∀ b, In cl b → X.s_0.heap.objs.size ≤ b := fun b ⟨y, ey⟩ => I1.ok.cab y b (hfn y) (cp.sub y b ey)
  have noBase : ∀ b, In cl b → X.base.get? b = none := fun b i => Heap.get?_none_of_le (Nat.le_trans I1.ok.bsz (young b i))
  have noFrame : ∀ b ∈ frs X.stack, ¬ In cl b := fun b hb i => by
    rcases List.mem_cons.mp (I1.stkSub b hb) with z | z
    · obtain ⟨y, ey⟩ := i
      obtain ⟨_, v, o, ho, hdd⟩ := C.all y b ey
      obtain ⟨m, ⟨o', es', ep', ho', hdd', _⟩, _⟩ := I1.loc
      rw [← z, ho] at ho'
      rw [← Option.some.inj ho', hdd] at hdd'
      cases hdd'
    · obtain ⟨_, o, ho, _⟩ := I1.ok.funs.mem z
      exact absurd (Heap.lt_size ho) (Nat.not_lt.mpr (young b i))
  have e0 := I1.env0
  have e2 : Env0 X.prog X.w X.K X.mg X.base X.A X.stack s1 H2 := ⟨e0.frames, e0.mod, fun b o eb => ⟨(e0.bs b o eb).1, by
    rw [lk.out b fun i => by rw [noBase b i] at eb; cases eb]
    exact (e0.bs b o eb).2⟩, e0.bsz, e0.funs, fun b hb => by rw [lk.out b (noFrame b hb)]; exact e0.frf b hb, ok2, e0.bare⟩
  have hl := F.len _ _ _ _ q2
  cases hd
  have hb2 := bnd s1 us I1.kIn (by rw [List.append_nil, ← r.length]; exact hl)
  rw [List.append_nil] at hb2
  show wpAny _ _ (call (.ref f) us) _ _ _
  refine wpAny_call (codeAny_mono (F.run X.A X.stack s1 H2 ⟨us, []⟩ us vs _ C8.E0 (hr.mono hk) e2 hb2 r q2) fun res s' hq => ?_)
  cases res with
  | error e => exact hq.elim
  | ok fl =>
    cases fl with
    | next => exact hq.elim
    | brk => exact hq.elim
    | cont => exact hq.elim
    | ret u =>
      obtain ⟨v, H', os, bare, un, hok, rv, qv⟩ := hq
      have hold : ∀ b, In cl b → ∀ o, s1.heap.get? b = some o → s'.heap.get? b = some o := fun b i o eo => by
        obtain ⟨o', v', z, _⟩ := lk.lk.frz i
        have g1 := (ok2 b _ z).1
        rw [eo] at g1
        rw [Option.some.inj g1]
        exact (hok b _ (un.frzs b o' _ z)).1
      have lockH : ∀ b, In cl b → ∃ o, H' b = some (lockO b o) := fun b i => by
        obtain ⟨o', v', z, _⟩ := lk.lk.frz i
        exact ⟨o', un.frzs b o' _ z⟩
      refine I1.after ⟨v, open_ cl H', os, bare, ⟨fun b o eo n hb hx => ?_, fun b o eo n hb hx => ?_, fun b o eo n hx => ?_, fun b o eo hx => un.there b o eo hx, fun b xs z => ?_, fun b o u z => ?_, fun b ps z => ?_⟩, fun b u eo => ?_, rv, qv⟩
      · by_cases i : In cl b
        · exact hold b i o eo
        · exact un.keep b o eo (by rw [lk.out b i]; exact n) hb hx
      · exact un.slot b o eo (by rw [lk.out b (noFrame b hb)]; exact n) hb hx
      · by_cases i : In cl b
        · exact open_in i
        · rw [open_out i]; exact un.free b o eo (by rw [lk.out b i]; exact n) hx
      · have i : ¬ In cl b := fun i => by rw [lk.free b i] at z; cases z
        rw [open_out i]; exact un.tups b xs (by rw [lk.out b i]; exact z)
      · have i : ¬ In cl b := fun i => by rw [lk.free b i] at z; cases z
        rw [open_out i]; exact un.frzs b o u (by rw [lk.out b i]; exact z)
      · have i : ¬ In cl b := fun i => by rw [lk.free b i] at z; cases z
        rw [open_out i]; exact un.tbls b ps (by rw [lk.out b i]; exact z)
      · by_cases i : In cl b
        · rw [open_in i] at eo; cases eo
        · rw [open_out i] at eo
          refine (hok b u eo).stay (fun _ _ _ z => z) (fun c z => ?_) fun c xs z => ?_
          · rw [open_out fun j => ?_]; exact z
            obtain ⟨o', w⟩ := lockH c j
            rw [w] at z; cases z
          · rw [open_out fun j => ?_]; exact z
            obtain ⟨o', w⟩ := lockH c j
            rw [w] at z; cases z
end
end VC

set_option Elab.async false
set_option linter.all false
set_option maxRecDepth 100000
set_option maxHeartbeats 4000000
namespace VP
open PySem PySem.Spec PyProof.Rows L2 LamX NdefX VB VM
theorem iteFe {b : Bool} {A B : Prop} (e : b = false) (h : B) : if b = true then A else B := by rw [e]; exact iteF h
theorem iteTe {b : Bool} {A B : Prop} (e : b = true) (h : A) : if b = true then A else B := by rw [e]; exact iteT h
theorem iteNT {p : Prop} [Decidable p] {A B : Prop} (e : p) (h : B) : if (!decide p) = true then A else B := iteFe (by rw [decide_eq_true e]; rfl) h
theorem un3 {k : Nat} {A : Around} (r : Room k A) : A.units + 3 < cLine := by have := r.un; omega
theorem un65 {k : Nat} {A : Around} (r : Room k A) : A.units + 65 < cLine := by have := r.un; omega
section
variable {X : Cx} {K : PySem.W.Frag} (h : X.K = K)
include h
theorem inD (hu : X.A.units + 65 < cLine) : OpR X (compareOp .In) (rInD K) := by subst h; exact op_inD hu
theorem notInD (hu : X.A.units + 65 < cLine) : OpR X (compareOp .NotIn) (rNotInD K) := by subst h; exact op_notInD hu
def embP (p : Addr × Pr) : V := V.ref p.1
def encP (p : Addr × Pr) : PyData := pqD p.2
theorem sortedP {k : Nat} (hr : Room k X.A) : CallR X (.builtin "sorted") (VA.rSortedB K embP encP) := by subst h; exact VA.cr_sortedB embP encP hr
def embE (p : Addr × Ed) : V := V.ref p.1
def encE (p : Addr × Ed) : PyData := edD p.2
theorem sortedE {k : Nat} (hr : Room k X.A) : CallR X (.builtin "sorted") (VA.rSortedB K embE encE) := by subst h; exact VA.cr_sortedB embE encE hr
end
def acts0 : List Str := ["a", "b", "c", "tau", "tick"]
/-- what else may stand at an edge in a law -/
abbrev acts : List Str := ["a", "b", "c", "tau", "tick", "pass", "zz", "d"]
theorem acts0_sub : ∀ x ∈ acts0, x ∈ acts := by decide +kernel
/-! rows of tuples in a heap -/
def Eds (K : PySem.W.Frag) (H : Hp) (L : List (Addr × Ed)) : Prop := ∀ p ∈ L, SqT K H p.1 (edV p.2)
def Pqs (K : PySem.W.Frag) (H : Hp) (L : List (Addr × Pr)) : Prop := ∀ p ∈ L, SqT K H p.1 (pqV p.2)
abbrev refs {α : Type} (L : List (Addr × α)) : List V := L.map fun p => V.ref p.1
section
variable {K : PySem.W.Frag} {H H' : Hp}
theorem Eds.kp {L : List (Addr × Ed)} (h : Eds K H L) (x : Kp H H') : Eds K H' L := fun p hp => x.sqT (h p hp)
theorem Pqs.kp {L : List (Addr × Pr)} (h : Pqs K H L) (x : Kp H H') : Pqs K H' L := fun p hp => x.sqT (h p hp)
theorem edDp {a : Addr} {e : Ed} (h : SqT K H a (edV e)) : Dp K H (.ref a) (edD e) := .tup h (.cons (.int _) (.cons (.str _) (.cons (.int _) .nil)))
theorem pqDp {a : Addr} {e : Pr} (h : SqT K H a (pqV e)) : Dp K H (.ref a) (pqD e) := .tup h (.cons (.str _) (.cons (.int _) .nil))
theorem Eds.all {L : List (Addr × Ed)} (h : Eds K H L) : DpAll K H (refs L) (L.map fun p => edD p.2) := by
  induction L with
  | nil => exact .nil
  | cons p L ih => exact .cons (edDp (h p List.mem_cons_self)) (ih fun q hq => h q (List.mem_cons_of_mem _ hq))
theorem Pqs.all {L : List (Addr × Pr)} (h : Pqs K H L) : DpAll K H (refs L) (L.map fun p => pqD p.2) := by
  induction L with
  | nil => exact .nil
  | cons p L ih => exact .cons (pqDp (h p List.mem_cons_self)) (ih fun q hq => h q (List.mem_cons_of_mem _ hq))
theorem refs_at {α : Type} {L : List (Addr × α)} {i : Nat} {v : V} (h : (refs L)[i]? = some v) : ∃ p, L[i]? = some p ∧ v = .ref p.1 := by
  rw [List.getElem?_map] at h
  obtain ⟨p, hp, rfl⟩ := Option.map_eq_some_iff.mp h
  exact ⟨p, hp, rfl⟩
theorem flat_ed (L : List Ed) : flatAll (L.map edD) = true := by
  induction L with
  | nil => rfl
  | cons e L ih => rw [List.map_cons]; simp only [flatAll, edD, flatD, ih, Bool.and_self]
end
theorem refs_snoc {α : Type} (L : List (Addr × α)) (p : Addr × α) : refs (L ++ [p]) = refs L ++ [V.ref p.1] := by simp [refs]
theorem refs_len {α : Type} (L : List (Addr × α)) : (refs L).length = L.length := List.length_map _
/-- an edge within n states, of an action that the law draws -/
def okE (n : Int) (e : Ed) : Prop := 0 ≤ e.1 ∧ e.1 < n ∧ 0 ≤ e.2.2 ∧ e.2.2 < n ∧ e.2.1 ∈ acts
/-! what a lock leaves -/
section
variable {cl : List (Str × Addr)} {fr : List Str} {ws : List (Option V)} {H1 H2 H' : Hp}
theorem lock_same (L : VC.Lock cl fr ws H1 H2) : Same H1 H2 := fun b o e => by
  rw [L.out b fun i => by rw [L.free b i] at e; cases e]; exact e
theorem open_same (L : VC.Lock cl fr ws H1 H2) (s : Same H2 H') : Same H1 (VC.open_ cl H') := fun b o e => by
  have i : ¬ VC.In cl b := fun i => by rw [L.free b i] at e; cases e
  rw [VC.open_out i]
  exact s b o (by rw [L.out b i]; exact e)
theorem open_extN (L : VC.Lock cl fr ws H1 H2) (s : ExtN H2 H') : ExtN H1 (VC.open_ cl H') := fun b o e n => by
  have i : ¬ VC.In cl b := fun i => by rw [L.free b i] at e; cases e
  rw [VC.open_out i]
  exact s b o (by rw [L.out b i]; exact e) n
theorem shut_same {H : Hp} (hl : VC.Locked H cl fr ws) (s : Same (VC.open_ cl H) H') : Same H (VC.shut cl H H') := fun b o e => by
  by_cases i : VC.In cl b
  · rw [VC.shut_in i]; exact e
  · rw [VC.shut_out i]; exact s b o (by rw [VC.open_out i]; exact e)
theorem open_get {H : Hp} (hl : VC.Locked H cl fr ws) {b : Addr} {o : HO} (e : H b = some o) (n : ∀ ob, o ≠ VC.lockO b ob) : VC.open_ cl H b = some o := by
  rw [VC.open_out fun i => ?_]
  · exact e
  · obtain ⟨ob, v, z, _⟩ := hl.frz i
    rw [e] at z
    exact n ob (Option.some.inj z)
end
/-! each item once -/
section
variable {α : Type} [DecidableEq α]
def onceG : List α → List α → List α
  | acc, [] => acc
  | acc, x :: r => onceG (if x ∈ acc then acc else acc ++ [x]) r
theorem onceG_snoc : ∀ (xs acc : List α) (x : α), onceG acc (xs ++ [x]) = if x ∈ onceG acc xs then onceG acc xs else onceG acc xs ++ [x]
  | [], acc, x => rfl
  | y :: xs, acc, x => onceG_snoc xs _ x
theorem onceG_nodup : ∀ (xs acc : List α), acc.Nodup → (onceG acc xs).Nodup
  | [], acc, h => h
  | x :: xs, acc, h => by
    refine onceG_nodup xs _ ?_
    split
    · exact h
    · rename_i q
      exact List.nodup_append.mpr ⟨h, by simp, fun a ha b hb => by rw [List.mem_singleton.mp hb]; intro e; exact q (e ▸ ha)⟩
theorem onceG_mem : ∀ (xs acc : List α) (y : α), y ∈ onceG acc xs ↔ y ∈ acc ∨ y ∈ xs
  | [], acc, y => by simp [onceG]
  | x :: xs, acc, y => by
    unfold onceG
    rw [onceG_mem xs _ y, List.mem_cons]
    by_cases q : x ∈ acc
    · rw [if_pos q]
      constructor
      · rintro (z | z)
        · exact .inl z
        · exact .inr (.inr z)
      · rintro (z | z | z)
        · exact .inl z
        · exact .inl (z ▸ q)
        · exact .inr z
    · rw [if_neg q, List.mem_append, List.mem_singleton, or_assoc]
theorem onceG_len : ∀ (xs acc : List α), (onceG acc xs).length ≤ acc.length + xs.length
  | [], acc => Nat.le_refl _
  | x :: xs, acc => by
    unfold onceG
    refine Nat.le_trans (onceG_len xs _) ?_
    split
    · rw [List.length_cons]; omega
    · rw [List.length_append, List.length_singleton, List.length_cons]; omega
end
/-! data of edges -/
theorem ed_eqv (a b : Ed) : PyData.eqv (edD a) (edD b) = decide (a = b) := by
  have e : (a = b) ↔ a.1 = b.1 ∧ a.2.1 = b.2.1 ∧ a.2.2 = b.2.2 := by
    constructor
    · rintro rfl; exact ⟨rfl, rfl, rfl⟩
    · rintro ⟨h1, h2, h3⟩; exact Prod.ext h1 (Prod.ext h2 h3)
  have k : PyData.eqv (edD a) (edD b) = true ↔ a = b := by
    rw [e]
    simp [edD, PyData.eqv, PyData.eqvAll, and_assoc]
  by_cases h : a = b
  · rw [k.2 h, decide_eq_true h]
  · rw [decide_eq_false h]
    exact Bool.eq_false_iff.mpr fun z => h (k.1 z)
theorem ed_shaped {a : Ed} (h : PyData.strOk a.2.1 = true) : SeqAt.shaped (edD a) = true := by
  simp [SeqAt.shaped, edD, PyData.canLay0, PyData.canLayAll0, PyData.depth, PyData.depthAll, h]
theorem eds_shaped {L : List Ed} (h : ∀ e ∈ L, PyData.strOk e.2.1 = true) : SeqAt.shaped (.list (L.map edD)) = true := by
  have k : PyData.canLayAll0 (L.map edD) = true ∧ PyData.depthAll (L.map edD) ≤ 1 := by
    induction L with
    | nil => exact ⟨rfl, Nat.zero_le _⟩
    | cons e L ih =>
      obtain ⟨k1, k2⟩ := ih fun x hx => h x (List.mem_cons_of_mem _ hx)
      rw [List.map_cons]
      refine ⟨by simp [edD, PyData.canLay0, PyData.canLayAll0, h e List.mem_cons_self, k1], ?_⟩
      unfold PyData.depthAll
      have : (edD e).depth = 1 := by simp [edD, PyData.depth, PyData.depthAll]
      omega
  unfold SeqAt.shaped
  rw [show (PyData.list (L.map edD)).canLay0 = PyData.canLayAll0 (L.map edD) by rw [PyData.canLay0], k.1, Bool.true_and, decide_eq_true_eq]
  unfold PyData.depth
  omega
theorem any_ed (e : Ed) : ∀ L : List Ed, ((L.map edD).any fun z => PyData.eqv z (edD e)) = decide (e ∈ L)
  | [] => by simp
  | x :: L => by
    rw [List.map_cons, List.any_cons, any_ed e L, ed_eqv]
    by_cases h : x = e
    · subst h; simp
    · have h2 : ¬ e = x := fun z => h z.symm
      simp [h, h2]
/-! the actions -/
theorem acts_ok : ∀ x ∈ acts, PyData.strOk x = true ∧ x.length ≤ 10 := by decide +kernel
end VP

set_option Elab.async false
set_option linter.all false
set_option maxRecDepth 100000
set_option maxHeartbeats 4000000
namespace LW
open PySem PySem.Spec PyProof.Rows L2 LamX NdefX VB VM VP
def top (i : Nat) : Stmt := PySem.Challenge.pw_parley_k20_what_is_allowed.main.body.getD i (.Pass ⟨0, 0, 0, 0⟩)
abbrev s__law_cell : Stmt := top 42
theorem sc__law_cell : FnScope ["script", "k"] ["script", "k"] (defScope s__law_cell) := ⟨rfl, rfl, rfl, by decide +kernel, rfl, by decide +kernel, by decide +kernel⟩
abbrev s__law_like : Stmt := top 44
theorem sc__law_like : FnScope ["actual", "due", "k"] ["actual", "due"] (defScope s__law_like) := ⟨rfl, rfl, rfl, by decide +kernel, rfl, by decide +kernel, by decide +kernel⟩
abbrev s__law_draws : Stmt := top 43
theorem sc__law_draws : FnScope ["cell", "count", "rows", "left", "k", "mixed"] ["cell", "count"] (defScope s__law_draws) := ⟨rfl, rfl, rfl, by decide +kernel, rfl, by decide +kernel, by decide +kernel⟩
section
variable {P : Program} {w : World} {K : PySem.W.Frag} {mg : Str → Option Value} {base : Heap}
/-- a cell of the script: some number that is not negative -/
def spCell (K : PySem.W.Frag) : Sp := fun vs H Q _ => ∃ (a : Addr) (ns : List Int) (k : Int), vs = [.ref a, .int k] ∧ SqL K H a (ns.map V.int) ∧ 0 ≤ k ∧
  ∀ r : Int, 0 ≤ r → Q (.int r) H
theorem c_cell (D : Df K mg "_law_cell" s__law_cell) (z_len : mg "len" = none) (z_abs : mg "abs" = none) (z_int : mg "int" = none) :
    C8.Cal P w K mg base 1 "_law_cell" (spCell K) [] := by
  refine D.cal sc__law_cell (fun _ _ _ _ _ _ us hl => match us, hl with | [_, _], _ => rfl) (fun vs H Q E h => ?_) (fun f cdv A outer s H vs Q E hr h => ?_)
  · obtain ⟨a, ns, k, rfl, _⟩ := h
    rfl
  obtain ⟨a, ns, k, rfl, hS, h0, q⟩ := h
  have hl : (ns.map V.int).length = ns.length := List.length_map _
  refine ⟨_, (pss_cons (ps_if (pt_cmpR op_lt (pv 1) (pe_callB (VK.lenQ (K := K) rfl) (by rfl) z_len PySem.boot_len (pa_cons (pv 0) pa_nil)) (nomark _))
      (pss_one (ps_ret (pe_callB call_abs (by rfl) z_abs (by decide +kernel) (pa_cons (pe_callTy call_int1 (by rfl) z_int (by decide +kernel) (pa_cons (pe_ix (VK.ixL (K := K) rfl) (pv 0) (pv 1) (fun _ _ => rfl)) pa_nil)) pa_nil))))
      pss_nil)
    (pss_one (ps_ret pe_int))), ?_⟩
  refine ⟨_, rfl, _, rfl, a, _, rfl, .inl hS, _, _, rfl, rfl, _, rfl, ?_⟩
  refine ite2 (fun c => ?_) (fun c => ?_)
  · have c' : k < (((ns.map V.int).length : Nat) : Int) := of_decide_eq_true c
    rw [hl] at c'
    have hk : k.toNat < ns.length := by omega
    have ek : k = ((k.toNat : Nat) : Int) := by omega
    have q1 : atI (ns.map V.int) ((k.toNat : Nat) : Int) = some (.int ns[k.toNat]) := atI_nat (by rw [List.getElem?_map, List.getElem?_eq_getElem hk] <;> rfl)
    rw [← ek] at q1
    refine ⟨_, rfl, _, rfl, a, _, _, _, rfl, rfl, hS, q1, .inl ⟨_, rfl, _, rfl, q _ ?_⟩⟩
    split <;> omega
  · exact q 0 (Int.le_refl 0)
/-- so many draws, each from 0 to 4095 -/
def spDraws : Sp := fun vs H Q _ => ∃ (c n : Int), vs = [.int c, .int n] ∧ 0 ≤ n ∧ n ≤ 1000 ∧
  ∀ (p : Addr) (ns : List Int), H p = none → ns.length = n.toNat → (∀ x ∈ ns, 0 ≤ x ∧ x < 4096) → Q (.ref p) (upd H p (.lst (ns.map V.int)))
theorem c_draws (D : Df K mg "_law_draws" s__law_draws) (z_range : mg "range" = none) (z_int : mg "int" = none) :
    C8.Cal P w K mg base 1 "_law_draws" spDraws [] := by
  refine D.cal sc__law_draws (fun _ _ _ _ _ _ us hl => match us, hl with | [_, _], _ => rfl) (fun vs H Q E h => ?_) (fun f cdv A outer s H vs Q E hr h => ?_)
  · obtain ⟨c, n, rfl, _⟩ := h
    rfl
  obtain ⟨c, n, rfl, h0, h1, q⟩ := h
  refine ⟨_, (pss_cons (ps_set (i := 2) sc__law_draws.nd rfl (Or.inl rfl) (pe_lst pa_nil))
    (pss_cons (ps_set (i := 3) sc__law_draws.nd rfl (Or.inl rfl) (pv 0))
    (pss_cons (ps_for PassesOwn.never rfl (pi_range1 rfl z_range (pa_cons (pv 1) pa_nil)) (pg_name (i := 4) sc__law_draws.nd rfl (Or.inl rfl))
      (pss_one (ps_if (PW.pt (pw_and (pt_cmpR op_ge (pv 0) (pe_op op_pow pe_int pe_int) (nomark _)) (pw_and1 (pt_cmpR op_gt (pv 3) pe_int (nomark _)))))
        (pss_cons (ps_expr (pe_bm PySem.F.plainAttrs_list PySem.F.slot_list_append PySem.F.type_list_append mt_append (pv 2) (pa_cons (pe_op op_mod (pe_callTy call_int1 (by rfl) z_int (by decide +kernel) (pa_cons (pv 3) pa_nil)) pe_int) pa_nil)))
        (pss_one (ps_set (i := 3) sc__law_draws.nd rfl (Or.inl rfl) (pe_op op_fdiv (pv 3) pe_int))))
        (pss_cons (ps_set (i := 5) sc__law_draws.nd rfl (Or.inl rfl) (pe_op op_mod (pe_callTy call_int1 (by rfl) z_int (by decide +kernel) (pa_cons (pe_op op_add (pe_op op_mul (pv 0) pe_int) (pe_op op_mul (pe_op op_add (pv 4) pe_int) pe_int)) pa_nil)) pe_int))
        (pss_cons (ps_set (i := 5) sc__law_draws.nd rfl (Or.inl rfl) (pe_op op_mod (pe_callTy call_int1 (by rfl) z_int (by decide +kernel) (pa_cons (pe_op op_add (pe_op op_add (pe_op op_mul (pv 5) (pv 5)) (pe_op op_mul (pv 5) pe_int)) (pe_op op_mul (pv 4) pe_int)) pa_nil)) pe_int))
        (pss_cons (ps_set (i := 5) sc__law_draws.nd rfl (Or.inl rfl) (pe_op op_mod (pe_callTy call_int1 (by rfl) z_int (by decide +kernel) (pa_cons (pe_op op_add (pe_op op_add (pe_op op_mul (pv 5) (pv 5)) (pv 0)) (pe_op op_mul pe_int (pv 4))) pa_nil)) pe_int))
        (pss_one (ps_expr (pe_bm PySem.F.plainAttrs_list PySem.F.slot_list_append PySem.F.type_list_append mt_append (pv 2) (pa_cons (pe_op op_mod (pe_op op_fdiv (pv 5) pe_int) pe_int) pa_nil))))))))))
    (pss_one (ps_ret (pv 2)))))), ?_⟩
  refine ⟨Nat.zero_le _, fun l nl => ?_⟩
  refine ⟨_, rfl, ?_⟩
  refine ⟨_, rfl, n, rfl, by omega, by omega, for_range (lo := 0) (n := n.toNat)
    (fun i σ H' => ∃ (ns : List Int) (left : Int) (kk mm : Option V), σ = [some (.int c), some (.int n), some (.ref l), some (.int left), kk, mm] ∧ H' = upd H l (.lst (ns.map V.int)) ∧
      ns.length = i ∧ ∀ x ∈ ns, 0 ≤ x ∧ x < 4096) ⟨[], c, none, none, rfl, rfl, rfl, fun x hx => by cases hx⟩ ?_ ?_⟩
  · rintro i σ H' hi ⟨ns, left, kk, mm, rfl, rfl, hlen, hb⟩
    have hlen2 : (ns.map V.int).length < sizeLine := by rw [List.length_map]; exact small1000 (by omega)
    have last : ∀ (x : Int) (left' : Int) (mm' : Option V), 0 ≤ x → x < 4096 →
        ∃ (ns' : List Int) (left1 : Int) (kk1 mm1 : Option V), [some (V.int c), some (V.int n), some (V.ref l), some (V.int left'), some (V.int (0 + (i : Int))), mm'] = [some (V.int c), some (V.int n), some (V.ref l), some (V.int left1), kk1, mm1] ∧
          upd (upd H l (.lst (ns.map V.int))) l (.lst (ns.map V.int ++ [.int x])) = upd H l (.lst (ns'.map V.int)) ∧ ns'.length = i + 1 ∧ ∀ x ∈ ns', 0 ≤ x ∧ x < 4096 := by
      intro x left' mm' hx0 hx1
      refine ⟨ns ++ [x], left', _, _, rfl, ?_, by simp [hlen], fun y hy => ?_⟩
      · rw [upd_upd, List.map_append] <;> rfl
      · rcases List.mem_append.mp hy with z | z
        · exact hb y z
        · rw [List.mem_singleton.mp z]; exact ⟨hx0, hx1⟩
    have md : ∀ x m : Int, 0 < m → m ≤ 2147483647 → 0 ≤ x % m ∧ (-(2 ^ 64) < x % m ∧ x % m < 2 ^ 64) := fun x m h1 h2 => by
      have z1 := Int.emod_nonneg x (show m ≠ 0 by omega)
      have z2 := Int.emod_lt_of_pos x h1
      exact ⟨z1, by omega, by omega⟩
    refine ⟨_, rfl, _, _, rfl, rfl, ⟨by decide, by decide, by decide⟩, _, _, rfl, rfl, _, rfl, ?_⟩
    refine ite2 (fun c1 => ?x1) (fun c1 => iteF ?x3)
    case' x1 =>
      refine ⟨_, rfl, _, _, rfl, rfl, _, rfl, ?_⟩
      refine ite2 (fun c2 => ?x2) (fun c2 => ?x4)
      case x2 =>
        refine ⟨_, rfl, .inl ⟨rfl, _, SqL.of upd_same⟩, _, rfl, .inl ⟨_, rfl, _, _, rfl, rfl, (by show (0 : Int) < 4096; decide), l, _, _, rfl, rfl, upd_same, hlen2, ?_⟩⟩
        refine ⟨_, rfl, _, _, rfl, rfl, ⟨by decide, by decide⟩, ?_⟩
        exact last _ _ _ (Int.emod_nonneg _ (by decide)) (Int.emod_lt_of_pos _ (by decide))
    all_goals
      refine ⟨_, rfl, _, _, rfl, rfl, .inr ⟨by decide, by decide⟩, _, rfl, _, _, rfl, rfl, _, _, rfl, rfl, .inr ⟨by decide, by decide⟩, _, _, rfl, rfl, .inl ⟨_, rfl, _, _, rfl, rfl, (by show (0 : Int) < 2147483647; decide), ?_⟩⟩
      refine ⟨_, rfl, _, rfl, _, _, rfl, rfl, (.inl (md _ 2147483647 (by decide) (by decide)).2), _, rfl, _, _, rfl, rfl, .inr ⟨by decide, by decide⟩, _, _, rfl, rfl, _, rfl, _, _, rfl, rfl, .inr ⟨by decide, by decide⟩, _, _, rfl, rfl, .inl ⟨_, rfl, _, _, rfl, rfl, (by show (0 : Int) < 2147483629; decide), ?_⟩⟩
      refine ⟨_, rfl, _, rfl, _, _, rfl, rfl, (.inl (md _ 2147483629 (by decide) (by decide)).2), _, rfl, _, _, rfl, rfl, _, rfl, _, _, rfl, rfl, .inl ⟨by decide, by decide⟩, _, _, rfl, rfl, .inl ⟨_, rfl, _, _, rfl, rfl, (by show (0 : Int) < 2147483587; decide), ?_⟩⟩
      refine ⟨_, rfl, .inl ⟨rfl, _, SqL.of upd_same⟩, _, rfl, _, _, rfl, rfl, ⟨by decide, by decide⟩, _, _, rfl, rfl, (by show (0 : Int) < 4096; decide), l, _, _, rfl, rfl, upd_same, hlen2, ?_⟩
      exact last _ _ _ (Int.emod_nonneg _ (by decide)) (Int.emod_lt_of_pos _ (by decide))
  · rintro σ H' ⟨ns, left, kk, mm, rfl, rfl, hlen, hb⟩
    exact ⟨_, rfl, q l ns nl hlen hb⟩
/-- a promise that asks what can't be is kept -/
theorem calNone {x : Str} {st : Stmt} {ps : List Str} {sp : Sp} (D : Df K mg x st) (hb : BindOk x st ps) (no : ∀ vs H Q E, ¬ sp vs H Q E) : C8.Cal P w K mg base 0 x sp [] := by
  obtain ⟨f, fd, F, hm⟩ := D
  exact ⟨f, fd, ps, [], ⟨fun vs H Q E h => absurd h (no vs H Q E), fun A outer s H args us vs Q E _ _ _ _ h => absurd h (no vs H Q E)⟩, hm, F.kp, F.bindsN hb, .nil⟩
/-- the name of a datum's class -/
def tyN : PyData → String
  | .none => "NoneType"
  | .bool _ => "bool"
  | .int _ => "int"
  | .str _ => "str"
  | .list _ => "list"
  | .tuple _ => "tuple"
  | .dict _ => "dict"
theorem sqL_ty {H : Hp} {a : Addr} {xs : List V} (h : SqL K H a xs) : TyX K H (.ref a) (.type "list") := by
  rcases h with (h | ⟨o, h⟩) | ⟨o, its, n, h1, h2, _⟩
  · exact .base (.lst h)
  · exact .base (.frz h)
  · exact .kList h1 h2
theorem sqT_ty {H : Hp} {a : Addr} {xs : List V} (h : SqT K H a xs) : TyX K H (.ref a) (.type "tuple") := by
  rcases h with (h | ⟨o, h⟩) | ⟨o, its, n, h1, h2, _⟩
  · exact .base (.tup h)
  · exact .fTuple h
  · exact .kTuple h1 h2
theorem dp_ty {H : Hp} {v : V} {d : PyData} (h : Dp K H v d) : TyX K H v (.type (tyN d)) := by
  cases h with
  | non => exact .base .non
  | bl b => exact .base (.bl b)
  | int i => exact .base (.int i)
  | str x => exact .base (.str x)
  | lst h1 _ => exact sqL_ty h1
  | tup h1 _ => exact sqT_ty h1
mutual
/-- no list or tuple in it has more than n items -/
def slimD (n : Nat) : PyData → Bool
  | .list xs => decide (xs.length ≤ n) && slimAll n xs
  | .tuple xs => decide (xs.length ≤ n) && slimAll n xs
  | _ => true
def slimAll (n : Nat) : List PyData → Bool
  | [] => true
  | x :: xs => slimD n x && slimAll n xs
end
theorem depth_mem : ∀ {xs : List PyData} {d : PyData}, d ∈ xs → d.depth ≤ PyData.depthAll xs
  | x :: xs, d, h => by
    unfold PyData.depthAll
    rcases List.mem_cons.mp h with z | z
    · subst z; exact Nat.le_max_left _ _
    · exact Nat.le_trans (depth_mem z) (Nat.le_max_right _ _)
theorem slim_mem {n : Nat} : ∀ {xs : List PyData} {d : PyData}, slimAll n xs = true → d ∈ xs → slimD n d = true
  | x :: xs, d, hs, h => by
    simp only [slimAll, Bool.and_eq_true] at hs
    rcases List.mem_cons.mp h with z | z
    · subst z; exact hs.1
    · exact slim_mem hs.2 z
def noDict : PyData → Bool
  | .dict _ => false
  | _ => true
/-- the two stand for the same datum: True -/
def spLike (K : PySem.W.Frag) (m : Nat) : Sp := fun vs H Q _ => ∃ (x y : V) (d : PyData), vs = [x, y] ∧ Dp K H x d ∧ Dp K H y d ∧ d.depth < m ∧ slimD 100000 d = true ∧
  ∀ H', Same H H' → Q (.bl true) H'
theorem like_seq {H : Hp} {K : PySem.W.Frag} {xs ys : List V} {ds : List PyData} (hx : DpAll K H xs ds) (hy : DpAll K H ys ds) {i : Nat} (hi : i < ds.length) :
    ∃ x y, atI xs ((0 : Int) + (i : Int)) = some x ∧ atI ys ((0 : Int) + (i : Int)) = some y ∧ Dp K H x ds[i] ∧ Dp K H y ds[i] := by
  obtain ⟨x, h1, h2⟩ := VB.DpAll.get hx (List.getElem?_eq_getElem hi)
  obtain ⟨y, h3, h4⟩ := VB.DpAll.get hy (List.getElem?_eq_getElem hi)
  rw [Int.zero_add]
  exact ⟨x, y, atI_nat h1, atI_nat h3, h2, h4⟩
theorem sameIn {H H' : Hp} {p : Addr} {o : HO} (x : Same H H') (h : H p = none) : Same H (upd H' p o) := fun b u q => by rw [upd_ne (ne_of_none q h)]; exact x b u q
theorem sqAny {H H' : Hp} {a : Addr} {xs : List V} (s0 : Same H H') (h : SqL K H a xs ∨ SqT K H a xs) : SqL K H' a xs ∨ SqT K H' a xs :=
  h.imp (fun z => s0.seq z) fun z => Same.sqT s0 z
theorem ixAny {H : Hp} {a : Addr} {xs : List V} {i : Int} {v : V} {Q : VK} (h : SqL K H a xs ∨ SqT K H a xs) (e : atI xs i = some v) (q : Q v H) : rIx K (.ref a) (.int i) H Q := by
  rcases h with h | h
  · exact .inl ⟨a, xs, i, v, rfl, rfl, h, e, q⟩
  · exact .inr (.inl ⟨a, xs, i, v, rfl, rfl, h, e, q⟩)
theorem all_true : ∀ n : Nat, (List.replicate n true).all id = true
  | 0 => rfl
  | n + 1 => by rw [List.replicate_succ, List.all_cons, all_true n] <;> rfl
theorem c_like (D : Df K mg "_law_like" s__law_like) (z_isinstance : mg "isinstance" = none) (z_bool : mg "bool" = none) (z_str : mg "str" = none) (z_int : mg "int" = none)
    (z_list : mg "list" = none) (z_tuple : mg "tuple" = none) (z_len : mg "len" = none) (z_range : mg "range" = none) (z_all : mg "all" = none) :
    ∀ m : Nat, C8.Cal P w K mg base m "_law_like" (spLike K m) [] := by
  intro m
  induction m with
  | zero => exact calNone D (ps := ["actual", "due"]) (fun _ _ _ _ _ _ us hl => match us, hl with | [_, _], _ => rfl) fun vs H Q E ⟨_, _, _, _, _, _, z, _⟩ => Nat.not_lt_zero _ z
  | succ m c__law_like =>
    refine D.cal sc__law_like (fun _ _ _ _ _ _ us hl => match us, hl with | [_, _], _ => rfl) (fun vs H Q E h => ?_) (fun f cdv A outer s H vs Q E hr h => ?_)
    · obtain ⟨x, y, d, rfl, _⟩ := h
      rfl
    obtain ⟨x, y, d, rfl, hx, hy, hm, hw, q⟩ := h
    refine ⟨_, (pss_cons (ps_if (pt_cmpR op_isN (pv 1) pe_non (nomark _))
      (pss_one (ps_ret (pe_cmpR op_isN (pv 0) pe_non (nomark _))))
      pss_nil)
    (pss_cons (ps_if (pt_val (pe_callB (VK.isi (K := K) rfl) (by rfl) z_isinstance (by decide +kernel) (pa_cons (pv 1) (pa_cons (pe_bltn (v := .ty "bool") (by rfl) z_bool (by decide +kernel) rfl) pa_nil))))
      (pss_one (ps_ret (pe_and (pe_callB (VK.isi (K := K) rfl) (by rfl) z_isinstance (by decide +kernel) (pa_cons (pv 0) (pa_cons (pe_bltn (v := .ty "bool") (by rfl) z_bool (by decide +kernel) rfl) pa_nil))) (pe_one (pe_cmpR op_eq (pv 0) (pv 1) (nomark _))))))
      pss_nil)
    (pss_cons (ps_if (pt_val (pe_callB (VK.isi (K := K) rfl) (by rfl) z_isinstance (by decide +kernel) (pa_cons (pv 1) (pa_cons (pe_bltn (v := .ty "str") (by rfl) z_str (by decide +kernel) rfl) pa_nil))))
      (pss_one (ps_ret (pe_and (pe_callB (VK.isi (K := K) rfl) (by rfl) z_isinstance (by decide +kernel) (pa_cons (pv 0) (pa_cons (pe_bltn (v := .ty "str") (by rfl) z_str (by decide +kernel) rfl) pa_nil))) (pe_one (pe_cmpR op_eq (pv 0) (pv 1) (nomark _))))))
      pss_nil)
    (pss_cons (ps_if (pt_val (pe_callB (VK.isi (K := K) rfl) (by rfl) z_isinstance (by decide +kernel) (pa_cons (pv 1) (pa_cons (pe_bltn (v := .ty "int") (by rfl) z_int (by decide +kernel) rfl) pa_nil))))
      (pss_one (ps_ret (pe_and (pe_callB (VK.isi (K := K) rfl) (by rfl) z_isinstance (by decide +kernel) (pa_cons (pv 0) (pa_cons (pe_bltn (v := .ty "int") (by rfl) z_int (by decide +kernel) rfl) pa_nil))) (pe_and (pe_not (pe_callB (VK.isi (K := K) rfl) (by rfl) z_isinstance (by decide +kernel) (pa_cons (pv 0) (pa_cons (pe_bltn (v := .ty "bool") (by rfl) z_bool (by decide +kernel) rfl) pa_nil)))) (pe_one (pe_cmpR op_eq (pv 0) (pv 1) (nomark _)))))))
      pss_nil)
    (pss_cons (ps_if (PW.pt (pw_or (pt_cmpR op_ne (pe_callB (VK.isi (K := K) rfl) (by rfl) z_isinstance (by decide +kernel) (pa_cons (pv 1) (pa_cons (pe_bltn (v := .ty "list") (by rfl) z_list (by decide +kernel) rfl) pa_nil))) (pe_callB (VK.isi (K := K) rfl) (by rfl) z_isinstance (by decide +kernel) (pa_cons (pv 0) (pa_cons (pe_bltn (v := .ty "list") (by rfl) z_list (by decide +kernel) rfl) pa_nil))) (nomark _)) (pw_or1 (pt_cmpR op_ne (pe_callB (VK.isi (K := K) rfl) (by rfl) z_isinstance (by decide +kernel) (pa_cons (pv 1) (pa_cons (pe_bltn (v := .ty "tuple") (by rfl) z_tuple (by decide +kernel) rfl) pa_nil))) (pe_callB (VK.isi (K := K) rfl) (by rfl) z_isinstance (by decide +kernel) (pa_cons (pv 0) (pa_cons (pe_bltn (v := .ty "tuple") (by rfl) z_tuple (by decide +kernel) rfl) pa_nil))) (nomark _)))))
      (pss_one (ps_ret pe_bl))
      pss_nil)
    (pss_cons (ps_if (pt_cmpR op_ne (pe_callB (VK.lenQ (K := K) rfl) (by rfl) z_len PySem.boot_len (pa_cons (pv 0) pa_nil)) (pe_callB (VK.lenQ (K := K) rfl) (by rfl) z_len PySem.boot_len (pa_cons (pv 1) pa_nil)) (nomark _))
      (pss_one (ps_ret pe_bl))
      pss_nil)
    (pss_one (ps_ret (pe_callB (VK.allL (K := K) rfl rfl) (by rfl) z_all (by decide +kernel) (pa_cons (pe_lc (own := [("k", 2)]) (tt := tYes) rfl sc__law_like.nd (pi_range1 rfl z_range (pa_cons (pe_callB (VK.lenQ (K := K) rfl) (by rfl) z_len PySem.boot_len (pa_cons (pv 1) pa_nil)) pa_nil)) (blkOk_by (N := ["actual", "due", "k"]) (sc := defScope s__law_like) (by decide +kernel)) (fun _ _ _ _ _ => (pg_name (i := 2) sc__law_like.nd rfl (Or.inl rfl) (hf := Or.inr rfl))) (fun _ _ _ _ _ => pts_nil) (fun _ _ _ _ _ => (C8.pe_c c__law_like hr (by first | decide | omega) rfl (pa_cons (pe_ix (VK.ixQ (K := K) rfl) (pv 0) (pv 2) (fun _ _ => rfl)) (pa_cons (pe_ix (VK.ixQ (K := K) rfl) (pv 1) (pv 2) (fun _ _ => rfl)) pa_nil))))) pa_nil)))))))))), ?_⟩
    refine ⟨_, rfl, rfl, _, rfl, ?_⟩
    cases d
    case none =>
      cases hx
      cases hy
      refine ite2 (fun _ => ?_) (fun c => absurd (decide_eq_true rfl) c)
      exact ⟨_, rfl, rfl, q H (Same.refl H)⟩
    case bool b =>
      have ty : TyX K H y (.type "bool") := dp_ty hy
      have tx : TyX K H x (.type "bool") := dp_ty hx
      cases hx
      cases hy
      refine ite2 (fun c => absurd (of_decide_eq_true c) (by intro z; cases z)) (fun _ => ?_)
      refine ⟨_, rfl, _, _, _, _, true, rfl, .ty _, ty, kit_ty (by decide +kernel), _, rfl, iteT ?_⟩
      refine ⟨_, rfl, _, _, _, _, true, rfl, .ty _, tx, kit_ty (by decide +kernel), _, rfl, iteT ?_⟩
      refine ⟨_, rfl, _, rfl, rfl, ?_⟩
      rw [decide_eq_true rfl]
      exact q H (Same.refl H)
    case str b =>
      have ty : TyX K H y (.type "str") := dp_ty hy
      have tx : TyX K H x (.type "str") := dp_ty hx
      cases hx
      cases hy
      refine ite2 (fun c => absurd (of_decide_eq_true c) (by intro z; cases z)) (fun _ => ?_)
      refine ⟨_, rfl, _, _, _, _, false, rfl, .ty _, ty, kit_ty (by decide +kernel), _, rfl, iteF ?_⟩
      refine ⟨_, rfl, _, _, _, _, true, rfl, .ty _, ty, kit_ty (by decide +kernel), _, rfl, iteT ?_⟩
      refine ⟨_, rfl, _, _, _, _, true, rfl, .ty _, tx, kit_ty (by decide +kernel), _, rfl, iteT ?_⟩
      refine ⟨_, rfl, _, rfl, rfl, ?_⟩
      rw [decide_eq_true rfl]
      exact q H (Same.refl H)
    case int b =>
      have ty : TyX K H y (.type "int") := dp_ty hy
      have tx : TyX K H x (.type "int") := dp_ty hx
      cases hx
      cases hy
      refine ite2 (fun c => absurd (of_decide_eq_true c) (by intro z; cases z)) (fun _ => ?_)
      refine ⟨_, rfl, _, _, _, _, false, rfl, .ty _, ty, kit_ty (by decide +kernel), _, rfl, iteF ?_⟩
      refine ⟨_, rfl, _, _, _, _, false, rfl, .ty _, ty, kit_ty (by decide +kernel), _, rfl, iteF ?_⟩
      refine ⟨_, rfl, _, _, _, _, true, rfl, .ty _, ty, kit_ty (by decide +kernel), _, rfl, iteT ?_⟩
      refine ⟨_, rfl, _, _, _, _, true, rfl, .ty _, tx, kit_ty (by decide +kernel), _, rfl, iteT ?_⟩
      refine ⟨_, rfl, _, _, _, _, false, rfl, .ty _, tx, kit_ty (by decide +kernel), _, rfl, _, rfl, iteT ?_⟩
      refine ⟨_, rfl, _, rfl, rfl, ?_⟩
      rw [decide_eq_true rfl]
      exact q H (Same.refl H)
    case dict kvs => cases hx
    case' list ds =>
      have ty : TyX K H y (.type "list") := dp_ty hy
      have tx : TyX K H x (.type "list") := dp_ty hx
      cases hx
      cases hy
      rename_i a xs sx0 dx b ys sy0 dy
      have sx : SqL K H a xs ∨ SqT K H a xs := .inl sx0
      have sy : SqL K H b ys ∨ SqT K H b ys := .inl sy0
      refine ite2 (fun c => absurd (of_decide_eq_true c) (by intro z; cases z)) (fun _ => ?_)
      refine ⟨_, rfl, _, _, _, _, false, rfl, .ty _, ty, kit_ty (by decide +kernel), _, rfl, iteF ?_⟩
      refine ⟨_, rfl, _, _, _, _, false, rfl, .ty _, ty, kit_ty (by decide +kernel), _, rfl, iteF ?_⟩
      refine ⟨_, rfl, _, _, _, _, false, rfl, .ty _, ty, kit_ty (by decide +kernel), _, rfl, iteF ?_⟩
      refine ⟨_, rfl, _, _, _, _, true, rfl, .ty _, ty, kit_ty (by decide +kernel), _, rfl, _, _, _, _, true, rfl, .ty _, tx, kit_ty (by decide +kernel), rfl, _, rfl, iteNS rfl ?_⟩
      refine ⟨_, rfl, _, _, _, _, false, rfl, .ty _, ty, kit_ty (by decide +kernel), _, rfl, _, _, _, _, false, rfl, .ty _, tx, kit_ty (by decide +kernel), rfl, _, rfl, iteNS rfl ?_⟩
      clear sx0 sy0 ty tx
    case' tuple ds =>
      have ty : TyX K H y (.type "tuple") := dp_ty hy
      have tx : TyX K H x (.type "tuple") := dp_ty hx
      cases hx
      cases hy
      rename_i a xs sx0 dx b ys sy0 dy
      have sx : SqL K H a xs ∨ SqT K H a xs := .inr sx0
      have sy : SqL K H b ys ∨ SqT K H b ys := .inr sy0
      refine ite2 (fun c => absurd (of_decide_eq_true c) (by intro z; cases z)) (fun _ => ?_)
      refine ⟨_, rfl, _, _, _, _, false, rfl, .ty _, ty, kit_ty (by decide +kernel), _, rfl, iteF ?_⟩
      refine ⟨_, rfl, _, _, _, _, false, rfl, .ty _, ty, kit_ty (by decide +kernel), _, rfl, iteF ?_⟩
      refine ⟨_, rfl, _, _, _, _, false, rfl, .ty _, ty, kit_ty (by decide +kernel), _, rfl, iteF ?_⟩
      refine ⟨_, rfl, _, _, _, _, false, rfl, .ty _, ty, kit_ty (by decide +kernel), _, rfl, _, _, _, _, false, rfl, .ty _, tx, kit_ty (by decide +kernel), rfl, _, rfl, iteNS rfl ?_⟩
      refine ⟨_, rfl, _, _, _, _, true, rfl, .ty _, ty, kit_ty (by decide +kernel), _, rfl, _, _, _, _, true, rfl, .ty _, tx, kit_ty (by decide +kernel), rfl, _, rfl, iteNS rfl ?_⟩
      clear sx0 sy0 ty tx
    all_goals
      simp only [slimD, Bool.and_eq_true, decide_eq_true_eq] at hw
      have hm2 : PyData.depthAll ds < m := by
        have z := hm
        unfold PyData.depth at z
        omega
      have lx := VB.DpAll.len dx
      have ly := VB.DpAll.len dy
      refine ⟨_, rfl, a, xs, rfl, sx, _, rfl, b, ys, rfl, sy, rfl, _, rfl, iteNS (by rw [lx, ly]) ?_⟩
      have big : ys.length ≤ 100000 := by omega
      refine ⟨_, rfl, b, ys, rfl, sy, _, rfl, by omega, by omega, fun D nD => lc_range (lo := 0) (n := ((ys.length : Int)).toNat)
        (fun i H' => Same H H' ∧ H' D = some (.lst ((List.replicate i true).map V.bl))) ⟨same_upd nD _, upd_same⟩ ?_ ?_⟩
      · rintro i H' hi ⟨s0, hD⟩
        have hi2 : i < ds.length := by omega
        obtain ⟨xi, yi, hxi, hyi, px, py⟩ := like_seq dx dy hi2
        refine ⟨rfl, ?_⟩
        unfold tYes
        refine iteT ?_
        refine ⟨_, rfl, _, rfl, ixAny (sqAny s0 sx) hxi ⟨_, rfl, _, rfl, ixAny (sqAny s0 sy) hyi ?_⟩⟩
        refine ⟨xi, yi, ds[i], rfl, Dp.same s0 _ _ px, Dp.same s0 _ _ py, Nat.lt_of_le_of_lt (depth_mem (List.getElem_mem hi2)) hm2, slim_mem hw.2 (List.getElem_mem hi2), fun H4 s4 => ?_⟩
        refine ⟨_, s4 _ _ hD, ?_, sameIn (s0.trans s4) nD, ?_⟩
        · rw [List.length_map, List.length_replicate]
          have z := sizeLine_eq
          omega
        · rw [upd_same, List.replicate_succ', List.map_append] <;> rfl
      · rintro H' ⟨s0, hD⟩
        refine ⟨D, _, rfl, SqL.of hD, ?_⟩
        rw [all_true]
        exact q H' s0
end
end LW

set_option Elab.async false
set_option linter.all false
set_option maxRecDepth 100000
set_option maxHeartbeats 4000000
namespace LW
open PySem PySem.Spec PyProof.Rows L2 LamX NdefX VB VM VP
abbrev s_has_form : Stmt := top 35
theorem sc_has_form : FnScope ["word", "firsts", "signs", "sign"] ["word", "firsts", "signs"] (defScope s_has_form) := ⟨rfl, rfl, rfl, by decide +kernel, rfl, by decide +kernel, by decide +kernel⟩
theorem inV_strs (x : Str) : ∀ ss : List Str, inV (.str x) (ss.map V.str) = decide (x ∈ ss)
  | [] => by simp [inV]
  | y :: ss => by
    have ih := inV_strs x ss
    unfold inV at ih ⊢
    rw [List.map_cons, List.any_cons, ih]
    show ((y == x) || decide (x ∈ ss)) = _
    by_cases e : x = y
    · subst e; simp
    · have e2 : (y == x) = false := beq_eq_false_iff_ne.mpr (fun z => e z.symm)
      rw [e2]
      simp [e]
/-- the form of a name: its first sign, its signs, its length -/
def hasForm (f g : List Nat) : List Nat → Bool
  | [] => false
  | c :: r => decide ((c :: r).length ≤ 12) && (decide (c ∈ f) && (c :: r).all fun d => decide (d ∈ g))
theorem hasForm_cons (f g : List Nat) (c : Nat) (r : List Nat) : hasForm f g (c :: r) = (decide ((c :: r).length ≤ 12) && (decide (c ∈ f) && (c :: r).all fun d => decide (d ∈ g))) := rfl
section
variable {P : Program} {w : World} {K : PySem.W.Frag} {mg : Str → Option Value} {base : Heap}
def spForm : Sp := fun vs H Q _ => ∃ (x f g : Str), vs = [.str x, .str f, .str g] ∧ x.length ≤ 1000 ∧
  ∀ H', Same H H' → Q (.bl (hasForm f.cps.toList g.cps.toList x.cps.toList)) H'
theorem len_codes (x : Str) : x.length = x.cps.toList.length := by
  rw [Array.length_toList] <;> rfl
theorem c_form (D : Df K mg "has_form" s_has_form) (z_len : mg "len" = none) (z_all : mg "all" = none) (g_LONGEST_NAME : ∃ u, mg "LONGEST_NAME" = some u ∧ RelV (.int 12) u) :
    C8.Cal P w K mg base 1 "has_form" spForm [] := by
  refine D.cal sc_has_form (fun _ _ _ _ _ _ us hl => match us, hl with | [_, _, _], _ => rfl) (fun vs H Q E h => ?_) (fun f cdv A outer s H vs Q E hr h => ?_)
  · obtain ⟨x, f, g, rfl, _⟩ := h
    rfl
  obtain ⟨x, fs, gs, rfl, hx, q⟩ := h
  refine ⟨_, (pss_cons (ps_if (pt_not (pt_chain op_le op_le pe_int (pe_callB call_len_str (by rfl) z_len PySem.boot_len (pa_cons (pv 0) pa_nil)) (C8.pe_gc rfl g_LONGEST_NAME)))
      (pss_one (ps_ret pe_bl))
      pss_nil)
    (pss_one (ps_ret (pe_and (pe_cmpR op_in_sign (pe_ix ix_str (pv 0) pe_int (fun _ _ => rfl)) (pv 1) rfl) (pe_one (pe_callB (VK.allL (K := K) rfl rfl) (by rfl) z_all (by decide +kernel) (pa_cons (pe_lc (own := [("sign", 3)]) (tt := tYes) rfl sc_has_form.nd (pi_str (pv 0)) (blkOk_by (N := ["word", "firsts", "signs", "sign"]) (sc := defScope s_has_form) (by decide +kernel)) (fun _ _ _ _ _ => (pg_name (i := 3) sc_has_form.nd rfl (Or.inl rfl) (hf := Or.inr rfl))) (fun _ _ _ _ _ => pts_nil) (fun _ _ _ _ _ => (pe_cmpR op_in_sign (pv 3) (pv 2) rfl))) pa_nil))))))), ?_⟩
  have zl := sizeLine_eq
  have el := len_codes x
  refine ⟨_, rfl, _, rfl, by omega, _, _, rfl, rfl, _, rfl, ?_⟩
  refine ite2 (fun c1 => ?_) (fun c1 => ?_)
  · have c1' : (1 : Int) ≤ (x.length : Int) := of_decide_eq_true c1
    refine ⟨_, _, rfl, rfl, _, rfl, ?_⟩
    by_cases c2 : ((x.length : Nat) : Int) ≤ 12
    · rw [decide_eq_true c2]
      refine iteF ?_
      -- the codes
      obtain ⟨c, r, er⟩ : ∃ c r, x.cps.toList = c :: r := by
        cases e : x.cps.toList with
        | nil => rw [e] at el; exact absurd c1' (by rw [el]; decide)
        | cons c r => exact ⟨c, r, rfl⟩
      have e0 : atI x.cps.toList 0 = some c := by rw [er]; exact atI_nat (xs := c :: r) (j := 0) rfl
      refine ⟨_, rfl, _, _, c, rfl, rfl, by omega, e0, _, rfl, _, _, rfl, rfl, _, rfl, ?_⟩
      have e12 : decide ((c :: r).length ≤ 12) = true := decide_eq_true (by rw [← er, ← el]; omega)
      refine ite2 (fun c3 => ?_) (fun c3 => ?_)
      · refine ⟨_, rfl, _, rfl, fun D1 nD => ?_⟩
        have sz : x.cps.size = (c :: r).length := by rw [← Array.length_toList, er]
        refine lc_it walk_str (fun i H' => Same H H' ∧ H' D1 = some (.lst ((((c :: r).take i).map fun d => decide (d ∈ gs.cps.toList)).map V.bl))) ⟨same_upd nD _, upd_same⟩ (fun _ _ _ _ => trivial) ?_ ?_
        · rintro i y H1 H' hi ⟨s1, hD⟩ ⟨rfl, d, hd, rfl⟩
          have hd2 : (c :: r)[i]? = some d := by rw [← er, Array.getElem?_toList]; exact hd
          refine ⟨rfl, ?_⟩
          unfold tYes
          refine iteT ?_
          refine ⟨_, rfl, _, rfl, d, _, rfl, rfl, ?_⟩
          refine ⟨_, hD, ?_, sameIn s1 nD, ?_⟩
          · have ell : (c :: r).length ≤ 1000 := by rw [← er, ← el]; exact hx
            rw [List.length_map, List.length_map, List.length_take]
            omega
          · rw [upd_same, List.take_add_one, hd2, List.map_append, List.map_append] <;> rfl
        · rintro H' ⟨s1, hD⟩
          rw [sz, List.take_length] at hD
          refine ⟨D1, _, rfl, SqL.of hD, ?_⟩
          have z := q H' s1
          rw [er] at z
          have e : hasForm fs.cps.toList gs.cps.toList (c :: r) = ((c :: r).map fun d => decide (d ∈ gs.cps.toList)).all id := by
            rw [hasForm_cons]
            rw [e12, c3, List.all_map] <;> rfl
          rw [e] at z
          exact z
      · have z := q H (Same.refl H)
        rw [er] at z
        have e : hasForm fs.cps.toList gs.cps.toList (c :: r) = false := by
          rw [hasForm_cons]
          rw [e12, Bool.eq_false_iff.mpr c3] <;> rfl
        rw [e] at z
        exact z
    · rw [decide_eq_false c2]
      refine iteT ?_
      have z := q H (Same.refl H)
      have e : hasForm fs.cps.toList gs.cps.toList x.cps.toList = false := by
        cases e : x.cps.toList with
        | nil => rfl
        | cons c r =>
          rw [hasForm_cons]
          rw [decide_eq_false (show ¬ (c :: r).length ≤ 12 by rw [← e, ← el]; omega)] <;> rfl
      rw [e] at z
      exact z
  · have c1' : ¬ (1 : Int) ≤ (x.length : Int) := fun z => c1 (decide_eq_true z)
    refine ⟨_, rfl, iteT ?_⟩
    have z := q H (Same.refl H)
    have e : hasForm fs.cps.toList gs.cps.toList x.cps.toList = false := by
      cases e : x.cps.toList with
      | nil => rfl
      | cons c r => rw [e] at el; rw [List.length_cons] at el; omega
    rw [e] at z
    exact z
abbrev LOW : Str := "abcdefghijklmnopqrstuvwxyz"
abbrev DIG : Str := "0123456789"
abbrev noEv : List Str := ["stop", "skip", "tau", "tick", "true", "loops"]
def isEvent (x : Str) : Bool := hasForm LOW.cps.toList (LOW ++ DIG).cps.toList x.cps.toList && !decide (x ∈ noEv)
def spTest (t : Str → Bool) : Sp := fun vs H Q _ => ∃ (x : Str), vs = [.str x] ∧ x.length ≤ 1000 ∧ ∀ H', Same H H' → Q (.bl (t x)) H'
end
end LW

set_option Elab.async false
set_option linter.all false
set_option maxRecDepth 100000
set_option maxHeartbeats 4000000
namespace LW
open PySem PySem.Spec PyProof.Rows L2 LamX NdefX VB VM VP
abbrev s_is_event : Stmt := top 34
theorem sc_is_event : FnScope ["word"] ["word"] (defScope s_is_event) := ⟨rfl, rfl, rfl, by decide +kernel, rfl, by decide +kernel, by decide +kernel⟩
abbrev s_is_action : Stmt := top 38
theorem sc_is_action : FnScope ["word"] ["word"] (defScope s_is_action) := ⟨rfl, rfl, rfl, by decide +kernel, rfl, by decide +kernel, by decide +kernel⟩
section
variable {P : Program} {w : World} {K : PySem.W.Frag} {mg : Str → Option Value} {base : Heap}
theorem c_event {na : Addr} (D : Df K mg "is_event" s_is_event) (g_LOWER : ∃ u, mg "LOWER" = some u ∧ RelV (.str LOW) u) (g_DIGITS : ∃ u, mg "DIGITS" = some u ∧ RelV (.str DIG) u)
    (g_NO_EVENTS : ∃ u, mg "NO_EVENTS" = some u ∧ RelV (.ref na) u) (hNE : ∀ H, SqT K H na (noEv.map V.str)) (c_has_form : C8.Cal P w K mg base 1 "has_form" spForm []) :
    C8.Cal P w K mg base 2 "is_event" (spTest isEvent) [] := by
  refine D.cal sc_is_event (fun _ _ _ _ _ _ us hl => match us, hl with | [_], _ => rfl) (fun vs H Q E h => ?_) (fun f cdv A outer s H vs Q E hr h => ?_)
  · obtain ⟨x, rfl, _⟩ := h
    rfl
  obtain ⟨x, rfl, hx, q⟩ := h
  refine ⟨_, (pss_one (ps_ret (pe_and (C8.pe_c c_has_form hr (by first | decide | omega) rfl (pa_cons (pv 0) (pa_cons (C8.pe_gc rfl g_LOWER) (pa_cons (pe_op op_add_str (C8.pe_gc rfl g_LOWER) (C8.pe_gc rfl g_DIGITS)) pa_nil)))) (pe_one (pe_cmpR (VK.notInQ (K := K) rfl) (pv 0) (C8.pe_gc rfl g_NO_EVENTS) rfl))))), ?_⟩
  refine ⟨_, rfl, _, _, rfl, rfl, (by decide), x, LOW, LOW ++ DIG, rfl, hx, fun H1 s1 => ?_⟩
  refine ⟨_, rfl, ?_⟩
  have z := q H1 s1
  unfold isEvent at z
  refine ite2 (fun c => ?_) (fun c => ?_)
  · refine ⟨_, rfl, na, _, rfl, .inr (hNE H1), rfl, rfl, ?_⟩
    rw [c, Bool.true_and] at z
    show Q (.bl (!inV (.str x) (noEv.map V.str))) H1
    rw [inV_strs]
    exact z
  · rw [Bool.eq_false_iff.mpr c, Bool.false_and] at z
    exact z

def isAct (x : Str) : Bool := isEvent x || decide (x ∈ [("tau" : Str), "tick"])
theorem c_action (D : Df K mg "is_action" s_is_action) (c_is_event : C8.Cal P w K mg base 2 "is_event" (spTest isEvent) []) : C8.Cal P w K mg base 3 "is_action" (spTest isAct) [] := by
  refine D.cal sc_is_action (fun _ _ _ _ _ _ us hl => match us, hl with | [_], _ => rfl) (fun vs H Q E h => ?_) (fun f cdv A outer s H vs Q E hr h => ?_)
  · obtain ⟨x, rfl, _⟩ := h
    rfl
  obtain ⟨x, rfl, hx, q⟩ := h
  refine ⟨_, (pss_one (ps_ret (pe_or (C8.pe_c c_is_event hr (by first | decide | omega) rfl (pa_cons (pv 0) pa_nil)) (pe_one (pe_cmpR (VK.inQ (K := K) rfl) (pv 0) (pe_tup (pa_cons pe_str (pa_cons pe_str pa_nil))) rfl))))), ?_⟩
  have zl := sizeLine_eq
  refine ⟨_, rfl, x, rfl, hx, fun H1 s1 => ⟨_, rfl, ?_⟩⟩
  refine ite2 (fun c => ?_) (fun c => ?_)
  · have z := q H1 s1
    unfold isAct at z
    rw [c, Bool.true_or] at z
    exact z
  · refine ⟨_, rfl, (by show 2 ≤ sizeLine; omega), fun t nt => ⟨t, _, rfl, .inr (.inl (.inl upd_same)), rfl, rfl, ?_⟩⟩
    have z := q _ (s1.trans (same_upd nt (.tup [V.str "tau", V.str "tick"])))
    unfold isAct at z
    rw [Bool.eq_false_iff.mpr c, Bool.false_or] at z
    show Q (.bl (inV (.str x) ([("tau" : Str), "tick"].map V.str))) _
    rw [inV_strs]
    exact z
theorem acts_act : ∀ x ∈ acts, isAct x = true := by decide +kernel
end
end LW

set_option Elab.async false
set_option linter.all false
set_option maxRecDepth 100000
set_option maxHeartbeats 4000000
namespace LW
open PySem PySem.Spec PyProof.Rows L2 LamX NdefX VB VM VP
abbrev s__law_once : Stmt := top 48
theorem sc__law_once : FnScope ["rows", "found", "row"] ["rows"] (defScope s__law_once) := ⟨rfl, rfl, rfl, by decide +kernel, rfl, by decide +kernel, by decide +kernel⟩
abbrev s__law_system : Stmt := top 46
theorem sc__law_system : FnScope ["cell", "most", "draws", "count", "edges", "k", "draw", "action"] ["cell", "most"] (defScope s__law_system) := ⟨rfl, rfl, rfl, by decide +kernel, rfl, by decide +kernel, by decide +kernel⟩
section
variable {P : Program} {w : World} {K : PySem.W.Frag} {mg : Str → Option Value} {base : Heap}
/-- each edge once -/
def spOnceE (K : PySem.W.Frag) : Sp := fun vs H Q _ => ∃ (a : Addr) (L : List (Addr × Ed)), vs = [.ref a] ∧ SqL K H a (refs L) ∧ Eds K H L ∧ L.length ≤ 1000 ∧ (∀ p ∈ L, p.2.2.1 ∈ acts) ∧
  ∀ (p : Addr) (L' : List (Addr × Ed)), H p = none → (∀ x ∈ L', x ∈ L) → L'.map (·.2) = onceG [] (L.map (·.2)) → Q (.ref p) (upd H p (.lst (refs L')))
theorem c_onceE (D : Df K mg "_law_once" s__law_once) : C8.Cal P w K mg base 1 "_law_once" (spOnceE K) [] := by
  refine D.cal sc__law_once (fun _ _ _ _ _ _ us hl => match us, hl with | [_], _ => rfl) (fun vs H Q E h => ?_) (fun f cdv A outer s H vs Q E hr h => ?_)
  · obtain ⟨a, L, rfl, _⟩ := h
    rfl
  obtain ⟨a, L, rfl, hS, hE, hz, ha, q⟩ := h
  refine ⟨_, (pss_cons (ps_set (i := 1) sc__law_once.nd rfl (Or.inl rfl) (pe_lst pa_nil))
    (pss_cons (ps_for PassesOwn.never rfl (pi_list (pv 0)) (pg_name (i := 2) sc__law_once.nd rfl (Or.inl rfl))
      (pss_one (ps_if (pt_cmpR (VP.notInD (K := K) rfl (VP.un65 hr)) (pv 2) (pv 1) rfl)
        (pss_one (ps_expr (pe_bm PySem.F.plainAttrs_list PySem.F.slot_list_append PySem.F.type_list_append mt_append (pv 1) (pa_cons (pv 2) pa_nil))))
        pss_nil)))
    (pss_one (ps_ret (pv 1))))), ?_⟩
  have zl := sizeLine_eq
  refine ⟨Nat.zero_le _, fun l nl => ?_⟩
  have s0 : ∀ o, Same H (upd H l o) := fun o => same_upd nl o
  refine ⟨_, rfl, a, rfl, ⟨_, (s0 _).seq hS⟩, for_list (K := K) (a := a) (xs := refs L)
    (fun i σ H' => ∃ (rr : Option V) (L' : List (Addr × Ed)), σ = [some (.ref a), some (.ref l), rr] ∧ H' = upd H l (.lst (refs L')) ∧ (∀ x ∈ L', x ∈ L) ∧ L'.map (·.2) = onceG [] ((L.map (·.2)).take i) ∧ L'.length ≤ i)
    ⟨none, [], rfl, rfl, fun x z => absurd z List.not_mem_nil, rfl, Nat.le_refl _⟩ (fun i σ H' _ ⟨_, _, _, e, _⟩ => by rw [e]; exact (s0 _).seq hS) ?_ ?_⟩
  · rintro i v σ H' hv ⟨rr, L', rfl, rfl, sub, eL, len⟩
    obtain ⟨p, hp, rfl⟩ := refs_at hv
    have pin := List.mem_of_getElem? hp
    have hE' : Eds K (upd H l (.lst (refs L'))) L := hE.kp (Kp.of (s0 _))
    have hl : upd H l (.lst (refs L')) l = some (.lst (refs L')) := upd_same
    have small : i < L.length := (List.getElem?_eq_some_iff.mp hp).1
    have tk : (L.map (·.2)).take (i + 1) = (L.map (·.2)).take i ++ [p.2] := by rw [List.take_succ, List.getElem?_map, hp] <;> rfl
    have eDp : Dp K (upd H l (.lst (refs L'))) (.ref l) (.list ((L'.map (·.2)).map edD)) := by
      rw [List.map_map]
      exact .lst (SqL.of hl) (Eds.all fun x hx => hE' x (sub x hx))
    refine ⟨_, rfl, _, rfl, _, _, edDp (hE' p pin), eDp, ed_shaped (acts_ok _ (ha p pin)).1, eds_shaped (fun e he => ?_), ?_⟩
    · obtain ⟨x, hx, rfl⟩ := List.mem_map.mp he
      exact (acts_ok _ (ha x (sub x hx))).1
    rw [any_ed, eL]
    refine ⟨_, rfl, ?_⟩
    refine ite2 (fun c => ?_) (fun c => ?_)
    · have nin : ¬ p.2 ∈ onceG [] ((L.map (·.2)).take i) := by simpa using c
      refine ⟨_, rfl, .inl ⟨rfl, _, SqL.of hl⟩, _, rfl, l, _, _, rfl, rfl, hl, (by rw [List.length_map]; omega), ?_⟩
      refine ⟨_, L' ++ [p], rfl, by rw [upd_upd, refs_snoc], fun x hx => ?_, ?_, by rw [List.length_append, List.length_singleton]; omega⟩
      · rcases List.mem_append.mp hx with z | z
        · exact sub x z
        · rw [List.mem_singleton.mp z]; exact pin
      · rw [tk, onceG_snoc, if_neg nin, List.map_append, eL] <;> rfl
    · have inn : p.2 ∈ onceG [] ((L.map (·.2)).take i) := by simpa using c
      refine ⟨_, L', rfl, rfl, sub, ?_, by omega⟩
      rw [tk, onceG_snoc, if_pos inn, eL]
  · rintro σ H' ⟨rr, L', rfl, rfl, sub, eL, len⟩
    rw [List.length_map] at eL
    rw [List.take_of_length_le (by rw [List.length_map]; exact Nat.le_refl _)] at eL
    exact ⟨_, rfl, q l L' nl sub eL⟩
/-- a system that is drawn -/
def spSys5 (K : PySem.W.Frag) : Sp := fun vs H Q _ => ∃ (c m : Int), vs = [.int c, .int m] ∧ 1 ≤ m ∧ m ≤ 12 ∧
  ∀ (t l : Addr) (n : Int) (L : List (Addr × Ed)) (H' : Hp), Same H H' → H' t = some (.tup [.int n, .ref l]) → H' l = some (.lst (refs L)) → Eds K H' L → 1 ≤ n → n ≤ m → (L.length : Int) < 3 * m → (∀ p ∈ L, okE n p.2) → (∀ p ∈ L, p.2.2.1 ∈ acts0) → Q (.ref t) H'
theorem c_system5 (D : Df K mg "_law_system" s__law_system) (z_range : mg "range" = none) (c__law_draws : C8.Cal P w K mg base 1 "_law_draws" spDraws []) : C8.Cal P w K mg base 2 "_law_system" (spSys5 K) [] := by
  refine D.cal sc__law_system (fun _ _ _ _ _ _ us hl => match us, hl with | [_, _], _ => rfl) (fun vs H Q E h => ?_) (fun f cdv A outer s H vs Q E hr h => ?_)
  · obtain ⟨c, m, rfl, _⟩ := h
    rfl
  obtain ⟨c, m, rfl, m1, m2, q⟩ := h
  refine ⟨_, (pss_cons (ps_set (i := 2) sc__law_system.nd rfl (Or.inl rfl) (C8.pe_c c__law_draws hr (by first | decide | omega) rfl (pa_cons (pv 0) (pa_cons (pe_op op_add (pe_op op_mul pe_int (pv 1)) pe_int) pa_nil))))
    (pss_cons (ps_set (i := 3) sc__law_system.nd rfl (Or.inl rfl) (pe_op op_add pe_int (pe_op op_modN (pe_ix (VK.ixL (K := K) rfl) (pv 2) pe_int (fun _ _ => rfl)) (pv 1))))
    (pss_cons (ps_set (i := 4) sc__law_system.nd rfl (Or.inl rfl) (pe_lst pa_nil))
    (pss_cons (ps_for PassesOwn.never rfl (pi_range1 rfl z_range (pa_cons (pe_op op_modN (pe_ix (VK.ixL (K := K) rfl) (pv 2) pe_int (fun _ _ => rfl)) (pe_op op_mul pe_int (pv 1))) pa_nil)) (pg_name (i := 5) sc__law_system.nd rfl (Or.inl rfl))
      (pss_cons (ps_set (i := 6) sc__law_system.nd rfl (Or.inl rfl) (pe_ix (VK.ixL (K := K) rfl) (pv 2) (pe_op op_add pe_int (pv 5)) (fun _ _ => rfl)))
      (pss_cons (ps_set (i := 7) sc__law_system.nd rfl (Or.inl rfl) (pe_ix (VK.ixL (K := K) rfl) (pe_lst (pa_cons pe_str (pa_cons pe_str (pa_cons pe_str (pa_cons pe_str (pa_cons pe_str (pa_cons pe_str (pa_cons pe_str (pa_cons pe_str (pa_cons pe_str (pa_cons pe_str pa_nil))))))))))) (pe_op op_modN (pv 6) (pe_op op_add pe_int (pe_op op_mod (pe_ix (VK.ixL (K := K) rfl) (pv 2) pe_int (fun _ _ => rfl)) pe_int))) (fun _ _ => rfl)))
      (pss_one (ps_expr (pe_bm PySem.F.plainAttrs_list PySem.F.slot_list_append PySem.F.type_list_append mt_append (pv 4) (pa_cons (pe_tup (pa_cons (pe_op op_modN (pe_op op_fdiv (pv 6) pe_int) (pv 3)) (pa_cons (pv 7) (pa_cons (pe_op op_modN (pe_op op_fdiv (pv 6) pe_int) (pv 3)) pa_nil)))) pa_nil)))))))
    (pss_one (ps_ret (pe_tup (pa_cons (pv 3) (pa_cons (pv 4) pa_nil))))))))), ?_⟩
  have zl := sizeLine_eq
  refine ⟨_, rfl, _, rfl, _, _, rfl, rfl, .inl ⟨by omega, by omega⟩, _, _, rfl, rfl, c, 3 * m + 4, rfl, by omega, by omega, fun d ns nd hlen hb => ?_⟩
  have s1 := same_upd nd (.lst (ns.map V.int))
  have hd : upd H d (.lst (ns.map V.int)) d = some (.lst (ns.map V.int)) := upd_same
  generalize upd H d (.lst (ns.map V.int)) = H1 at *
  have draw : ∀ j : Nat, (j : Int) < 3 * m + 4 → ∃ x, atI (ns.map V.int) (j : Nat) = some (.int x) ∧ 0 ≤ x ∧ x < 4096 := fun j hj => by
    have hk : j < ns.length := by omega
    have hx := hb _ (List.getElem_mem hk)
    exact ⟨ns[j], atI_nat (by rw [List.getElem?_map, List.getElem?_eq_getElem hk] <;> rfl), hx⟩
  obtain ⟨x0, h0, _⟩ := draw 0 (by omega)
  obtain ⟨x1, h1, _⟩ := draw 1 (by omega)
  obtain ⟨x2, h2, _⟩ := draw 2 (by omega)
  have hm0 : m ≠ 0 := by omega
  have n0 := Int.fmod_nonneg_of_pos x0 (show 0 < m by omega)
  have n1 := Int.fmod_lt_of_pos x0 (show 0 < m by omega)
  refine ⟨_, rfl, d, _, _, _, rfl, rfl, SqL.of hd, h0, _, rfl, _, _, rfl, rfl, hm0, _, _, rfl, rfl, ?_⟩
  refine ⟨Nat.zero_le _, fun l nl => ?_⟩
  have s2 := same_upd nl (.lst [])
  have c0 := Int.fmod_nonneg_of_pos x1 (show 0 < 3 * m by omega)
  have c1 := Int.fmod_lt_of_pos x1 (show 0 < 3 * m by omega)
  refine ⟨_, rfl, d, _, _, _, rfl, rfl, SqL.of (s2 _ _ hd), h1, _, rfl, _, _, rfl, rfl, .inl ⟨by omega, by omega⟩, _, _, rfl, rfl, by omega, ?_⟩
  obtain ⟨n, hn⟩ : ∃ n, n = (1 : Int) + x0.fmod m := ⟨_, rfl⟩
  obtain ⟨cnt, hc⟩ : ∃ cnt, cnt = x1.fmod (3 * m) := ⟨_, rfl⟩
  have ndl : d ≠ l := ne_of_none hd nl
  rw [← hc] at c0 c1
  have nlH : H l = none := s1.free nl
  refine ⟨cnt, by rw [hc], by omega, by omega, for_range (lo := 0) (n := cnt.toNat)
    (fun i σ H' => ∃ (L : List (Addr × Ed)) (r5 r6 r7 : Option V), σ = [some (.int c), some (.int m), some (.ref d), some (.int n), some (.ref l), r5, r6, r7] ∧ Same H H' ∧ H' d = some (.lst (ns.map V.int)) ∧ H' l = some (.lst (refs L)) ∧
      Eds K H' L ∧ L.length = i ∧ (∀ p ∈ L, okE n p.2) ∧ ∀ p ∈ L, p.2.2.1 ∈ acts0)
    ⟨[], none, none, none, by rw [hn] <;> rfl, s1.trans s2, s2 _ _ hd, upd_same, fun p z => absurd z List.not_mem_nil, rfl, fun p z => absurd z List.not_mem_nil, fun p z => absurd z List.not_mem_nil⟩ ?_ ?_⟩
  · rintro i σ H2 hi ⟨L, r5, r6, r7, rfl, sH, hd2, hl2, hE, len, ok, ok5⟩
    obtain ⟨x, hx, x0', x1'⟩ := draw (2 + i) (by omega)
    have ei : (2 : Int) + (0 + (i : Int)) = ((2 + i : Nat) : Int) := by omega
    refine ⟨_, rfl, _, rfl, _, _, rfl, rfl, d, _, _, .int x, rfl, rfl, SqL.of hd2, (by rw [ei]; exact hx), ?_⟩
    refine ⟨(by show 10 ≤ sizeLine; omega), fun t nt => ?_⟩
    have s3 := same_upd nt (.lst [.str "a", .str "b", .str "tau", .str "a", .str "c", .str "tau", .str "b", .str "tick", .str "a", .str "tau"])
    have z2 := Int.emod_nonneg x2 (show (2 : Int) ≠ 0 by decide)
    have z3 := Int.emod_lt_of_pos x2 (show (0 : Int) < 2 by decide)
    have a0 := Int.fmod_nonneg_of_pos x (show 0 < 9 + x2 % 2 by omega)
    have a1 := Int.fmod_lt_of_pos x (show 0 < 9 + x2 % 2 by omega)
    obtain ⟨w, hw, hin⟩ : ∃ w : Str, atI [V.str "a", V.str "b", V.str "tau", V.str "a", V.str "c", V.str "tau", V.str "b", V.str "tick", V.str "a", V.str "tau"] (x.fmod (9 + x2 % 2)) = some (.str w) ∧ w ∈ acts0 := by
      have z : x.fmod (9 + x2 % 2) < 10 := by omega
      generalize x.fmod (9 + x2 % 2) = g at *
      have k : g = 0 ∨ g = 1 ∨ g = 2 ∨ g = 3 ∨ g = 4 ∨ g = 5 ∨ g = 6 ∨ g = 7 ∨ g = 8 ∨ g = 9 := by omega
      rcases k with rfl | rfl | rfl | rfl | rfl | rfl | rfl | rfl | rfl | rfl
      · exact ⟨"a", rfl, by decide +kernel⟩
      · exact ⟨"b", rfl, by decide +kernel⟩
      · exact ⟨"tau", rfl, by decide +kernel⟩
      · exact ⟨"a", rfl, by decide +kernel⟩
      · exact ⟨"c", rfl, by decide +kernel⟩
      · exact ⟨"tau", rfl, by decide +kernel⟩
      · exact ⟨"b", rfl, by decide +kernel⟩
      · exact ⟨"tick", rfl, by decide +kernel⟩
      · exact ⟨"a", rfl, by decide +kernel⟩
      · exact ⟨"tau", rfl, by decide +kernel⟩
    refine ⟨_, rfl, _, rfl, d, _, _, .int x2, rfl, rfl, SqL.of (s3 _ _ hd2), h2, _, _, rfl, rfl, (by show (0 : Int) < 2; decide), _, _, rfl, rfl, _, _, rfl, rfl, (by omega), t, _, _, _, rfl, rfl, SqL.of upd_same, hw, ?_⟩
    have hn0 : 0 < n := by omega
    have nne : n ≠ 0 := by omega
    refine ⟨_, rfl, .inl ⟨rfl, _, SqL.of (s3 _ _ hl2)⟩, _, rfl, _, _, rfl, rfl, ⟨by decide, by decide⟩, _, rfl, _, _, rfl, rfl, nne, _, rfl, _, rfl, _, _, rfl, rfl, ⟨by decide, by decide⟩, _, rfl, _, _, rfl, rfl, nne, (by show 3 ≤ sizeLine; omega), fun t2 nt2 => ?_⟩
    have s4 := same_upd nt2 (.tup [.int ((x / 10).fmod n), .str w, .int ((x / 100).fmod n)])
    have hl4 := s4 _ _ (s3 _ _ hl2)
    refine ⟨l, _, _, rfl, rfl, hl4, (by rw [refs_len, len]; omega), ?_⟩
    have k5 : Kp H2 (upd (upd (upd H2 t (.lst [.str "a", .str "b", .str "tau", .str "a", .str "c", .str "tau", .str "b", .str "tick", .str "a", .str "tau"])) t2 (.tup [.int ((x / 10).fmod n), .str w, .int ((x / 100).fmod n)])) l (.lst (refs L ++ [.ref t2]))) :=
      (Kp.of (s3.trans s4)).trans (Kp.updL hl4 _)
    have nt2l : t2 ≠ l := fun z => by rw [z, s3 _ _ hl2] at nt2; cases nt2
    refine ⟨L ++ [(t2, ((x / 10).fmod n, w, (x / 100).fmod n))], _, _, _, rfl, sameIn ((sH.trans s3).trans s4) nlH, by rw [upd_ne ndl]; exact s4 _ _ (s3 _ _ hd2), by rw [upd_same, refs_snoc], fun p hp => ?_, by rw [List.length_append, len] <;> rfl, fun p hp => ?_, fun p hp => ?_⟩
    · rcases List.mem_append.mp hp with z | z
      · exact (hE.kp k5) p z
      · rw [List.mem_singleton.mp z]
        exact .inl (.inl (by rw [upd_ne nt2l]; exact upd_same))
    · rcases List.mem_append.mp hp with z | z
      · exact ok p z
      · rw [List.mem_singleton.mp z]
        exact ⟨Int.fmod_nonneg_of_pos _ hn0, Int.fmod_lt_of_pos _ hn0, Int.fmod_nonneg_of_pos _ hn0, Int.fmod_lt_of_pos _ hn0, acts0_sub _ hin⟩
    · rcases List.mem_append.mp hp with z | z
      · exact ok5 p z
      · rw [List.mem_singleton.mp z]
        exact hin
  · rintro σ H2 ⟨L, r5, r6, r7, rfl, sH, hd2, hl2, hE, len, ok, ok5⟩
    refine ⟨_, rfl, _, rfl, (by show 2 ≤ sizeLine; omega), fun t nt => ?_⟩
    have s3 := same_upd nt (.tup [.int n, .ref l])
    exact q t l n L _ (sH.trans s3) upd_same (s3 _ _ hl2) (hE.kp (Kp.of s3)) (by omega) (by omega) (by omega) ok ok5
/-- .. as most laws use it -/
def spSys (K : PySem.W.Frag) : Sp := fun vs H Q _ => ∃ (c m : Int), vs = [.int c, .int m] ∧ 1 ≤ m ∧ m ≤ 12 ∧
  ∀ (t l : Addr) (n : Int) (L : List (Addr × Ed)) (H' : Hp), Same H H' → H' t = some (.tup [.int n, .ref l]) → H' l = some (.lst (refs L)) → Eds K H' L → 1 ≤ n → n ≤ m → (L.length : Int) < 3 * m → (∀ p ∈ L, okE n p.2) → Q (.ref t) H'
theorem c_system (D : Df K mg "_law_system" s__law_system) (z_range : mg "range" = none) (c__law_draws : C8.Cal P w K mg base 1 "_law_draws" spDraws []) : C8.Cal P w K mg base 2 "_law_system" (spSys K) [] :=
  VB.calImp (c_system5 D z_range c__law_draws) fun vs H Q E ⟨c, m, e, m1, m2, q⟩ => ⟨c, m, e, m1, m2, fun t l n L H' s ht hl hE n1 n2 len ok _ => q t l n L H' s ht hl hE n1 n2 len ok⟩
end
end LW

set_option Elab.async false
set_option linter.all false
set_option maxRecDepth 100000
set_option maxHeartbeats 4000000
namespace VE
open PySem PySem.Spec PyProof.Rows L2 LamX NdefX VB
/-! defs that may raise -/
/-- an own class of exceptions under its name -/
structure Own (K : PySem.W.Frag) (mg : Str → Option Value) (x : Str) (C : Addr) : Prop where
  at_ : mg x = some (.ref C)
  xP : PySem.W.excIn K C He.veBase "ValueError.__new__" = true
  kP : PySem.W.keepIn K (.ref C) = true
  bP : PySem.W.subIn K (.ref C) (.type "BaseException") = some true
  tP : PySem.W.typeIn K (.ref C) = some (.type "type")
  te : PySem.W.exmOne K (.ref C) (.ref C) = some true
structure CalX (P : Program) (w : World) (K : PySem.W.Frag) (mg : Str → Option Value) (base : Heap) (k : Nat) (x : Str) (sp : Sp) : Prop where
  ex : ∃ (f : Addr) (fd : FuncData) (ps : List Str), FnOk P w K mg base (L2.CX P w) k f fd ps sp ∧ mg x = some (.ref f) ∧ PySem.W.keepIn K (.ref f) = true ∧ Binds K fd ps []
structure MetX (P : Program) (w : World) (K : PySem.W.Frag) (mg : Str → Option Value) (base : Heap) (k : Nat) (C : Addr) (m : Str) (sp : Sp) : Prop where
  ex : ∃ (f : Addr) (fd : FuncData) (ps : List Str), Cls K C ∧ Meth K C m f ∧ FnOk P w K mg base (L2.CX P w) k f fd ps sp ∧ Binds K fd ps []
structure MakX (P : Program) (w : World) (K : PySem.W.Frag) (mg : Str → Option Value) (base : Heap) (k : Nat) (x : Str) (C : Addr) (sp : Sp) : Prop where
  ex : ∃ (f : Addr) (fd : FuncData) (ps : List Str), Mk K C f ∧ FnOk P w K mg base (L2.CX P w) k f fd ps sp ∧ mg x = some (.ref C) ∧ Binds K fd ps []
section
variable {P : Program} {w : World} {K : PySem.W.Frag} {mg : Str → Option Value} {base : Heap}
theorem calX {x : Str} {st : Stmt} {N ps : List Str} {k : Nat} {sp : Sp} (D : Df K mg x st) (S : FnScope N ps (defScope st)) (hb : BindOk x st ps)
    (len : ∀ vs H Q E, sp vs H Q E → vs.length = ps.length)
    (hbody : ∀ (f : Addr) (cdv : Value) (A : Around) (outer : List Env) (s : Shared) (H : Hp) (vs : List V) (Q : VK) (E : XK),
      Room k (A.deeper (envOfC x (defScope st) s.heap.objs.size f cdv)) → sp vs H Q E →
      ∃ t, PSs (cxOf (L2.CX P w) P w K mg base N x (defScope st) f cdv A outer s H E) (defBody st) t ∧ t { nx := fun _ H' => Q .non H', rt := Q } (start N vs) H) :
    CalX P w K mg base (k + 1) x sp := by
  obtain ⟨f, fd, F, hm⟩ := D
  exact ⟨f, fd, ps, F.ok S len (fun cdv A outer s H vs Q E hr h => hbody f cdv A outer s H vs Q E hr h), hm, F.kp, F.bindsN hb⟩
end
section
variable {X : Cx} {k j : Nat} {C : Addr} {x m : Str} {sp : Sp} {W : WX} {p pos apos : Pos} {e o : Expr} {es : List Expr} {ta : TE} {t : TA}
theorem pe_cX (c : CalX X.prog X.w X.K X.mg X.base k x sp) (hr : Room j X.A) (hk : k ≤ j) (hg : Gl X x) (tk : L2.Takes X W) (ha : PA X (e :: es) t)
    (hdb : (x == ("__debug__" : Str)) = false := by decide) (he : starEach (e :: es) X.env = (false, eval e X.env) :: starEach es X.env := by rfl) (hpl : (backTo pos (starEach es X.env)).any (·.1) = false := by rfl) :
    PE X (.Call (.Name x p) (e :: es) [] pos) (tCallS sp (WE W) t) := by
  obtain ⟨f, fd, ps, F, hm, kp, b⟩ := c.ex
  exact pe_callS F (hr.mono hk) hg hm kp b (fun σ => passAt tk σ) ha hdb he hpl
/-- o.m(e, ..), m may raise -/
def tMethS (C : Addr) (m : Str) (sp : Sp) (E : L2.St → XK) (ta : TE) (t : TA) : TE := fun σ H Q => ta σ H fun x H1 => ∃ a dx fs, x = .ref a ∧ H1 a = some (.ins C dx fs) ∧ fs.lookup m = none ∧
  t σ H1 fun vs H2 => sp (x :: vs) H2 Q (E σ)
theorem pe_mX {pl : Sem Bool} (c : MetX X.prog X.w X.K X.mg X.base k C m sp) (hr : Room j X.A) (hk : k ≤ j) (tk : L2.Takes X W) (he : PE X o ta) (ha : PA X (e :: es) t)
    (hst : starEach (e :: es) X.env = (false, eval e X.env) :: starEach es X.env := by rfl) (hpl : (backTo pos (starEach es X.env)).any (·.1) = false := by rfl)
    (ht : eval (.Call (.Attribute o m apos) (e :: es) [] pos) X.env = (do let ov ← eval o X.env; standAt apos.atName; let (f, first) ← holding [ov] (getMethod ov m pl); callWith pos f first (backTo pos (starEach (e :: es) X.env)) (backToKw pos (keywordEach [] X.env))) := by rfl) :
    PE X (.Call (.Attribute o m apos) (e :: es) [] pos) (tMethS C m sp (WE W) ta t) := by
  obtain ⟨f, fd, ps, hc, hm, F, b⟩ := c.ex
  refine ⟨fun pins s σ H Q I h => ?_⟩
  refine PySem.W.methodCall_KW (pl := pl) (thn (he.run pins s σ H _ I h) fun u s1 ⟨y, H1, I1, ry, a, dx, fs, ey, ea, l, q⟩ => ?_) ht
  subst ey
  obtain rfl : u = Value.ref a := ry
  refine getmeth_ok I1 ea hc hm l (PySem.W.callWith_K (first := [.ref a]) (h₀ := X.base) I.ok.mod.kin hm.kp (thn (ha.run pos pins s1 σ H1 _ I1 q) fun us s2 ⟨vs, H2, I2, r, q2⟩ => ⟨I2.kIn, ?_⟩) hst hpl)
  exact run_fnS (us := .ref a :: us) (vs := .ref a :: vs) F (hr.mono hk) b (passAt tk σ) I2 (.cons rfl r) q2
/-- C(e, ..), its __init__ may raise -/
def tMakeS (C : Addr) (sp : Sp) (E : L2.St → XK) (t : TA) : TE := fun σ H Q => t σ H fun vs H1 => ∀ x dx, H1 x = none → H1 dx = none → dx ≠ x →
  sp (.ref x :: vs) (upd (upd H1 dx (.own x)) x (.ins C dx [])) (fun v H2 => v = .non ∧ Q (.ref x) H2) (E σ)
theorem pe_kX (c : MakX X.prog X.w X.K X.mg X.base k x C sp) (hr : Room j X.A) (hk : k + 1 ≤ j) (hg : Gl X x) (tk : L2.Takes X W) (ha : PA X (e :: es) t)
    (hdb : (x == ("__debug__" : Str)) = false := by decide) (he : starEach (e :: es) X.env = (false, eval e X.env) :: starEach es X.env := by rfl) (hpl : (backTo pos (starEach es X.env)).any (·.1) = false := by rfl) :
    PE X (.Call (.Name x p) (e :: es) [] pos) (tMakeS C sp (WE W) t) := by
  obtain ⟨f, fd, ps, M, F, hm, b⟩ := c.ex
  refine ⟨fun pins s σ H Q I h => ?_⟩
  refine wpAny_Call_Name_kw (ld_glob I hg hm ?_ hdb)
  refine PySem.W.callWith_K (h₀ := X.base) I.ok.mod.kin M.kp (thn (ha.run pos pins s σ H _ I h) fun us s1 ⟨vs, H1, I1, r, q⟩ => ⟨I1.kIn, ?_⟩) he hpl
  have hq := q (s1.heap.objs.size + 1) s1.heap.objs.size (I1.hok.fresh (Nat.le_succ _)) (I1.hok.fresh (Nat.le_refl _)) (Nat.ne_of_lt (Nat.lt_succ_self _))
  have I2 := Inv.made (C := C) I1
  have r2 : Vals (V.ref (s1.heap.objs.size + 1) :: vs) (Value.ref (s1.heap.objs.size + 1) :: us) := .cons rfl r
  have hl : (Value.ref (s1.heap.objs.size + 1) :: us).length = ps.length := by
    have z := r2.length
    rw [F.len _ _ _ _ hq] at z
    exact z.symm
  have hb2 := b _ (Value.ref (s1.heap.objs.size + 1) :: us) I2.kIn (by rw [List.append_nil]; exact hl)
  rw [List.append_nil] at hb2
  refine wpAny_call (make_map (f := f) I1.kIn M.makes M.init (beq_iff_eq.mp M.fn) (codeAny_mono (F.run _ X.stack _ _ ⟨Value.ref (s1.heap.objs.size + 1) :: us, []⟩ (Value.ref (s1.heap.objs.size + 1) :: us) _ _ (WE W σ) ((hr.mono hk).make C us [])
    (I2.env0.make C us []) hb2 r2 hq) fun res s' hq' => ?_))
  cases res with
  | error er => exact passAt tk σ pins _ _ er s' I2 hq'
  | ok fl =>
    cases fl with
    | next => exact hq'.elim
    | brk => exact hq'.elim
    | cont => exact hq'.elim
    | ret u =>
      obtain ⟨v, H', I3, rv, ev, q3⟩ := I2.after hq'
      subst ev
      exact ⟨rv, ⟨V.ref (s1.heap.objs.size + 1), H', I3, rfl, q3⟩⟩
end
end VE

set_option Elab.async false
set_option linter.all false
set_option maxRecDepth 100000
set_option maxHeartbeats 4000000
namespace VX
open PySem PySem.Spec PyProof.Rows L2 LamX NdefX VB
/-! a def that may raise, where it does not -/
abbrev calm (sp : Sp) : Sp := fun vs H Q _ => sp vs H Q fun _ _ _ => False
section
variable {P : Program} {w : World} {K : PySem.W.Frag} {mg : Str → Option Value} {base : Heap}
theorem fnCalm {k : Nat} {f : Addr} {fd : FuncData} {ps : List Str} {sp : Sp} (F : FnOk P w K mg base (L2.CX P w) k f fd ps sp) : FnOk P w K mg base CX0 k f fd ps (calm sp) := by
  refine ⟨fun vs H Q E h => F.len _ _ _ _ h, fun A outer s H args us vs Q E hr he hb hv h => codeAny_mono (F.run A outer s H args us vs Q (fun _ _ _ => False) hr he hb hv h) fun r s' q => ?_⟩
  cases r with
  | error e =>
    obtain ⟨_, _, _, _, _, _, _, _, _, _, _, _, z⟩ := q
    exact z.elim
  | ok fl => cases fl <;> exact q
theorem calCalm {k : Nat} {x : Str} {sp : Sp} (c : VE.CalX P w K mg base k x sp) : C8.Cal P w K mg base k x (calm sp) [] := by
  obtain ⟨f, fd, ps, F, hm, kp, b⟩ := c.ex
  exact ⟨f, fd, ps, [], fnCalm F, hm, kp, b, .nil⟩
theorem metCalm {k : Nat} {C : Addr} {m : Str} {sp : Sp} (c : VE.MetX P w K mg base k C m sp) : C8.Met P w K mg base k C m (calm sp) [] := by
  obtain ⟨f, fd, ps, hc, me, F, b⟩ := c.ex
  exact ⟨f, fd, ps, [], hc, me, fnCalm F, b, .nil⟩
theorem makCalm {k : Nat} {C : Addr} {x : Str} {sp : Sp} (c : VE.MakX P w K mg base k x C sp) : C8.Mak P w K mg base k x C (calm sp) [] := by
  obtain ⟨f, fd, ps, M, F, hm, b⟩ := c.ex
  exact ⟨f, fd, ps, [], M, fnCalm F, hm, b, .nil⟩
theorem metImp {k : Nat} {C : Addr} {m : Str} {sp sp' : Sp} {dvs : List V} (c : C8.Met P w K mg base k C m sp dvs) (h : ∀ vs H Q E, sp' vs H Q E → sp vs H Q E) : C8.Met P w K mg base k C m sp' dvs := by
  obtain ⟨f, fd, ps, ds, hc, me, F, r⟩ := c.ex
  exact ⟨f, fd, ps, ds, hc, me, F.imp h, r⟩
theorem makImp {k : Nat} {C : Addr} {x : Str} {sp sp' : Sp} {dvs : List V} (c : C8.Mak P w K mg base k x C sp dvs) (h : ∀ vs H Q E, sp' vs H Q E → sp vs H Q E) : C8.Mak P w K mg base k x C sp' dvs := by
  obtain ⟨f, fd, ps, ds, M, F, r⟩ := c.ex
  exact ⟨f, fd, ps, ds, M, F.imp h, r⟩
theorem metXOf {m qual : Str} {C : Addr} {st : Stmt} {f : Addr} {fd : FuncData} {N ps : List Str} {k : Nat} {sp : Sp} (c : Cls K C) (me : Meth K C m f) (F : FunD K m qual (defArgs st) (defBody st) (defScope st) [] [] f fd) (S : FnScope N ps (defScope st))
    (hb : ∀ (kV doc pm : Value) (an : Option Addr) (cdv ct : Value) (us : List Value), us.length = ps.length → bindArgs (PySem.W.fnOf m qual (defArgs st) (defBody st) (defScope st) .none kV doc pm an cdv ct) ⟨us, []⟩ = pure (ps.zip us))
    (len : ∀ vs H Q E, sp vs H Q E → vs.length = ps.length)
    (hbody : ∀ (cdv : Value) (A : Around) (outer : List Env) (s : Shared) (H : Hp) (vs : List V) (Q : VK) (E : XK),
      Room k (A.deeper (envOfC qual (defScope st) s.heap.objs.size f cdv)) → sp vs H Q E →
      ∃ t, PSs (cxOf (L2.CX P w) P w K mg base N qual (defScope st) f cdv A outer s H E) (defBody st) t ∧ t { nx := fun _ H' => Q .non H', rt := Q } (start N vs) H) :
    VE.MetX P w K mg base (k + 1) C m sp :=
  ⟨f, fd, ps, c, me, F.ok S len (fun cdv A outer s H vs Q E hr h => hbody cdv A outer s H vs Q E hr h), F.bindsN hb⟩
end
section
variable {P : Program} {w : World} {K : PySem.W.Frag} {mg : Str → Option Value} {base : Heap}
theorem metOf {m qual : Str} {C : Addr} {st : Stmt} {f : Addr} {fd : FuncData} {N ps : List Str} {k : Nat} {sp : Sp} (c : Cls K C) (me : Meth K C m f) (F : FunD K m qual (defArgs st) (defBody st) (defScope st) [] [] f fd) (S : FnScope N ps (defScope st))
    (hb : ∀ (kV doc pm : Value) (an : Option Addr) (cdv ct : Value) (us : List Value), us.length = ps.length → bindArgs (PySem.W.fnOf m qual (defArgs st) (defBody st) (defScope st) .none kV doc pm an cdv ct) ⟨us, []⟩ = pure (ps.zip us))
    (len : ∀ vs H Q E, sp vs H Q E → vs.length = ps.length)
    (hbody : ∀ (cdv : Value) (A : Around) (outer : List Env) (s : Shared) (H : Hp) (vs : List V) (Q : VK) (E : XK),
      Room k (A.deeper (envOfC qual (defScope st) s.heap.objs.size f cdv)) → sp vs H Q E →
      ∃ t, PSs (cxOf CX0 P w K mg base N qual (defScope st) f cdv A outer s H E).nox (defBody st) t ∧ t { nx := fun _ H' => Q .non H', rt := Q } (start N vs) H) :
    C8.Met P w K mg base (k + 1) C m sp [] := by
  refine ⟨f, fd, ps, [], c, me, F.ok S len (fun cdv A outer s H vs Q E hr h => ?_), F.bindsN hb, .nil⟩
  obtain ⟨t, a, b⟩ := hbody cdv A outer s H vs Q E hr h
  exact ⟨t, a.nox, b⟩
end
theorem iteMem {p : Prop} [Decidable p] {A B : Prop} (h1 : p → A) (h2 : ¬ p → B) : if (if true = true then !decide p else decide p) = true then B else A := by
  rw [if_pos rfl]
  by_cases h : p
  · rw [decide_eq_true h]; exact iteF (h1 h)
  · rw [decide_eq_false h]; exact iteT (h2 h)
theorem inV_ints (t : Int) (o : List Int) : inV (.int t) (o.map V.int) = decide (t ∈ o) := by
  induction o with
  | nil => rfl
  | cons x o ih =>
    show (eqV (.int x) (.int t) || inV (.int t) (o.map V.int)) = _
    rw [ih]
    show ((x == t) || _) = _
    by_cases h : t = x
    · subst h; simp
    · have h2 : ¬ x = t := fun z => h z.symm
      simp [h, h2]
/-! == of instances by their own __eq__, True or False -/
def spEqB (R : Addr → Addr → Bool → Hp → Prop) : Sp := fun vs H Q _ => ∃ a b r, vs = [.ref a, .ref b] ∧ R a b r H ∧ ∀ H', Ext H H' → Q (.bl r) H'
def rEqI (C : Addr) (R : Addr → Addr → Bool → Hp → Prop) : R2 := fun x y H Q => ∃ (a b dx dy : Addr) (fs gs : List (Str × V)) (r : Bool), x = .ref a ∧ y = .ref b ∧ H a = some (.ins C dx fs) ∧ H b = some (.ins C dy gs) ∧ R a b r H ∧ ∀ H', Ext H H' → Q (.bl r) H'
theorem op_eqI {X : Cx} {n : Nat} {CX : CXT} {C f : Addr} {fd : FuncData} {ps : List Str} {R : Addr → Addr → Bool → Hp → Prop} {E : XK} (F : FnOk X.prog X.w X.K X.mg X.base CX n f fd ps (spEqB R))
    (hs : PySem.W.findIn X.K (.ref C) "__eq__" = some (some (.ref f))) (hf : PySem.W.isFn X.K (.ref f) = true) (hb : Binds X.K fd ps []) (hx : Passes CX X E) (hr : Room n X.A) : OpR X (compareOp .Eq) (rEqI C R) := by
  intro pins s σ H x y v u Q I rx ry hq
  obtain ⟨a, b, dx, dy, fs, gs, r, rfl, rfl, ha, hb', hR, q⟩ := hq
  show wpAny (model X.prog X.w) X.A (richCompare .Eq v u) (EP X pins σ Q) X.xe s
  cases rx
  cases ry
  obtain ⟨mA, J, _⟩ := ins_get I.hok ha
  obtain ⟨mB, J', _⟩ := ins_get I.hok hb'
  obtain ⟨od, J, _⟩ := J.look
  obtain ⟨od', J', _⟩ := J'.look
  obtain ⟨m, hF⟩ := I.fr
  refine PySem.W.cmp_K (op := .Eq) (tb := .ref C) hr.units0 hF I.ok.mod.kin J J'.type (by simp [PySem.W.notFirst]) hs hf ?_
  have hsp : spEqB R [.ref a, .ref b] H (fun v H' => (∃ r, v = .bl r) ∧ Q v H') E := ⟨a, b, r, rfl, hR, fun H' e => ⟨⟨r, rfl⟩, q H' e⟩⟩
  have e0 : Env0 X.prog X.w X.K X.mg X.base X.A X.stack s H := I.env0
  have hl := F.len _ _ _ _ hsp
  have r2 : Vals [V.ref a, V.ref b] [Value.ref a, Value.ref b] := .cons rfl (.cons rfl .nil)
  refine wpAny_call (codeAny_mono (F.run X.A X.stack s H ⟨[.ref a, .ref b], []⟩ [.ref a, .ref b] [.ref a, .ref b] _ E hr e0 (by
    have := hb s [.ref a, .ref b] I.kIn (by simpa using hl)
    simpa using this) r2 hsp) fun r s' hq => ?_)
  cases r with
  | error e => exact hx pins σ H s e s' I hq
  | ok fl =>
    cases fl with
    | ret w =>
      obtain ⟨v, H', I', rv, ⟨r, ev⟩, q'⟩ := I.after hq
      subst ev
      cases rv
      exact ⟨.bl r, H', I', rfl, q'⟩
    | next => exact False.elim hq
    | brk => exact False.elim hq
    | cont => exact False.elim hq
/-- try .. except x, by a name -/
def tTry (K : PySem.W.Frag) (c : Value) (tb : WX → TS) (ts : Addr → Value → Option Addr → TS) (Wout : WX) : TS := fun D σ H => tb (wOnly K c ts Wout D) D σ H
theorem ps_try {X : Cx} {K : PySem.W.Frag} (hK : X.K = K) {x : Str} {c : Value} {body suite : List Stmt} {b₀ : Stmt} {np pos pos' : Pos} {tb : WX → TS} {ts : Addr → Value → Option Addr → TS} {Wout : WX} (hs : X.stack = X.env :: X.outer) (hf : X.env.frame = some X.env.locals) (hc : Names X x c) (tk : L2.Takes X Wout)
    (hb : ∀ (W : WX) (pn : List (Addr × Obj)) (xe : Value → Shared → Prop), L2.Takes (X.tr pn xe) W → PassesOwn (model X.prog X.w) X.A X.env xe → PSs (X.tr pn xe) body (tb W))
    (hsu : ∀ (a : Addr) (oe : Obj) (cls : Value) (d : Option Addr) (pn : List (Addr × Obj)), L2.Zc cls d oe → (∃ vs, oe.data = .fields vs) → PSs (X.suite a ((a, oe) :: pn)) (b₀ :: suite) (ts a cls d)) :
    PS X (.Try body [.ExceptHandler (some (.Name x np)) none (b₀ :: suite) pos'] [] [] pos) (tTry K c tb ts Wout) := by
  subst hK
  exact ps_try_only hs hf hc tk hb hsu
/-! xs[::-1] -/
theorem revL {X : Cx} {K : PySem.W.Frag} (h : X.K = K) {e : Expr} {te : TE} {k : Nat} {p1 p2 p3 pos : Pos} (he : PE X e te) : PE X (.Subscript e (.Slice none none (some (.UnaryOp .USub (.Constant (.int 1) k p1) p2)) p3) pos) (tRevL K te) := by
  subst h
  exact pe_revL he
end VX

set_option Elab.async false
set_option linter.all false
set_option maxRecDepth 100000
set_option maxHeartbeats 4000000
namespace LW
open PySem PySem.Spec PyProof.Rows L2 LamX NdefX VB VM VP VE VX
section
variable {P : Program} {w : World} {K : PySem.W.Frag} {mg : Str → Option Value} {base : Heap}
/-- each number once -/
def spOnceI (K : PySem.W.Frag) : Sp := fun vs H Q _ => ∃ (a : Addr) (ss : List Int), vs = [.ref a] ∧ SqL K H a (ss.map V.int) ∧ ss.length ≤ 100000 ∧
  ∀ (p : Addr), H p = none → Q (.ref p) (upd H p (.lst ((onceG [] ss).map V.int)))
theorem c_onceI (D : Df K mg "_law_once" s__law_once) : C8.Cal P w K mg base 1 "_law_once" (spOnceI K) [] := by
  refine D.cal sc__law_once (fun _ _ _ _ _ _ us hl => match us, hl with | [_], _ => rfl) (fun vs H Q E h => ?_) (fun f cdv A outer s H vs Q E hr h => ?_)
  · obtain ⟨a, ss, rfl, _⟩ := h
    rfl
  obtain ⟨a, ss, rfl, hS, hz, q⟩ := h
  refine ⟨_, (pss_cons (ps_set (i := 1) sc__law_once.nd rfl (Or.inl rfl) (pe_lst pa_nil))
    (pss_cons (ps_for PassesOwn.never rfl (pi_list (pv 0)) (pg_name (i := 2) sc__law_once.nd rfl (Or.inl rfl))
      (pss_one (ps_if (pt_cmpR (VK.notInQ (K := K) rfl) (pv 2) (pv 1) rfl)
        (pss_one (ps_expr (pe_bm PySem.F.plainAttrs_list PySem.F.slot_list_append PySem.F.type_list_append mt_append (pv 1) (pa_cons (pv 2) pa_nil))))
        pss_nil)))
    (pss_one (ps_ret (pv 1))))), ?_⟩
  have zl := sizeLine_eq
  refine ⟨Nat.zero_le _, fun l nl => ?_⟩
  have s0 : ∀ o, Same H (upd H l o) := fun o => same_upd nl o
  refine ⟨_, rfl, a, rfl, ⟨_, (s0 _).seq hS⟩, for_list (K := K) (a := a) (xs := ss.map V.int)
    (fun i σ H' => ∃ (rr : Option V), σ = [some (.ref a), some (.ref l), rr] ∧ H' = upd H l (.lst ((onceG [] (ss.take i)).map V.int)))
    ⟨none, rfl, rfl⟩ (fun i σ H' _ ⟨_, _, e⟩ => by rw [e]; exact (s0 _).seq hS) ?_ ?_⟩
  · rintro i x σ H' hi ⟨rr, rfl, rfl⟩
    have hi2 : i < ss.length := by
      have z := (List.getElem?_eq_some_iff.mp hi).1
      rw [List.length_map] at z
      exact z
    have ex : x = V.int ss[i] := by
      rw [List.getElem?_map, List.getElem?_eq_getElem hi2] at hi
      exact (Option.some.inj hi).symm
    subst ex
    have et : onceG [] (ss.take (i + 1)) = if ss[i] ∈ onceG [] (ss.take i) then onceG [] (ss.take i) else onceG [] (ss.take i) ++ [ss[i]] := by
      rw [List.take_add_one, List.getElem?_eq_getElem hi2]
      exact onceG_snoc _ _ _
    have lim : ((onceG [] (ss.take i)).map V.int).length < sizeLine := by
      rw [List.length_map]
      have z := onceG_len (ss.take i) []
      rw [List.length_take, List.length_nil] at z
      omega
    refine ⟨_, rfl, _, rfl, l, _, rfl, .inl (SqL.of upd_same), rfl, ?_, _, rfl, ?_⟩
    · rw [List.all_eq_true]
      intro v hv
      obtain ⟨x, _, rfl⟩ := List.mem_map.mp hv
      rfl
    · rw [inV_ints]
      refine iteMem (p := ss[i] ∈ onceG [] (ss.take i)) (fun h => ?_) (fun h => ?_)
      · refine ⟨_, rfl, ?_⟩
        rw [et, if_pos h]
      · refine ⟨_, rfl, .inl ⟨rfl, _, SqL.of upd_same⟩, _, rfl, l, _, _, rfl, rfl, upd_same, lim, ?_⟩
        refine ⟨_, rfl, ?_⟩
        rw [upd_upd, et, if_neg h, List.map_append] <;> rfl
  · rintro σ H' ⟨rr, rfl, rfl⟩
    rw [List.length_map, List.take_length]
    exact ⟨_, rfl, q l nl⟩
end
end LW

set_option Elab.async false
set_option linter.all false
set_option maxRecDepth 100000
set_option maxHeartbeats 4000000
namespace LW
open PySem PySem.Spec PyProof.Rows L2 LamX NdefX VB VM VP VE
abbrev s_check_edges : Stmt := top 40
theorem sc_check_edges : FnScope ["count", "edges", "source", "_", "target", "action"] ["count", "edges"] (defScope s_check_edges) := ⟨rfl, rfl, rfl, by decide +kernel, rfl, by decide +kernel, by decide +kernel⟩
section
variable {P : Program} {w : World} {K : PySem.W.Frag} {mg : Str → Option Value} {base : Heap}
/-- an edge that a system of n states may have -/
def okB (n : Int) (e : Ed) : Bool := (decide (0 ≤ e.1) && decide (e.1 < n)) && (decide (0 ≤ e.2.2) && decide (e.2.2 < n)) && isAct e.2.1
def sysOk (n : Int) (L : List Ed) : Bool := decide (1 ≤ n) && decide (n ≤ 20000) && L.all (okB n)
theorem sysOk_bad {n : Int} {L : List Ed} {e : Ed} (h : e ∈ L) (b : okB n e = false) : sysOk n L = false := by
  refine Bool.eq_false_iff.mpr fun z => ?_
  unfold sysOk at z
  have y := List.all_eq_true.mp (Bool.and_eq_true_iff.mp z).2 e h
  rw [b] at y
  cases y
theorem sysOk_num {n : Int} {L : List Ed} (h : ¬ (1 ≤ n ∧ n ≤ 20000)) : sysOk n L = false := by
  refine Bool.eq_false_iff.mpr fun z => ?_
  unfold sysOk at z
  have y := Bool.and_eq_true_iff.mp (Bool.and_eq_true_iff.mp z).1
  exact h ⟨of_decide_eq_true y.1, of_decide_eq_true y.2⟩
theorem okB_range {n : Int} {e : Ed} (h : ¬ (0 ≤ e.1 ∧ e.1 < n ∧ 0 ≤ e.2.2 ∧ e.2.2 < n)) : okB n e = false := by
  refine Bool.eq_false_iff.mpr fun z => h ?_
  unfold okB at z
  simp only [Bool.and_eq_true, decide_eq_true_eq] at z
  exact ⟨z.1.1.1, z.1.1.2, z.1.2.1, z.1.2.2⟩
theorem okB_act {n : Int} {e : Ed} (h : isAct e.2.1 = false) : okB n e = false := by
  unfold okB
  rw [h, Bool.and_false]
theorem okB_all {n : Int} {e : Ed} (h : 0 ≤ e.1 ∧ e.1 < n ∧ 0 ≤ e.2.2 ∧ e.2.2 < n) (a : isAct e.2.1 = true) : okB n e = true := by
  unfold okB
  rw [a, decide_eq_true h.1, decide_eq_true h.2.1, decide_eq_true h.2.2.1, decide_eq_true h.2.2.2] <;> rfl
def spCheckX (K : PySem.W.Frag) (CS : Addr) : Sp := fun vs H Q E => ∃ (n : Int) (l : Addr) (L : List (Addr × Ed)), vs = [.int n, .ref l] ∧ SqL K H l (refs L) ∧ Eds K H L ∧ L.length ≤ 1000 ∧ (∀ p ∈ L, p.2.2.1.length ≤ 1000) ∧
  (sysOk n (L.map (·.2)) = true → ∀ H', Same H H' → Q .non H') ∧ (sysOk n (L.map (·.2)) = false → ∀ H', Same H H' → E (.ref CS) none H')
theorem c_checkX {CS : Addr} (D : Df K mg "check_edges" s_check_edges) (z_sorted : mg "sorted" = none) (z_set : mg "set" = none) (g_MOST_STATES : ∃ u, mg "MOST_STATES" = some u ∧ RelV (.int 20000) u) (e_BadSystem : VE.Own K mg "BadSystem" CS)
    (c_is_action : C8.Cal P w K mg base 3 "is_action" (spTest isAct) []) : VE.CalX P w K mg base 4 "check_edges" (spCheckX K CS) := by
  refine VE.calX D sc_check_edges (fun _ _ _ _ _ _ us hl => match us, hl with | [_, _], _ => rfl) (fun vs H Q E h => ?_) (fun f cdv A outer s H vs Q E hr h => ?_)
  · obtain ⟨n, l, L, rfl, _⟩ := h
    rfl
  obtain ⟨n, l, L, rfl, hS, hE, len, lens, q, qe⟩ := h
  refine ⟨_, (pss_cons (ps_if (pt_not (pt_chain op_le op_le pe_int (pv 0) (C8.pe_gc rfl g_MOST_STATES)))
      (pss_one (ps_raise rfl (takes_of rfl rfl rfl rfl) (pmk_own PySem.F.excBase_ValueError e_BadSystem.xP e_BadSystem.at_ e_BadSystem.kP (raises_own e_BadSystem.bP e_BadSystem.tP) rfl)))
      pss_nil)
    (pss_cons (ps_for (passes_of rfl) rfl (pi_list (pv 1)) (pg_tup rfl (pgs_cons (pg_name (i := 2) sc_check_edges.nd rfl (Or.inl rfl)) (pgs_cons (pg_name (i := 3) sc_check_edges.nd rfl (Or.inl rfl)) (pgs_cons (pg_name (i := 4) sc_check_edges.nd rfl (Or.inl rfl)) pgs_nil))))
      (pss_one (ps_if (pt_not (PW.pt (pw_and (pt_chain op_le op_lt pe_int (pv 2) (pv 0)) (pw_and1 (pt_chain op_le op_lt pe_int (pv 4) (pv 0))))))
        (pss_one (ps_raise rfl (takes_of rfl rfl rfl rfl) (pmk_own PySem.F.excBase_ValueError e_BadSystem.xP e_BadSystem.at_ e_BadSystem.kP (raises_own e_BadSystem.bP e_BadSystem.tP) rfl)))
        pss_nil)))
    (pss_one (ps_for (passes_of rfl) rfl (pi_list (pe_callB (VK.sortedM (w := w) rfl rfl hr) (by rfl) z_sorted (by decide +kernel) (pa_cons (pe_callTy (VO.cr_setS (K := K) (w := w) rfl rfl rfl (VP.un3 hr)) (by rfl) z_set (by decide +kernel) (pa_cons (pe_lc (own := [("_", 3), ("action", 5)]) (g := gTup K 3 (gCons (gName 3) (gCons (gName 5) (gCons (gName 3) gNil)))) (tt := tYes) rfl sc_check_edges.nd (pi_list (pv 1)) (blkOk_by (N := ["count", "edges", "source", "_", "target", "action"]) (sc := defScope s_check_edges) (by decide +kernel)) (fun _ _ _ _ _ => (pg_tup rfl (pgs_cons (pg_name (i := 3) sc_check_edges.nd rfl (Or.inl rfl) (hf := Or.inr rfl)) (pgs_cons (pg_name (i := 5) sc_check_edges.nd rfl (Or.inl rfl) (hf := Or.inr rfl)) (pgs_cons (pg_name (i := 3) sc_check_edges.nd rfl (Or.inl rfl) (hf := Or.inr rfl)) pgs_nil))))) (fun _ _ _ _ _ => pts_nil) (fun _ _ _ _ _ => (pv 5))) pa_nil)) pa_nil))) (pg_name (i := 5) sc_check_edges.nd rfl (Or.inl rfl))
      (pss_one (ps_if (pt_not (pt_val (C8.pe_c c_is_action hr (by first | decide | omega) rfl (pa_cons (pv 5) pa_nil))))
        (pss_one (ps_raise rfl (takes_of rfl rfl rfl rfl) (pmk_own PySem.F.excBase_ValueError e_BadSystem.xP e_BadSystem.at_ e_BadSystem.kP (raises_own e_BadSystem.bP e_BadSystem.tP) rfl)))
        pss_nil)))))), ?_⟩
  have zl := sizeLine_eq
  refine ⟨_, rfl, _, _, rfl, rfl, _, rfl, ?_⟩
  by_cases c1 : 1 ≤ n
  case neg => exact iteFe (decide_eq_false c1) ⟨_, rfl, iteT (qe (sysOk_num fun z => c1 z.1) H (Same.refl H))⟩
  refine iteTe (decide_eq_true c1) ⟨_, _, rfl, rfl, _, rfl, ?_⟩
  by_cases c2 : n ≤ 20000
  case neg => exact iteTe (by rw [decide_eq_false c2] <;> rfl) (qe (sysOk_num fun z => c2 z.2) H (Same.refl H))
  refine iteNT c2 ?_
  refine ⟨_, rfl, l, rfl, ⟨_, hS⟩, for_list (K := K) (a := l) (xs := refs L)
    (fun i σ H' => H' = H ∧ (∀ (j : Nat) (p : Addr × Ed), j < i → L[j]? = some p → 0 ≤ p.2.1 ∧ p.2.1 < n ∧ 0 ≤ p.2.2.2 ∧ p.2.2.2 < n) ∧ ∃ (r2 r3 r4 : Option V), σ = [some (.int n), some (.ref l), r2, r3, r4, none])
    ⟨rfl, fun j p z => absurd z (Nat.not_lt_zero j), none, none, none, rfl⟩ (fun i σ H' _ z => by rw [z.1]; exact hS) ?_ ?_⟩
  · rintro i v σ H' hv ⟨rfl, inv, r2, r3, r4, rfl⟩
    obtain ⟨p, hp, rfl⟩ := refs_at hv
    have pin := List.mem_of_getElem? hp
    have bad : ¬ (0 ≤ p.2.1 ∧ p.2.1 < n ∧ 0 ≤ p.2.2.2 ∧ p.2.2.2 < n) → E (.ref CS) none H' := fun z => qe (sysOk_bad (List.mem_map_of_mem pin) (okB_range z)) H' (Same.refl H')
    refine ⟨p.1, _, rfl, hE p pin, rfl, .int p.2.1, _, rfl, .str p.2.2.1, _, rfl, .int p.2.2.2, _, rfl, rfl, ?_⟩
    refine ⟨_, rfl, _, _, rfl, rfl, _, rfl, ?_⟩
    by_cases o1 : 0 ≤ p.2.1
    case neg => exact iteFe (decide_eq_false o1) ⟨_, rfl, iteF (iteT (bad fun z => o1 z.1))⟩
    refine iteTe (decide_eq_true o1) ⟨_, rfl, _, _, rfl, rfl, _, rfl, ?_⟩
    by_cases o2 : p.2.1 < n
    case neg => exact iteFe (decide_eq_false o2) (iteT (bad fun z => o2 z.2.1))
    refine iteTe (decide_eq_true o2) ?_
    refine ⟨_, rfl, _, _, rfl, rfl, _, rfl, ?_⟩
    by_cases o3 : 0 ≤ p.2.2.2
    case neg => exact iteFe (decide_eq_false o3) ⟨_, rfl, iteT (bad fun z => o3 z.2.2.1)⟩
    refine iteTe (decide_eq_true o3) ⟨_, rfl, _, _, rfl, rfl, _, rfl, ?_⟩
    by_cases o4 : p.2.2.2 < n
    case neg => exact iteTe (by rw [decide_eq_false o4] <;> rfl) (bad fun z => o4 z.2.2.2)
    refine iteNT o4 ⟨rfl, fun j p' hj hp' => ?_, _, _, _, rfl⟩
    rcases Nat.lt_succ_iff_lt_or_eq.mp hj with z | z
    · exact inv j p' z hp'
    · rw [z, hp] at hp'
      cases hp'
      exact ⟨o1, o2, o3, o4⟩
  · rintro σ H' ⟨rfl, inv, r2, r3, r4, rfl⟩
    rw [refs_len] at inv
    have rng : ∀ p ∈ L, 0 ≤ p.2.1 ∧ p.2.1 < n ∧ 0 ≤ p.2.2.2 ∧ p.2.2.2 < n := fun p hp => by
      obtain ⟨j, hj, e⟩ := List.getElem_of_mem hp
      exact inv j p hj (by rw [List.getElem?_eq_getElem hj, e])
    refine ⟨_, rfl, l, rfl, ⟨_, hS⟩, fun D1 nD => ?_⟩
    refine lc_list (K := K) (a := l) (xs := refs L) (fun i H2 => Same H' H2 ∧ H2 D1 = some (.lst (((L.map fun p => p.2.2.1).take i).map V.str))) ⟨same_upd nD _, upd_same⟩ (fun i H2 _ z => z.1.seq hS) ?_ ?_
    · rintro i v H2 hv ⟨s2, hD⟩
      obtain ⟨p, hp, rfl⟩ := refs_at hv
      have pin := List.mem_of_getElem? hp
      have hE2 := hE.kp (Kp.of s2)
      refine ⟨p.1, _, rfl, hE2 p pin, rfl, .int p.2.1, _, rfl, .str p.2.2.1, _, rfl, .int p.2.2.2, _, rfl, rfl, rfl, ?_⟩
      unfold tYes
      refine iteT ⟨_, rfl, _, hD, ?_, sameIn s2 nD, ?_⟩
      · rw [List.length_map, List.length_take, List.length_map]; omega
      · rw [upd_same, List.take_succ, List.getElem?_map, hp, List.map_append] <;> rfl
    · rintro H2 ⟨s2, hD⟩
      rw [refs_len, List.take_of_length_le (by rw [List.length_map]; exact Nat.le_refl _)] at hD
      refine ⟨D1, _, rfl, SqL.of hD, (by rw [List.length_map]; show L.length + 1 < 4096; omega), fun a S m na mem lm => ?_⟩
      have s3 := same_upd na (VS.SetMO w a S m)
      refine ⟨a, S, m, rfl, upd_same, fun k hk => ?_, fun ss b nd ms ls nb => ?_⟩
      · obtain ⟨x, _, e⟩ := (mem k).1 hk
        exact ⟨x, e⟩
      have s4 := same_upd nb (.lst ((ss.mergeSort VS.leS).map V.str))
      refine ⟨b, rfl, ⟨_, SqL.of upd_same⟩, for_list (K := K) (a := b) (xs := (ss.mergeSort VS.leS).map V.str)
        (fun i σ H3 => Same H' H3 ∧ H3 b = some (.lst ((ss.mergeSort VS.leS).map V.str)) ∧ (∀ (j : Nat) (x : Str), j < i → (ss.mergeSort VS.leS)[j]? = some x → isAct x = true) ∧ ∃ (r5 : Option V), σ = [some (.int n), some (.ref l), r2, r3, r4, r5])
        ⟨(s2.trans s3).trans s4, upd_same, fun j x z => absurd z (Nat.not_lt_zero j), none, rfl⟩ (fun i σ H3 _ z => SqL.of z.2.1) ?_ ?_⟩
      · rintro i v σ H3 hv ⟨s5, hb, inv5, r5, rfl⟩
        rw [List.getElem?_map] at hv
        obtain ⟨x, hx, rfl⟩ := Option.map_eq_some_iff.mp hv
        have xin : x ∈ ss := List.mem_mergeSort.mp (List.mem_of_getElem? hx)
        obtain ⟨y, hy, e⟩ := (mem _).1 ((ms x).1 xin)
        cases e
        obtain ⟨p, pin, rfl⟩ := List.mem_map.mp hy
        refine ⟨_, rfl, _, rfl, lens p pin, fun H4 s6 => ⟨isAct p.2.2.1, rfl, ?_⟩⟩
        show (if (!isAct p.2.2.1) = true then _ else _)
        cases ca : isAct p.2.2.1 with
        | true =>
          refine iteF ⟨s5.trans s6, s6 _ _ hb, fun j x hj hxj => ?_, _, rfl⟩
          rcases Nat.lt_succ_iff_lt_or_eq.mp hj with z | z
          · exact inv5 j x z hxj
          · rw [z, hx] at hxj
            cases hxj
            exact ca
        | false => exact iteT (qe (sysOk_bad (List.mem_map_of_mem pin) (okB_act ca)) H4 (s5.trans s6))
      · rintro σ H3 ⟨s5, _, inv5, r5, rfl⟩
        refine q ?_ H3 s5
        unfold sysOk
        rw [decide_eq_true c1, decide_eq_true c2]
        show (L.map (·.2)).all (okB n) = true
        refine List.all_eq_true.mpr fun e he => ?_
        obtain ⟨p, pin, rfl⟩ := List.mem_map.mp he
        refine okB_all (rng p pin) ?_
        have xin : p.2.2.1 ∈ ss.mergeSort VS.leS := List.mem_mergeSort.mpr ((ms _).2 ((mem _).2 ⟨p.2.2.1, List.mem_map.mpr ⟨p, pin, rfl⟩, rfl⟩))
        obtain ⟨j, hj, ej⟩ := List.getElem_of_mem xin
        refine inv5 j _ ?_ (by rw [List.getElem?_eq_getElem hj, ej])
        rw [List.length_map]
        exact hj
end
end LW

set_option Elab.async false
set_option linter.all false
set_option maxRecDepth 100000
set_option maxHeartbeats 4000000
namespace LW
open PySem PySem.Spec PyProof.Rows L2 LamX NdefX VB VM VP VE
abbrev s_System___init__ : Stmt := inClass (top 39) 0
theorem sc_System___init__ : FnScope ["self", "count", "edges", "_", "source", "action", "target"] ["self", "count", "edges"] (defScope s_System___init__) := ⟨rfl, rfl, rfl, by decide +kernel, rfl, by decide +kernel, by decide +kernel⟩
section
variable {P : Program} {w : World} {K : PySem.W.Frag} {mg : Str → Option Value} {base : Heap}
/-- the class as the top has made it -/
structure SysTxt (K : PySem.W.Frag) (C : Addr) : Prop where
  cl : Cls K C
  n0 : NoAttr K C "count"
  n1 : NoAttr K C "edges"
  n2 : NoAttr K C "_leaving"
  n3 : NoAttr K C "_targets"
abbrev fl1 (n : Int) : List (Str × V) := putF "count" (.int n) []
abbrev fl2 (n : Int) (te : Addr) : List (Str × V) := putF "edges" (.ref te) (fl1 n)
abbrev fl3 (n : Int) (te ll : Addr) : List (Str × V) := putF "_leaving" (.ref ll) (fl2 n te)
abbrev fl4 (n : Int) (te ll td : Addr) : List (Str × V) := putF "_targets" (.ref td) (fl3 n te ll)
theorem fl_len (n : Int) (te ll : Addr) : (fl1 n).length < 1000 ∧ (fl2 n te).length < 1000 ∧ (fl3 n te ll).length < 1000 := by
  have a : (fl1 n).length ≤ 1 := length_putF _ _ []
  have b : (fl2 n te).length ≤ (fl1 n).length + 1 := length_putF _ _ _
  have c : (fl3 n te ll).length ≤ (fl2 n te).length + 1 := length_putF _ _ _
  omega
theorem fl_count (n : Int) (te ll td : Addr) : (fl4 n te ll td).lookup ("count" : Str) = some (.int n) := by
  unfold fl4 fl3 fl2 fl1
  rw [lookup_putF, if_neg (by decide +kernel), lookup_putF, if_neg (by decide +kernel), lookup_putF, if_neg (by decide +kernel), lookup_putF, if_pos rfl]
theorem fl_edges (n : Int) (te ll td : Addr) : (fl4 n te ll td).lookup ("edges" : Str) = some (.ref te) := by
  unfold fl4 fl3 fl2
  rw [lookup_putF, if_neg (by decide +kernel), lookup_putF, if_neg (by decide +kernel), lookup_putF, if_pos rfl]
theorem fl_leav (n : Int) (te ll td : Addr) : (fl4 n te ll td).lookup ("_leaving" : Str) = some (.ref ll) := by
  unfold fl4 fl3
  rw [lookup_putF, if_neg (by decide +kernel), lookup_putF, if_pos rfl]
theorem fl_targ (n : Int) (te ll td : Addr) : (fl4 n te ll td).lookup ("_targets" : Str) = some (.ref td) := by
  unfold fl4
  rw [lookup_putF, if_pos rfl]
theorem fl_none (n : Int) (te ll td : Addr) {m : Str} (h0 : ¬ m = "count") (h1 : ¬ m = "edges") (h2 : ¬ m = "_leaving") (h3 : ¬ m = "_targets") : (fl4 n te ll td).lookup m = none := by
  unfold fl4 fl3 fl2 fl1
  rw [lookup_putF, if_neg h3, lookup_putF, if_neg h2, lookup_putF, if_neg h1, lookup_putF, if_neg h0] <;> rfl
/-- the states to which the edges with an action lead -/
def tg (E : List Ed) (s : Int) (x : Str) : List Int := (E.filter fun e => decide (e.1 = s ∧ e.2.1 = x)).map (·.2.2)
theorem tg_snoc (E : List Ed) (e : Ed) (s : Int) (x : Str) : tg (E ++ [e]) s x = if e.1 = s ∧ e.2.1 = x then tg E s x ++ [e.2.2] else tg E s x := by
  unfold tg
  rw [List.filter_append, List.map_append]
  by_cases h : e.1 = s ∧ e.2.1 = x
  · rw [if_pos h, List.filter_cons, if_pos (decide_eq_true h), List.filter_nil] <;> rfl
  · rw [if_neg h, List.filter_cons, if_neg (by rw [decide_eq_true_eq]; exact h), List.filter_nil, List.map_nil, List.append_nil]
abbrev kT (s : Int) (x : Str) : List Key := [.inl s, .inr x]
/-- the dict of targets; φ: what more is known of a list's address -/
structure Tab (H : Hp) (td : Addr) (E : List Ed) (kvs : List (List Key × V)) (φ : Addr → Prop) : Prop where
  at_ : H td = some (.dT kvs)
  some_ : ∀ k v, valV kvs k = some v → ∃ (b : Addr) (s : Int) (x : Str), k = kT s x ∧ v = .ref b ∧ H b = some (.lst ((tg E s x).map V.int)) ∧ tg E s x ≠ [] ∧ φ b
  none_ : ∀ s x, valV kvs (kT s x) = none → tg E s x = []
  inj : ∀ k k' v, valV kvs k = some v → valV kvs k' = some v → k = k'
theorem Tab.mono {H H' : Hp} {td : Addr} {E : List Ed} {kvs : List (List Key × V)} {φ ψ : Addr → Prop} (T : Tab H td E kvs φ) (hd : H' td = some (.dT kvs)) (hl : ∀ b xs, H b = some (.lst xs) → φ b → H' b = some (.lst xs) ∧ ψ b) : Tab H' td E kvs ψ :=
  ⟨hd, fun k v h => by
    obtain ⟨b, s, x, e1, e2, e3, e4, e5⟩ := T.some_ k v h
    obtain ⟨g1, g2⟩ := hl b _ e3 e5
    exact ⟨b, s, x, e1, e2, g1, e4, g2⟩, T.none_, T.inj⟩
/-- the parts of a System of n states and the edges E at p; φ: what more is known of its lists' addresses -/
structure SysIn (K : PySem.W.Frag) (φ : Addr → Prop) (C : Addr) (H : Hp) (p : Addr) (n : Int) (E : List Ed) (dx te ll td : Addr) (LE : List (Addr × Ed)) (rows : List Addr) (kvs : List (List Key × V)) : Prop where
  hp : H p = some (.ins C dx (fl4 n te ll td))
  ht : H te = some (.tup (refs LE))
  hE : Eds K H LE
  eE : LE.map (·.2) = E
  hl : H ll = some (.lst (rows.map V.ref))
  len : (rows.length : Int) = n
  row : ∀ (j : Nat) (a : Addr), rows[j]? = some a → φ a ∧ ∃ LP : List (Addr × Pr), H a = some (.lst (refs LP)) ∧ Pqs K H LP ∧ LP.map (·.2) = leav E ((j : Nat) : Int)
  tab : Tab H td E kvs φ
  fl : φ ll
structure SysAt (K : PySem.W.Frag) (φ : Addr → Prop) (C : Addr) (H : Hp) (p : Addr) (n : Int) (E : List Ed) : Prop where
  ex : ∃ (dx te ll td : Addr) (LE : List (Addr × Ed)) (rows : List Addr) (kvs : List (List Key × V)), SysIn K φ C H p n E dx te ll td LE rows kvs
  asc : E.Pairwise ltE
  ok : ∀ e ∈ E, okE n e
/-- the System stays where its objects stay -/
theorem SysAt.stay {φ ψ : Addr → Prop} {C p : Addr} {H H' : Hp} {n : Int} {E : List Ed} (S : SysAt K φ C H p n E) (k : Kp H H') (hi : ∀ b c d fs, H b = some (.ins c d fs) → H' b = H b) (hd : ∀ b kvs, H b = some (.dT kvs) → H' b = H b)
    (hl : ∀ b xs, H b = some (.lst xs) → φ b → H' b = H b ∧ ψ b) : SysAt K ψ C H' p n E := by
  obtain ⟨⟨dx, te, ll, td, LE, rows, kvs, S⟩, a, o⟩ := S
  refine ⟨⟨dx, te, ll, td, LE, rows, kvs, (hi _ _ _ _ S.hp).trans S.hp, k.tup _ _ S.ht, S.hE.kp k, S.eE, (hl _ _ S.hl S.fl).1.trans S.hl, S.len, fun j x hj => ?_, S.tab.mono ((hd _ _ S.tab.at_).trans S.tab.at_) fun b xs h z => ⟨(hl _ _ h z).1.trans h, (hl _ _ h z).2⟩, (hl _ _ S.hl S.fl).2⟩, a, o⟩
  obtain ⟨f, LP, g1, g2, g3⟩ := S.row j x hj
  exact ⟨(hl _ _ g1 f).2, LP, (hl _ _ g1 f).1.trans g1, g2.kp k, g3⟩
theorem SysAt.same {φ : Addr → Prop} {C p : Addr} {H H' : Hp} {n : Int} {E : List Ed} (S : SysAt K φ C H p n E) (s : Same H H') : SysAt K φ C H' p n E :=
  S.stay (Kp.of s) (fun b c d fs h => (s _ _ h).trans h.symm) (fun b kvs h => (s _ _ h).trans h.symm) fun b xs h z => ⟨(s _ _ h).trans h.symm, z⟩
theorem SysAt.weak {φ ψ : Addr → Prop} {C p : Addr} {H : Hp} {n : Int} {E : List Ed} (S : SysAt K φ C H p n E) (h : ∀ a, φ a → ψ a) : SysAt K ψ C H p n E :=
  S.stay (Kp.refl H) (fun _ _ _ _ _ => rfl) (fun _ _ _ => rfl) fun b xs _ z => ⟨rfl, h b z⟩
/-- a list that is none of the System's changes -/
theorem SysAt.updL {φ : Addr → Prop} {C p g : Addr} {H : Hp} {n : Int} {E : List Ed} {ys : List V} (S : SysAt K φ C H p n E) (hg : H g = some (.lst ys)) (ng : ¬ φ g) (zs : List V) : SysAt K φ C (upd H g (.lst zs)) p n E :=
  S.stay (Kp.updL hg _) (fun b c d fs h => by rw [upd_ne (ne_of h hg (fun z => nomatch z))]) (fun b kvs h => by rw [upd_ne (ne_of h hg (fun z => nomatch z))]) fun b xs h z => ⟨by rw [upd_ne (show b ≠ g from fun e => ng (by rw [← e]; exact z))], z⟩
theorem but_seq {p a C dx : Addr} {fs : List (Str × V)} {H H' : Hp} {xs : List V} (x : But p H H') (hp : H p = some (.ins C dx fs)) (h : SqL K H a xs) : SqL K H' a xs := by
  rcases h with (h | ⟨o, h⟩) | h
  · exact .inl (.inl (x a _ (ne_of h hp (fun z => nomatch z)) h))
  · exact .inl (.inr ⟨o, x a _ (ne_of h hp (fun z => nomatch z)) h⟩)
  · exact .inr h
theorem but_kp {p C dx : Addr} {fs : List (Str × V)} {H H' : Hp} (x : But p H H') (hp : H p = some (.ins C dx fs)) : Kp H H' :=
  ⟨fun b xs q => x b _ (ne_of q hp (fun z => nomatch z)) q, fun b o u q => x b _ (ne_of q hp (fun z => nomatch z)) q⟩
theorem but_new {p a : Addr} {H H' : Hp} {o : HO} (x : But p H H') (h : H' a = none) : But p H (upd H' a o) := fun b u n e => by
  have z := x b u n e
  rw [upd_ne (ne_of_none z h)]
  exact z
theorem but_own {p : Addr} {H H' : Hp} (x : But p H H') (o : HO) : But p H (upd H' p o) := x.trans (But.upd o)
/-- the pairs of a set of edges, sorted -/
def lePE (a b : Addr × Ed) : Bool := !decide (ltE b.2 a.2)
theorem sorted_eds {M : List (Addr × List Key)} {L : List (Addr × Ed)} (sub : ∀ q ∈ M, q ∈ L.map fun p => (p.1, edK p.2)) (all : ∀ p ∈ L, edK p.2 ∈ M.map (·.2)) (nd : (M.map (·.2)).Nodup) :
    ∃ LE : List (Addr × Ed), M.mergeSort VT.leK = LE.map (fun p => (p.1, edK p.2)) ∧ (∀ p ∈ LE, p ∈ L) ∧ (LE.map (·.2)).Pairwise ltE ∧ ∀ e, e ∈ LE.map (·.2) ↔ e ∈ L.map (·.2) := by
  have inj : ∀ a b : Ed, edK a = edK b → a = b := fun a b e => by
    unfold edK at e
    injection e with e1 e2
    injection e2 with e2 e3
    injection e3 with e3 _
    exact Prod.ext (Sum.inl.inj e1) (Prod.ext (Sum.inr.inj e2) (Sum.inl.inj e3))
  obtain ⟨L3, e3, s3⟩ : ∃ L3 : List (Addr × Ed), M = L3.map (fun p => (p.1, edK p.2)) ∧ ∀ p ∈ L3, p ∈ L := by
    clear all nd
    induction M with
    | nil => exact ⟨[], rfl, fun p z => absurd z List.not_mem_nil⟩
    | cons q M ih =>
      obtain ⟨L3, e, s⟩ := ih fun x hx => sub x (List.mem_cons_of_mem _ hx)
      obtain ⟨p, hp, rfl⟩ := List.mem_map.mp (sub q List.mem_cons_self)
      refine ⟨p :: L3, by rw [List.map_cons, e], fun x hx => ?_⟩
      rcases List.mem_cons.mp hx with rfl | z
      · exact hp
      · exact s x z
  have nd3 : (L3.map (·.2)).Nodup := by
    have z : ((L3.map (·.2)).map edK).Nodup := by
      rw [List.map_map]
      rw [e3, List.map_map] at nd
      exact nd
    exact List.Pairwise.of_map _ (fun a b hab e => hab (congrArg edK e)) z
  have leq : ∀ a b : Addr × Ed, lePE a b = VT.leK (a.1, edK a.2) (b.1, edK b.2) := fun a b => by
    show _ = !PySem.W.dataLt (edD b.2) (edD a.2)
    rw [dataLt_ed]
    rfl
  refine ⟨L3.mergeSort lePE, ?_, fun p hp => s3 p (List.mem_mergeSort.mp hp), ?_, fun e => ?_⟩
  · rw [e3]
    exact (List.map_mergeSort fun a _ b _ => leq a b).symm
  · have z : (L3.mergeSort lePE).map (·.2) = (L3.map (·.2)).mergeSort fun a b => !decide (ltE b a) := List.map_mergeSort fun a _ b _ => rfl
    rw [z]
    exact asc_of_sorted (fun a b h g => ltE_tri h g) (fun a b => rfl) (fun a b c => ltE_trans) ltE_irrefl nd3
  · rw [List.mem_map]
    constructor
    · rintro ⟨p, hp, rfl⟩
      exact List.mem_map_of_mem (s3 p (List.mem_mergeSort.mp hp))
    · intro h
      obtain ⟨p, hp, rfl⟩ := List.mem_map.mp h
      obtain ⟨q, hq, eq⟩ := List.mem_map.mp (all p hp)
      rw [e3] at hq
      obtain ⟨r, hr, rfl⟩ := List.mem_map.mp hq
      exact ⟨r, List.mem_mergeSort.mpr hr, inj _ _ eq⟩
/-- the loop of the constructor: i edges in the rows, j in the dict -/
structure Lp (K : PySem.W.Frag) (H : Hp) (p C dx te ll td : Addr) (n : Int) (LE : List (Addr × Ed)) (rows : List Addr) (i j : Nat) (H' : Hp) : Prop where
  but : But p H H'
  hp : H' p = some (.ins C dx (fl4 n te ll td))
  ht : H' te = some (.tup (refs LE))
  hE : Eds K H' LE
  hl : H' ll = some (.lst (rows.map V.ref))
  rw : ∀ (s : Nat) (a : Addr), rows[s]? = some a → ∃ LP : List (Addr × Pr), H' a = some (.lst (refs LP)) ∧ Pqs K H' LP ∧ LP.map (·.2) = leav ((LE.map (·.2)).take i) ((s : Nat) : Int) ∧ LP.length ≤ i
  hd : ∃ kvs : List (List Key × V), kvs.length ≤ j ∧ Tab H' td ((LE.map (·.2)).take j) kvs fun b => H b = none ∧ b ∉ rows ∧ b ≠ ll
section
variable {H H' H2 : Hp} {p C dx te ll td : Addr} {n : Int} {LE : List (Addr × Ed)} {rows : List Addr} {i j : Nat}
theorem Lp.same (L : Lp K H p C dx te ll td n LE rows i j H') (s : Same H' H2) : Lp K H p C dx te ll td n LE rows i j H2 := by
  refine ⟨L.but.trans (But.of s), s _ _ L.hp, s _ _ L.ht, L.hE.kp (Kp.of s), s _ _ L.hl, fun x a h => ?_, ?_⟩
  · obtain ⟨LP, h1, h2, h3⟩ := L.rw x a h
    exact ⟨LP, s _ _ h1, h2.kp (Kp.of s), h3⟩
  · obtain ⟨kvs, h1, h2⟩ := L.hd
    exact ⟨kvs, h1, h2.mono (s _ _ h2.at_) fun b xs h z => ⟨s _ _ h, z⟩⟩
theorem nin_ne {rows : List Addr} {x : Nat} {a b : Addr} (h : b ∉ rows) (g : rows[x]? = some a) : a ≠ b := fun z => h (by rw [← z]; exact List.mem_of_getElem? g)
theorem but_hide {a : Addr} {o : HO} (x : But p H H') (h : H a = none) : But p H (upd H' a o) := fun b u nb e => by
  rw [upd_ne (ne_of_none e h)]
  exact x b u nb e
/-- one more pair in a row -/
theorem Lp.row (L : Lp K H p C dx te ll td n LE rows i j H') (ndr : rows.Nodup) (fr : ∀ a ∈ rows, H a = none) (llr : ll ∉ rows) {e : Addr × Ed} (he : LE[i]? = some e) {s : Nat} (hs : e.2.1 = ((s : Nat) : Int)) {a : Addr} (ha : rows[s]? = some a)
    {LP : List (Addr × Pr)} (h1 : H' a = some (.lst (refs LP))) (h2 : Pqs K H' LP) (h3 : LP.map (·.2) = leav ((LE.map (·.2)).take i) ((s : Nat) : Int)) (h4 : LP.length ≤ i) {q : Addr} (hq : H' q = some (.tup (pqV e.2.2))) :
    Lp K H p C dx te ll td n LE rows (i + 1) j (upd H' a (.lst (refs LP ++ [.ref q]))) := by
  have ain := List.mem_of_getElem? ha
  have k := Kp.updL h1 (.lst (refs LP ++ [.ref q]))
  have pa : p ≠ a := ne_of L.hp h1 (fun z => nomatch z)
  have ta : te ≠ a := ne_of L.ht h1 (fun z => nomatch z)
  have la : ll ≠ a := fun z => llr (z ▸ ain)
  have tk : (LE.map (·.2)).take (i + 1) = (LE.map (·.2)).take i ++ [e.2] := by rw [List.take_succ, List.getElem?_map, he] <;> rfl
  refine ⟨but_hide L.but (fr a ain), by rw [upd_ne pa]; exact L.hp, by rw [upd_ne ta]; exact L.ht, L.hE.kp k, by rw [upd_ne la]; exact L.hl, fun x b hb => ?_, ?_⟩
  · by_cases hx : x = s
    · subst hx
      obtain rfl : b = a := Option.some.inj (hb.symm.trans ha)
      refine ⟨LP ++ [(q, e.2.2)], by rw [upd_same, refs_snoc], fun y hy => ?_, ?_, by rw [List.length_append, List.length_singleton]; omega⟩
      · rcases List.mem_append.mp hy with z | z
        · exact (h2.kp k) y z
        · rw [List.mem_singleton.mp z]
          exact k.sqT (.inl (.inl hq))
      · rw [tk, leav_snoc, if_pos hs, List.map_append, h3] <;> rfl
    · have nb : b ≠ a := fun z => hx ((List.getElem?_inj (List.getElem?_eq_some_iff.mp hb).1 ndr).mp (by rw [hb, ha, z]))
      obtain ⟨LP2, g1, g2, g3, g4⟩ := L.rw x b hb
      refine ⟨LP2, by rw [upd_ne nb]; exact g1, g2.kp k, ?_, by omega⟩
      rw [tk, leav_snoc, if_neg (by rw [hs]; omega)]
      exact g3
  · obtain ⟨kvs, g1, g2⟩ := L.hd
    have da : td ≠ a := ne_of g2.at_ h1 (fun z => nomatch z)
    exact ⟨kvs, g1, g2.mono (by rw [upd_ne da]; exact g2.at_) fun b xs h z => ⟨by rw [upd_ne (fun y => z.2.1 (by rw [y]; exact ain))]; exact h, z⟩⟩
theorem tk_at {LE : List (Addr × Ed)} {j : Nat} {e : Addr × Ed} (he : LE[j]? = some e) : (LE.map (·.2)).take (j + 1) = (LE.map (·.2)).take j ++ [e.2] := by
  rw [List.take_succ, List.getElem?_map, he] <;> rfl
/-- one more state in a list of the dict -/
theorem Lp.tgt (L : Lp K H p C dx te ll td n LE rows i j H') {e : Addr × Ed} (he : LE[j]? = some e) {kvs : List (List Key × V)} (lk : kvs.length ≤ j) (T : Tab H' td ((LE.map (·.2)).take j) kvs fun b => H b = none ∧ b ∉ rows ∧ b ≠ ll) {b : Addr} (hv : valV kvs (kT e.2.1 e.2.2.1) = some (.ref b)) :
    H' b = some (.lst ((tg ((LE.map (·.2)).take j) e.2.1 e.2.2.1).map V.int)) ∧ Lp K H p C dx te ll td n LE rows i (j + 1) (upd H' b (.lst ((tg ((LE.map (·.2)).take j) e.2.1 e.2.2.1).map V.int ++ [.int e.2.2.2]))) := by
  obtain ⟨b0, s0, x0, k0, v0, h1, ne0, h2, h3, h4⟩ := T.some_ _ _ hv
  cases v0
  obtain ⟨rfl, rfl⟩ : e.2.1 = s0 ∧ e.2.2.1 = x0 := by
    injection k0 with a1 a2
    injection a2 with a2 _
    exact ⟨Sum.inl.inj a1, Sum.inr.inj a2⟩
  refine ⟨h1, ?_⟩
  have k := Kp.updL h1 (.lst ((tg ((LE.map (·.2)).take j) e.2.1 e.2.2.1).map V.int ++ [.int e.2.2.2]))
  have pa : p ≠ b := ne_of L.hp h1 (fun z => nomatch z)
  have ta : te ≠ b := ne_of L.ht h1 (fun z => nomatch z)
  have da : td ≠ b := ne_of T.at_ h1 (fun z => nomatch z)
  refine ⟨but_hide L.but h2, by rw [upd_ne pa]; exact L.hp, by rw [upd_ne ta]; exact L.ht, L.hE.kp k, by rw [upd_ne h4.symm]; exact L.hl, fun x a ha => ?_, ⟨kvs, by omega, by rw [upd_ne da]; exact T.at_, fun k v h => ?_, fun s x h => ?_, T.inj⟩⟩
  · obtain ⟨LP2, g1, g2, g3⟩ := L.rw x a ha
    exact ⟨LP2, by rw [upd_ne (nin_ne h3 ha)]; exact g1, g2.kp k, g3⟩
  · obtain ⟨b', s', x', rfl, rfl, f3, f4, f5⟩ := T.some_ k v h
    by_cases nb : b' = b
    · subst nb
      have z := T.inj _ _ _ h hv
      injection z with z1 z2
      injection z2 with z2 _
      obtain rfl := Sum.inl.inj z1
      obtain rfl := Sum.inr.inj z2
      refine ⟨b', e.2.1, e.2.2.1, rfl, rfl, ?_, ?_, f5⟩
      · rw [tk_at he, tg_snoc, if_pos ⟨rfl, rfl⟩, upd_same, List.map_append] <;> rfl
      · rw [tk_at he, tg_snoc, if_pos ⟨rfl, rfl⟩]
        simp
    · have nk : ¬ (e.2.1 = s' ∧ e.2.2.1 = x') := fun z => nb (by
        obtain ⟨rfl, rfl⟩ := z
        have y := h.symm.trans hv
        injection y with y
        injection y)
      refine ⟨b', s', x', rfl, rfl, ?_, ?_, f5⟩
      · rw [tk_at he, tg_snoc, if_neg nk, upd_ne nb]; exact f3
      · rw [tk_at he, tg_snoc, if_neg nk]; exact f4
  · have nk : ¬ (e.2.1 = s ∧ e.2.2.1 = x) := fun z => by
      obtain ⟨rfl, rfl⟩ := z
      rw [hv] at h; cases h
    rw [tk_at he, tg_snoc, if_neg nk]
    exact T.none_ s x h
/-- a new list in the dict, with one state -/
theorem Lp.new (L : Lp K H p C dx te ll td n LE rows i j H') {e : Addr × Ed} (he : LE[j]? = some e) {kvs : List (List Key × V)} (lk : kvs.length ≤ j) (T : Tab H' td ((LE.map (·.2)).take j) kvs fun b => H b = none ∧ b ∉ rows ∧ b ≠ ll) (fd : H td = none) {b : Addr} (h1 : H' b = some (.lst [])) (h2 : H b = none) (h3 : b ∉ rows) (h4 : b ≠ ll)
    (fresh : ∀ k v, valV kvs k = some v → v ≠ .ref b) (hn : valV kvs (kT e.2.1 e.2.2.1) = none) :
    Lp K H p C dx te ll td n LE rows i (j + 1) (upd (upd H' td (.dT (putK kvs (kT e.2.1 e.2.2.1) (.ref b)))) b (.lst [.int e.2.2.2])) := by
  have hd := T.at_
  have bd : b ≠ td := ne_of h1 hd (fun z => nomatch z)
  have other : ∀ (c : Addr) (o : HO), H' c = some o → c ≠ td → c ≠ b → (upd (upd H' td (.dT (putK kvs (kT e.2.1 e.2.2.1) (.ref b)))) b (.lst [.int e.2.2.2])) c = some o := fun c o e n1 n2 => by rw [upd_ne n2, upd_ne n1]; exact e
  have kp : Kp H' (upd (upd H' td (.dT (putK kvs (kT e.2.1 e.2.2.1) (.ref b)))) b (.lst [.int e.2.2.2])) := ⟨fun c xs e => other c _ e (ne_of e hd (fun z => nomatch z)) (ne_of e h1 (fun z => nomatch z)), fun c o u e => other c _ e (ne_of e hd (fun z => nomatch z)) (ne_of e h1 (fun z => nomatch z))⟩
  have emp := T.none_ _ _ hn
  refine ⟨but_hide (but_hide L.but fd) h2, other _ _ L.hp (ne_of L.hp hd (fun z => nomatch z)) (ne_of L.hp h1 (fun z => nomatch z)), other _ _ L.ht (ne_of L.ht hd (fun z => nomatch z)) (ne_of L.ht h1 (fun z => nomatch z)), L.hE.kp kp, other _ _ L.hl (ne_of L.hl hd (fun z => nomatch z)) h4.symm, fun x a ha => ?_, ⟨_, Nat.le_trans (length_putK _ _ _) (Nat.succ_le_succ lk), by rw [upd_ne bd.symm, upd_same], fun k v h => ?_, fun s x h => ?_, fun k k' v h h' => ?_⟩⟩
  · obtain ⟨LP2, f1, f2, f3⟩ := L.rw x a ha
    exact ⟨LP2, other _ _ f1 (ne_of f1 hd (fun z => nomatch z)) (nin_ne h3 ha), f2.kp kp, f3⟩
  · rw [valV_put] at h
    by_cases ek : k = kT e.2.1 e.2.2.1
    · rw [if_pos ek] at h
      refine ⟨b, e.2.1, e.2.2.1, ek, (Option.some.inj h).symm, ?_, ?_, h2, h3, h4⟩
      · rw [tk_at he, tg_snoc, if_pos ⟨rfl, rfl⟩, emp, upd_same] <;> rfl
      · rw [tk_at he, tg_snoc, if_pos ⟨rfl, rfl⟩]; simp
    · rw [if_neg ek] at h
      obtain ⟨b', s', x', rfl, rfl, f3, f4, f5⟩ := T.some_ k v h
      have nb : b' ≠ b := fun z => fresh _ _ h (by rw [z])
      have nk : ¬ (e.2.1 = s' ∧ e.2.2.1 = x') := fun z => ek (by rw [z.1, z.2])
      refine ⟨b', s', x', rfl, rfl, ?_, ?_, f5⟩
      · rw [tk_at he, tg_snoc, if_neg nk]; exact other _ _ f3 (ne_of f3 hd (fun z => nomatch z)) nb
      · rw [tk_at he, tg_snoc, if_neg nk]; exact f4
  · rw [valV_put] at h
    by_cases ek : kT s x = kT e.2.1 e.2.2.1
    · rw [if_pos ek] at h; cases h
    · rw [if_neg ek] at h
      have nk : ¬ (e.2.1 = s ∧ e.2.2.1 = x) := fun z => ek (by rw [z.1, z.2])
      rw [tk_at he, tg_snoc, if_neg nk]
      exact T.none_ s x h
  · rw [valV_put] at h h'
    by_cases ek : k = kT e.2.1 e.2.2.1
    · by_cases ek' : k' = kT e.2.1 e.2.2.1
      · rw [ek, ek']
      · rw [if_pos ek] at h
        rw [if_neg ek'] at h'
        exact absurd (Option.some.inj h).symm (fresh _ _ h')
    · by_cases ek' : k' = kT e.2.1 e.2.2.1
      · rw [if_neg ek] at h
        rw [if_pos ek'] at h'
        exact absurd (Option.some.inj h').symm (fresh _ _ h)
      · rw [if_neg ek] at h
        rw [if_neg ek'] at h'
        exact T.inj _ _ _ h h'
end
theorem nd_le {α : Type} [DecidableEq α] : ∀ (l m : List α), l.Nodup → (∀ x ∈ l, x ∈ m) → l.length ≤ m.length
  | [], m, _, _ => Nat.zero_le _
  | x :: l, m, nd, h => by
    obtain ⟨n1, n2⟩ := List.nodup_cons.mp nd
    have hx := h x List.mem_cons_self
    have ih := nd_le l (m.erase x) n2 fun y hy => (List.mem_erase_of_ne (fun e => by rw [e] at hy; exact n1 hy)).mpr (h y (List.mem_cons_of_mem _ hy))
    rw [List.length_erase_of_mem hx] at ih
    have := List.length_pos_of_mem hx
    rw [List.length_cons]
    omega
def spInit (K : PySem.W.Frag) (C : Addr) : Sp := fun vs H Q _ => ∃ (p dx : Addr) (n : Int) (l : Addr) (L : List (Addr × Ed)), vs = [.ref p, .int n, .ref l] ∧ H p = some (.ins C dx []) ∧ SqL K H l (refs L) ∧ Eds K H L ∧ 1 ≤ n ∧ n ≤ 20000 ∧ L.length < 64 ∧ (∀ x ∈ L, okE n x.2) ∧
  ∀ (E : List Ed) (H' : Hp), But p H H' → SysAt K (fun a => H a = none) C H' p n E → (∀ e, e ∈ E ↔ e ∈ L.map (·.2)) → Q .non H'
/-- the same, whatever the list's length, where the edges are among 76 -/
def spInitU (K : PySem.W.Frag) (C : Addr) : Sp := fun vs H Q _ => ∃ (p dx : Addr) (n : Int) (l : Addr) (L : List (Addr × Ed)), vs = [.ref p, .int n, .ref l] ∧ H p = some (.ins C dx []) ∧ SqL K H l (refs L) ∧ Eds K H L ∧ 1 ≤ n ∧ n ≤ 20000 ∧ VT.Few L ∧ L.length ≤ 1000 ∧ (∀ x ∈ L, okE n x.2) ∧
  ∀ (E : List Ed) (H' : Hp), But p H H' → SysAt K (fun a => H a = none) C H' p n E → (∀ e, e ∈ E ↔ e ∈ L.map (·.2)) → Q .non H'
theorem spInit_few {C : Addr} {vs : List V} {H : Hp} {Q : VK} {E : XK} (h : spInit K C vs H Q E) : spInitU K C vs H Q E := by
  obtain ⟨p, dx, n, l, L, e, hp, hS, hE, n1, n2, len, ok, q⟩ := h
  exact ⟨p, dx, n, l, L, e, hp, hS, hE, n1, n2, VT.few_of len, by omega, ok, q⟩
theorem okE_sys {n : Int} {L : List Ed} (n1 : 1 ≤ n) (n2 : n ≤ 20000) (ok : ∀ e ∈ L, okE n e) : sysOk n L = true := by
  unfold sysOk
  rw [decide_eq_true n1, decide_eq_true n2]
  exact List.all_eq_true.mpr fun e he => let z := ok e he; okB_all ⟨z.1, z.2.1, z.2.2.1, z.2.2.2.1⟩ (acts_act _ z.2.2.2.2)
/-- the constructor: a System, or BadSystem -/
def spInitX (K : PySem.W.Frag) (C CS : Addr) : Sp := fun vs H Q E => spInit K C vs H Q E ∨ (∃ (p : Addr) (n : Int) (l : Addr) (L : List (Addr × Ed)), vs = [.ref p, .int n, .ref l] ∧ SqL K H l (refs L) ∧ Eds K H L ∧ L.length ≤ 1000 ∧ (∀ x ∈ L, x.2.2.1.length ≤ 1000) ∧
  sysOk n (L.map (·.2)) = false ∧ ∀ H', Same H H' → E (.ref CS) none H') ∨ spInitU K C vs H Q E
theorem c_initX {C CS : Addr} {f : Addr} {fd : FuncData} (T : SysTxt K C) (F : FunD K "__init__" "System.__init__" (defArgs s_System___init__) (defBody s_System___init__) (defScope s_System___init__) [] [] f fd)
    (z_range : mg "range" = none) (z_sorted : mg "sorted" = none) (z_set : mg "set" = none) (z_tuple : mg "tuple" = none) (c_check_edges : VE.CalX P w K mg base 4 "check_edges" (spCheckX K CS)) :
    FnOk P w K mg base (L2.CX P w) 5 f fd ["self", "count", "edges"] (spInitX K C CS) := by
  refine F.ok sc_System___init__ (fun vs H Q E h => ?_) (fun cdv A outer s H vs Q E hr h => ?_)
  · rcases h with ⟨p, dx, n, l, L, rfl, _⟩ | ⟨p, n, l, L, rfl, _⟩ | ⟨p, dx, n, l, L, rfl, _⟩ <;> rfl
  have h2 : spInitU K C vs H Q E ∨ ∃ (p : Addr) (n : Int) (l : Addr) (L : List (Addr × Ed)), vs = [.ref p, .int n, .ref l] ∧ SqL K H l (refs L) ∧ Eds K H L ∧ L.length ≤ 1000 ∧ (∀ x ∈ L, x.2.2.1.length ≤ 1000) ∧ sysOk n (L.map (·.2)) = false ∧ ∀ H', Same H H' → E (.ref CS) none H' := by
    rcases h with z | z | z
    · exact .inl (spInit_few z)
    · exact .inr z
    · exact .inl z
  clear h
  rcases h2 with ⟨p, dx, n, l, L, rfl, hp, hS, hE, n1, n2, few, len, ok, q⟩ | ⟨p, n, l, L, rfl, hS, hE, len, lens, bad, qe⟩
  rotate_left
  · refine ⟨_, (pss_cons (ps_expr (VE.pe_cX c_check_edges hr (by first | decide | omega) rfl (takes_of rfl rfl rfl rfl) (pa_cons (pv 1) (pa_cons (pv 2) pa_nil))))
    (pss_cons (ps_fld (pv 0) (pv 1) rfl)
    (pss_cons (ps_fld (pv 0) (pe_callTy (VK.tupQ (K := K) rfl) (by rfl) z_tuple (by decide +kernel) (pa_cons (pe_callB (VT.cr_sortT (K := K) (P := P) (w := w) rfl rfl rfl rfl hr) (by rfl) z_sorted (by decide +kernel) (pa_cons (pe_callTy (VT.cr_setT (K := K) (P := P) (w := w) rfl rfl rfl rfl (VP.un3 hr)) (by rfl) z_set (by decide +kernel) (pa_cons (pv 2) pa_nil)) pa_nil)) pa_nil)) rfl)
    (pss_cons (ps_fld (pv 0) (pe_lc (own := [("_", 3)]) (tt := tYes) rfl sc_System___init__.nd (pi_range1 rfl z_range (pa_cons (pv 1) pa_nil)) (blkOk_by (N := ["self", "count", "edges", "_", "source", "action", "target"]) (sc := defScope s_System___init__) (by decide +kernel)) (fun _ _ _ _ _ => (pg_name (i := 3) sc_System___init__.nd rfl (Or.inl rfl) (hf := Or.inr rfl))) (fun _ _ _ _ _ => pts_nil) (fun _ _ _ _ _ => (pe_lst pa_nil))) rfl)
    (pss_cons (ps_fld (pv 0) pe_dnewT rfl)
    (pss_one (ps_for (passes_of rfl) rfl (pi_tup (pe_fld (pv 0) rfl)) (pg_tup rfl (pgs_cons (pg_name (i := 4) sc_System___init__.nd rfl (Or.inl rfl)) (pgs_cons (pg_name (i := 5) sc_System___init__.nd rfl (Or.inl rfl)) (pgs_cons (pg_name (i := 6) sc_System___init__.nd rfl (Or.inl rfl)) pgs_nil))))
      (pss_cons (ps_expr (pe_bm PySem.F.plainAttrs_list PySem.F.slot_list_append PySem.F.type_list_append mt_append (pe_ix (VK.ixL (K := K) rfl) (pe_fld (pv 0) rfl) (pv 4) (fun _ _ => rfl)) (pa_cons (pe_tup (pa_cons (pv 5) (pa_cons (pv 6) pa_nil))) pa_nil)))
      (pss_one (ps_expr (pe_bm PySem.F.plainAttrs_list PySem.F.slot_list_append PySem.F.type_list_append mt_append (VO.pe_setdT (hu_of hr) (pe_fld (pv 0) rfl) (pe_tup (pa_cons (pv 4) (pa_cons (pv 5) pa_nil))) (pe_lst pa_nil) ⟨rfl, rfl, rfl, rfl⟩) (pa_cons (pv 6) pa_nil)))))))))))), ?_⟩
    exact ⟨_, rfl, _, rfl, n, l, L, rfl, hS, hE, len, lens, fun z => absurd (z.symm.trans bad) (by decide), fun _ => qe⟩
  refine ⟨_, (pss_cons (ps_expr (VE.pe_cX c_check_edges hr (by first | decide | omega) rfl (takes_of rfl rfl rfl rfl) (pa_cons (pv 1) (pa_cons (pv 2) pa_nil))))
    (pss_cons (ps_fld (pv 0) (pv 1) rfl)
    (pss_cons (ps_fld (pv 0) (pe_callTy (VK.tupQ (K := K) rfl) (by rfl) z_tuple (by decide +kernel) (pa_cons (pe_callB (VT.cr_sortT (K := K) (P := P) (w := w) rfl rfl rfl rfl hr) (by rfl) z_sorted (by decide +kernel) (pa_cons (pe_callTy (VT.cr_setT (K := K) (P := P) (w := w) rfl rfl rfl rfl (VP.un3 hr)) (by rfl) z_set (by decide +kernel) (pa_cons (pv 2) pa_nil)) pa_nil)) pa_nil)) rfl)
    (pss_cons (ps_fld (pv 0) (pe_lc (own := [("_", 3)]) (tt := tYes) rfl sc_System___init__.nd (pi_range1 rfl z_range (pa_cons (pv 1) pa_nil)) (blkOk_by (N := ["self", "count", "edges", "_", "source", "action", "target"]) (sc := defScope s_System___init__) (by decide +kernel)) (fun _ _ _ _ _ => (pg_name (i := 3) sc_System___init__.nd rfl (Or.inl rfl) (hf := Or.inr rfl))) (fun _ _ _ _ _ => pts_nil) (fun _ _ _ _ _ => (pe_lst pa_nil))) rfl)
    (pss_cons (ps_fld (pv 0) pe_dnewT rfl)
    (pss_one (ps_for (passes_of rfl) rfl (pi_tup (pe_fld (pv 0) rfl)) (pg_tup rfl (pgs_cons (pg_name (i := 4) sc_System___init__.nd rfl (Or.inl rfl)) (pgs_cons (pg_name (i := 5) sc_System___init__.nd rfl (Or.inl rfl)) (pgs_cons (pg_name (i := 6) sc_System___init__.nd rfl (Or.inl rfl)) pgs_nil))))
      (pss_cons (ps_expr (pe_bm PySem.F.plainAttrs_list PySem.F.slot_list_append PySem.F.type_list_append mt_append (pe_ix (VK.ixL (K := K) rfl) (pe_fld (pv 0) rfl) (pv 4) (fun _ _ => rfl)) (pa_cons (pe_tup (pa_cons (pv 5) (pa_cons (pv 6) pa_nil))) pa_nil)))
      (pss_one (ps_expr (pe_bm PySem.F.plainAttrs_list PySem.F.slot_list_append PySem.F.type_list_append mt_append (VO.pe_setdT (hu_of hr) (pe_fld (pv 0) rfl) (pe_tup (pa_cons (pv 4) (pa_cons (pv 5) pa_nil))) (pe_lst pa_nil) ⟨rfl, rfl, rfl, rfl⟩) (pa_cons (pv 6) pa_nil)))))))))))), ?_⟩
  have zl := sizeLine_eq
  have hok : sysOk n (L.map (·.2)) = true := okE_sys n1 n2 fun e he => by obtain ⟨x, hx, rfl⟩ := List.mem_map.mp he; exact ok x hx
  refine ⟨_, rfl, _, rfl, n, l, L, rfl, hS, hE, by omega, fun x hx => Nat.le_trans (acts_ok _ (ok x hx).2.2.2.2).2 (by decide), fun _ H1 s1 => ?_, fun z => absurd (hok.symm.trans z) (by decide)⟩
  have hp1 := s1 _ _ hp
  refine ⟨_, rfl, _, rfl, p, C, dx, [], rfl, hp1, T.cl, T.n0, (by show 0 < 1000; decide), ?_⟩
  have B2 : But p H (upd H1 p (.ins C dx (fl1 n))) := but_own (But.of s1) _
  have hp2 : upd H1 p (.ins C dx (fl1 n)) p = some (.ins C dx (fl1 n)) := upd_same
  show _
  have hS2 := but_seq B2 hp hS
  have k2 := but_kp B2 hp
  refine ⟨_, rfl, l, L.map fun x => (x.1, edK x.2), rfl, ?_, fun x hx => ?_, (by obtain ⟨U, hU, inU⟩ := few; exact ⟨U.map edK, by rw [List.length_map]; exact hU, fun y hy => by obtain ⟨z, hz, rfl⟩ := List.mem_map.mp hy; exact List.mem_map_of_mem (inU z hz)⟩), fun a M na ofM => ?_⟩
  · rw [List.map_map]; exact hS2
  · obtain ⟨y, hy, rfl⟩ := List.mem_map.mp hx
    exact (hE.kp k2) y hy
  have s3 := same_upd na (VT.SetKO P w a M)
  have key : ∀ x ∈ M, ∃ y ∈ L, x = (y.1, edK y.2) := fun x hx => by
    obtain ⟨y, hy, rfl⟩ := List.mem_map.mp (ofM.sub x hx)
    exact ⟨y, hy, rfl⟩
  have B3 := but_new B2 (o := VT.SetKO P w a M) na
  have hp3 : upd (upd H1 p (.ins C dx (fl1 n))) a (VT.SetKO P w a M) p = some (.ins C dx (fl1 n)) := s3 _ _ hp2
  have k3 := but_kp B3 hp
  refine ⟨a, M, rfl, upd_same, fun x hx => ?_, fun d hd d' hd' => ?_, fun x hx => ?_, fun M' b pm nb => ?_⟩
  · obtain ⟨y, hy, rfl⟩ := key x hx
    exact (hE.kp k3) y hy
  · obtain ⟨x, hx, rfl⟩ := List.mem_map.mp hd
    obtain ⟨y, hy, rfl⟩ := List.mem_map.mp hd'
    obtain ⟨_, _, rfl⟩ := key x hx
    obtain ⟨_, _, rfl⟩ := key y hy
    rfl
  · obtain ⟨_, _, rfl⟩ := key x hx
    exact List.cons_ne_nil _ _
  obtain ⟨LE, eLE, subLE, ascLE, memLE⟩ := sorted_eds (M := M') (L := L) (fun x hx => ofM.sub x (pm.mem_iff.mp hx)) (fun y hy => ((pm.map (·.2)).mem_iff).mpr (ofM.all _ (List.mem_map.mpr ⟨y, hy, rfl⟩))) ((pm.map (·.2)).nodup_iff.mpr ofM.nd)
  have eref : (M'.mergeSort VT.leK).map (fun q => V.ref q.1) = refs LE := by
    rw [eLE, List.map_map]
    rfl
  rw [eref]
  clear eref eLE
  have s4 := same_upd nb (.lst (refs LE))
  have B4 := but_new B3 (o := .lst (refs LE)) nb
  refine ⟨b, _, rfl, .inl ⟨SqL.of upd_same, fun te nte => ?_⟩⟩
  have s5 := same_upd nte (.tup (refs LE))
  have B5 := but_new B4 (o := .tup (refs LE)) nte
  have hp5 := s5 _ _ (s4 _ _ hp3)
  have hte : upd (upd (upd (upd H1 p (.ins C dx (fl1 n))) a (VT.SetKO P w a M)) b (.lst (refs LE))) te (.tup (refs LE)) te = some (.tup (refs LE)) := upd_same
  have ok' : ∀ e ∈ LE.map (·.2), okE n e := fun e he => by
    obtain ⟨x, hx, rfl⟩ := List.mem_map.mp ((memLE e).1 he)
    exact ok x hx
  have hLE : Eds K (upd (upd (upd (upd H1 p (.ins C dx (fl1 n))) a (VT.SetKO P w a M)) b (.lst (refs LE))) te (.tup (refs LE))) LE := fun x hx => (hE.kp (but_kp B5 hp)) x (subLE x hx)
  have lenLE : LE.length < 77 := by
    obtain ⟨U, hU, inU⟩ := few
    have z := nd_le _ U (List.nodup_iff_pairwise_ne.mpr (ascLE.imp fun h e => by rw [e] at h; exact ltE_irrefl _ h)) fun e he => by
      obtain ⟨y, hy, rfl⟩ := List.mem_map.mp ((memLE e).1 he)
      exact inU y hy
    rw [List.length_map] at z
    omega
  generalize upd (upd (upd (upd H1 p (.ins C dx (fl1 n))) a (VT.SetKO P w a M)) b (.lst (refs LE))) te (.tup (refs LE)) = H5 at *
  clear hp3 hp2 hp1 s3 s4 s5 key B2 B3 B4 k2 k3 hS2 
  refine ⟨_, rfl, p, C, dx, _, rfl, hp5, T.cl, T.n1, (fl_len n te te).1, ?_⟩
  have B6 : But p H (upd H5 p (.ins C dx (fl2 n te))) := but_own B5 _
  have hp6 : upd H5 p (.ins C dx (fl2 n te)) p = some (.ins C dx (fl2 n te)) := upd_same
  have pte : te ≠ p := ne_of hte hp5 (fun z => nomatch z)
  have hte6 : upd H5 p (.ins C dx (fl2 n te)) te = some (.tup (refs LE)) := by rw [upd_ne pte]; exact hte
  refine ⟨_, rfl, n, rfl, by omega, by omega, fun ll nll => lc_range (lo := 0) (n := n.toNat)
    (fun i H' => ∃ rows : List Addr, H' ll = some (.lst (rows.map V.ref)) ∧ rows.length = i ∧ rows.Nodup ∧ (∀ a ∈ rows, H' a = some (.lst []) ∧ H a = none) ∧ Same (upd H5 p (.ins C dx (fl2 n te))) H')
    ⟨[], upd_same, rfl, List.nodup_nil, fun a z => absurd z List.not_mem_nil, same_upd nll _⟩ ?_ ?_⟩
  · rintro i H' hi ⟨rows, hll, lenr, ndr, fr, sH⟩
    refine ⟨rfl, ?_⟩
    unfold tYes
    refine iteT ⟨Nat.zero_le _, fun q nq => ?_⟩
    have sq := same_upd nq (.lst [])
    have hll2 := sq _ _ hll
    have qll : q ≠ ll := (ne_of_none hll nq).symm
    have qH : H q = none := B6.none (ne_of_none (sH _ _ hp6) nq).symm (sH.free nq)
    have fr2 : ∀ a ∈ rows, a ≠ ll := fun a ha => fun z => by
      have h1 := (fr a ha).1
      rw [z, hll] at h1
      cases hr : rows with
      | nil => rw [hr] at ha; cases ha
      | cons x xs => rw [hr] at h1; cases h1
    refine ⟨_, hll2, by rw [List.length_map, lenr]; omega, rows ++ [q], by rw [upd_same, List.map_append] <;> rfl, by rw [List.length_append, lenr] <;> rfl, ?_, fun a ha => ?_, sameIn (sH.trans sq) nll⟩
    · exact List.nodup_append.mpr ⟨ndr, by simp, fun a ha b hb => by rw [List.mem_singleton.mp hb]; intro e; have h1 := (fr a ha).1; rw [e, nq] at h1; cases h1⟩
    · rcases List.mem_append.mp ha with z | z
      · exact ⟨by rw [upd_ne (fr2 a z)]; exact sq _ _ (fr a z).1, (fr a z).2⟩
      · rw [List.mem_singleton.mp z]
        exact ⟨by rw [upd_ne qll, upd_same], qH⟩
  · rintro H7 ⟨rows, hll, lenr, ndr, fr, sH⟩
    have llr : ll ∉ rows := fun z => by
      have h1 := (fr ll z).1
      rw [hll] at h1
      cases hr : rows with
      | nil => rw [hr] at z; cases z
      | cons x xs => rw [hr] at h1; cases h1
    have llH : H ll = none := B6.none (ne_of_none hp6 nll).symm nll
    have B7 := B6.trans (But.of sH)
    have hp7 := sH _ _ hp6
    refine ⟨_, rfl, p, C, dx, _, rfl, hp7, T.cl, T.n2, (fl_len n te te).2.1, ?_⟩
    intro td ntd
    have tdp : td ≠ p := fun z => by rw [z, upd_same] at ntd; cases ntd
    have ntd7 : H7 td = none := by rw [upd_ne tdp] at ntd; exact ntd
    refine ⟨_, rfl, p, C, dx, fl3 n te ll, rfl, (by rw [upd_ne tdp.symm, upd_same]), T.cl, T.n3, (fl_len n te ll).2.2, ?_⟩
    have tdH : H td = none := B7.none tdp ntd7
    have L0 : Lp K H p C dx te ll td n LE rows 0 0 (upd (upd (upd H7 p (.ins C dx (fl3 n te ll))) td (.dT [])) p (.ins C dx (fl4 n te ll td))) := by
      have other : ∀ (c : Addr) (o : HO), H7 c = some o → c ≠ p → (upd (upd (upd H7 p (.ins C dx (fl3 n te ll))) td (.dT [])) p (.ins C dx (fl4 n te ll td))) c = some o := fun c o e n1 => by rw [upd_ne n1, upd_ne (ne_of_none e ntd7), upd_ne n1]; exact e
      have hx : Kp H7 (upd (upd (upd H7 p (.ins C dx (fl3 n te ll))) td (.dT [])) p (.ins C dx (fl4 n te ll td))) := ⟨fun c xs e => other c _ e (ne_of e hp7 (fun z => nomatch z)), fun c o u e => other c _ e (ne_of e hp7 (fun z => nomatch z))⟩
      refine ⟨but_own (but_hide (but_own B7 _) tdH) _, upd_same, other _ _ (sH _ _ hte6) pte, (hLE.kp ?_), other _ _ hll (ne_of hll hp7 (fun z => nomatch z)), fun x a ha => ?_, ⟨[], Nat.le_refl _, (by rw [upd_ne tdp, upd_same]), (fun k v z => by rw [valV_nil] at z; cases z), (fun s x z => rfl), (fun k k' v z => by rw [valV_nil] at z; cases z)⟩⟩
      · exact (but_kp (but_own (But.refl p H5) _) hp5).trans ((Kp.of sH).trans hx)
      · have h1 := (fr a (List.mem_of_getElem? ha)).1
        exact ⟨[], other _ _ h1 (ne_of h1 hp7 (fun z => nomatch z)), fun y z => absurd z List.not_mem_nil, rfl, Nat.le_refl _⟩
    generalize upd (upd (upd H7 p (.ins C dx (fl3 n te ll))) td (.dT [])) p (.ins C dx (fl4 n te ll td)) = H8 at L0 ⊢
    refine ⟨_, rfl, p, C, dx, _, _, rfl, L0.hp, T.cl, T.n1, fl_edges n te ll td, te, rfl, ⟨_, .inl (.inl L0.ht)⟩, for_tup (K := K) (a := te) (xs := refs LE)
      (fun i σ H' => Lp K H p C dx te ll td n LE rows i i H' ∧ ∃ (r3 r4 r5 r6 : Option V), σ = [some (.ref p), some (.int n), some (.ref l), r3, r4, r5, r6])
      ⟨L0, none, none, none, none, rfl⟩ (fun i σ H' _ z => .inl (.inl z.1.ht)) ?_ ?_⟩
    · rintro i v σ H9 hv ⟨L9, r3, r4, r5, r6, rfl⟩
      obtain ⟨e, he, rfl⟩ := refs_at hv
      have ein := List.mem_of_getElem? he
      have lti : i < LE.length := (List.getElem?_eq_some_iff.mp he).1
      obtain ⟨o1, o2, o3, o4, o5⟩ := ok' e.2 (List.mem_map_of_mem ein)
      refine ⟨e.1, _, rfl, L9.hE e ein, rfl, .int e.2.1, _, rfl, .str e.2.2.1, _, rfl, .int e.2.2.2, _, rfl, rfl, ?_⟩
      have lts : e.2.1.toNat < rows.length := by omega
      have es : e.2.1 = ((e.2.1.toNat : Nat) : Int) := by omega
      have ha : rows[e.2.1.toNat]? = some rows[e.2.1.toNat] := List.getElem?_eq_getElem lts
      generalize rows[e.2.1.toNat] = a at ha
      obtain ⟨LP, h1, h2, h3, h4⟩ := L9.rw _ a ha
      have hat : atI (rows.map V.ref) e.2.1 = some (.ref a) := by rw [es]; exact atI_nat (by rw [List.getElem?_map, ha] <;> rfl)
      refine ⟨_, rfl, p, C, dx, _, _, rfl, L9.hp, T.cl, T.n2, fl_leav n te ll td, _, rfl, ll, _, _, _, rfl, rfl, SqL.of L9.hl, hat, .inl ⟨rfl, _, SqL.of h1⟩, _, rfl, _, rfl, (by show 2 ≤ sizeLine; omega), fun q nq => ?_⟩
      have sq := same_upd nq (.tup [.str e.2.2.1, .int e.2.2.2])
      refine ⟨a, _, _, rfl, rfl, sq _ _ h1, (by rw [refs_len]; omega), ?_⟩
      have L10 := (L9.same sq).row ndr (fun b hb => (fr b hb).2) llr he es ha (sq _ _ h1) (h2.kp (Kp.of sq)) h3 h4 (q := q) upd_same
      generalize upd (upd H9 q (.tup [.str e.2.2.1, .int e.2.2.2])) a (.lst (refs LP ++ [.ref q])) = H10 at L10 ⊢
      obtain ⟨kvs, d2, d0⟩ := L10.hd
      have d1 := d0.at_
      refine ⟨_, rfl, p, C, dx, _, _, rfl, L10.hp, T.cl, T.n3, fl_targ n te ll td, td, rfl, .inr ⟨_, .inl d1⟩, _, rfl, _, rfl, (by show 2 ≤ sizeLine; omega), fun k nk => ⟨Nat.zero_le _, fun z nz => ?_⟩⟩
      have sk := same_upd nk (.tup [.int e.2.1, .str e.2.2.1])
      have sz := same_upd nz (.lst [])
      have L12 := (L10.same sk).same sz
      have hz : upd (upd H10 k (.tup [.int e.2.1, .str e.2.2.1])) z (.lst []) z = some (.lst []) := upd_same
      have hk : upd (upd H10 k (.tup [.int e.2.1, .str e.2.2.1])) z (.lst []) k = some (.tup [.int e.2.1, .str e.2.2.1]) := sz _ _ upd_same
      have zp : z ≠ p := (ne_of_none (L10.same sk).hp nz).symm
      have zH : H z = none := (L10.same sk).but.none zp nz
      have zr : z ∉ rows := fun y => by
        obtain ⟨t, ht, et⟩ := List.getElem_of_mem y
        obtain ⟨LP2, g1, _⟩ := (L10.same sk).rw t z (by rw [List.getElem?_eq_getElem ht, et])
        rw [nz] at g1; cases g1
      have zl2 : z ≠ ll := (ne_of_none (L10.same sk).hl nz).symm
      have d1' := sz _ _ (sk _ _ d1)
      have skz := sk.trans sz
      generalize upd (upd H10 k (.tup [.int e.2.1, .str e.2.2.1])) z (.lst []) = H12 at L12 hz hk d1' skz ⊢
      have d12 : Tab H12 td ((LE.map (·.2)).take i) kvs fun b => H b = none ∧ b ∉ rows ∧ b ≠ ll := d0.mono d1' fun b xs h z => ⟨skz _ _ h, z⟩
      have fresh : ∀ k v, valV kvs k = some v → v ≠ .ref z := fun k v h e => by
        obtain ⟨b, _, _, _, ev, hb, _⟩ := d0.some_ k v h
        rw [ev] at e
        injection e with e
        rw [e] at hb
        rw [sk _ _ hb] at nz
        cases nz
      refine ⟨kvs, [.inl e.2.1, .inr e.2.2.1], k, d1', rfl, hk, by omega, fun v hv => ?_, fun hn => ?_⟩
      · obtain ⟨b, s0, x0, _, rfl, _⟩ := d12.some_ _ _ hv
        obtain ⟨g1, g2⟩ := L12.tgt he d2 d12 hv
        have tl : (tg ((LE.map (·.2)).take i) e.2.1 e.2.2.1).length ≤ i := by
          unfold tg
          rw [List.length_map]
          exact Nat.le_trans (List.length_filter_le _ _) (List.length_take_le _ _)
        refine ⟨.inl ⟨rfl, _, SqL.of g1⟩, _, rfl, b, _, _, rfl, rfl, g1, by rw [List.length_map]; omega, ?_⟩
        exact ⟨g2, _, _, _, _, rfl⟩
      · have zd : z ≠ td := ne_of hz d1' (fun y => nomatch y)
        refine ⟨.inl ⟨rfl, _, SqL.of (by rw [upd_ne zd]; exact hz)⟩, _, rfl, z, _, _, rfl, rfl, by rw [upd_ne zd]; exact hz, (by show 0 < sizeLine; omega), ?_⟩
        exact ⟨L12.new he d2 d12 tdH hz zH zr zl2 fresh hn, _, _, _, _, rfl⟩
    · rintro σ H9 ⟨L9, r3, r4, r5, r6, rfl⟩
      obtain ⟨kvs, _, T9⟩ := L9.hd
      rw [refs_len, List.take_of_length_le (by rw [List.length_map]; exact Nat.le_refl _)] at T9
      refine q (LE.map (·.2)) H9 L9.but ⟨⟨dx, te, ll, td, LE, rows, kvs, L9.hp, L9.ht, L9.hE, rfl, L9.hl, by omega, fun j a hj => ?_, T9.mono T9.at_ fun b xs h z => ⟨h, z.1⟩, llH⟩, ascLE, ok'⟩ memLE
      obtain ⟨LP, g1, g2, g3, _⟩ := L9.rw j a hj
      refine ⟨(fr a (List.mem_of_getElem? hj)).2, LP, g1, g2, ?_⟩
      rw [g3, refs_len, List.take_of_length_le (by rw [List.length_map]; exact Nat.le_refl _)]
end
end LW

set_option Elab.async false
set_option linter.all false
set_option maxRecDepth 100000
set_option maxHeartbeats 4000000
namespace LW
open PySem PySem.Spec PyProof.Rows L2 LamX NdefX VB VM VP VE VX
/-- the actions of a state, without tau -/
def acs (E : List Ed) (s : Int) : List Str := ((leav E s).filter fun p => decide (¬ p.1 = ("tau" : Str))).map (·.1)
def srtS (l : List Str) : List Str := (onceG [] l).mergeSort VS.leS
def evs (E : List Ed) : List Str := (E.map (·.2.1)).filter fun x => decide (¬ x ∈ [("tau" : Str), "tick"])
theorem tg_leav (E : List Ed) (s : Int) (x : Str) : ((leav E s).filter fun p => decide (p.1 = x)).map (·.2) = tg E s x := by
  unfold tg leav
  induction E with
  | nil => rfl
  | cons e E ih =>
    by_cases h1 : e.1 = s
    · rw [List.filter_cons_of_pos (by simpa using h1), List.map_cons]
      by_cases h2 : e.2.1 = x
      · rw [List.filter_cons_of_pos (by simpa using h2), List.filter_cons_of_pos (by simpa using ⟨h1, h2⟩), List.map_cons, List.map_cons, ih]
      · rw [List.filter_cons_of_neg (by simpa using h2), List.filter_cons_of_neg (by simpa using fun _ => h2), ih]
    · rw [List.filter_cons_of_neg (by simpa using h1), List.filter_cons_of_neg (by simpa using fun z => absurd z h1), ih]
theorem acs_flat (E : List Ed) (s : Int) : (E.filter fun e => decide (e.1 = s ∧ ¬ e.2.1 = ("tau" : Str))).map (·.2.1) = acs E s := by
  unfold acs leav
  induction E with
  | nil => rfl
  | cons e E ih =>
    by_cases h1 : e.1 = s
    · rw [List.filter_cons_of_pos (a := e) (p := fun e => decide (e.1 = s)) (by simpa using h1), List.map_cons]
      by_cases h2 : e.2.1 = "tau"
      · rw [List.filter_cons_of_neg (by simpa using fun _ => h2), List.filter_cons_of_neg (by simpa using h2), ih]
      · rw [List.filter_cons_of_pos (by simpa using ⟨h1, h2⟩), List.filter_cons_of_pos (by simpa using h2), List.map_cons, List.map_cons, ih]
    · rw [List.filter_cons_of_neg (by simpa using fun z => absurd z h1), List.filter_cons_of_neg (by simpa using h1), ih]
/-- a sorted set is told by its members -/
theorem srtS_of {ss l : List Str} (nd : ss.Nodup) (h : ∀ x, x ∈ ss ↔ x ∈ l) : ss.mergeSort VS.leS = srtS l :=
  VB.sort_mem nd (onceG_nodup _ _ List.nodup_nil) fun x => by rw [h, onceG_mem]; simp
end LW

set_option Elab.async false
set_option linter.all false
set_option maxRecDepth 100000
set_option maxHeartbeats 4000000
namespace VQ
open PySem PySem.Spec PyProof.Rows L2 LamX NdefX VB VM
/-! sets of whole numbers (fewer than 64), told with the world by its name; sorted of whole numbers -/
section
variable {X : Cx} {w : World} (h : X.w = w)
include h
theorem set0I : CallR X (.type "set") (rSet0 w) := by subst h; exact cr_set0
theorem inI : OpR X (compareOp .In) (rSIn w) := by subst h; exact or_sin
theorem notInI : OpR X (compareOp .NotIn) (rSNotIn w) := by subst h; exact or_snotin
theorem sortedSI (hc : X.calm = true) : CallR X (.builtin "sorted") (rSortedSet w) := by subst h; exact cr_sortedSet hc
theorem saddI {o e : Expr} {es : List Expr} {to : TE} {t : TA} {apos cpos : Pos} (ho : PE X o to) (ha : PA X (e :: es) t)
    (hbase : attributeBase o "add" X.env (eval o X.env) = eval o X.env := by rfl)
    (hfew : ((backTo cpos (starEach (e :: es) X.env)).all (fun x => !x.1) && (backToKw cpos (keywordEach [] X.env)).all (fun x => x.1.isSome)
      && decide ((e :: es).length + ([] : List Keyword).length + (if ([] : List Keyword).isEmpty then 0 else 1) < 30)) = true := by rfl)
    (hline : (apos.endLine == cpos.line) = true := by rfl) (hs : starEach (e :: es) X.env = (false, eval e X.env) :: starEach es X.env := by rfl) (hplain : (backTo cpos (starEach es X.env)).any (·.1) = false := by rfl) :
    PE X (.Call (.Attribute o "add" apos) (e :: es) [] cpos) (tSAdd w to t) := by subst h; exact pe_sadd ho ha hbase hfew hline hs hplain
end
/-- sorted of whole numbers -/
def srtI (l : List Int) : List Int := l.mergeSort fun a b => decide (a ≤ b)
def rSortI (K : PySem.W.Frag) : List V → Hp → VK → Prop := fun vs H Q => ∃ (a : Addr) (ns : List Int), vs = [V.ref a] ∧ SqL K H a (ns.map V.int) ∧
  ∀ p : Addr, H p = none → Q (.ref p) (upd H p (.lst ((srtI ns).map V.int)))
theorem sortedI {X : Cx} {K : PySem.W.Frag} (h : X.K = K) {k : Nat} (hr : Room k X.A) : CallR X (.builtin "sorted") (rSortI K) := by
  subst h
  intro pins s σ H vs us Q I r hh
  obtain ⟨a, ss, rfl, hs, q⟩ := hh
  have eS : (PySem.W.dataLe false PyData.int : Int → Int → Bool) = fun a b => decide (a ≤ b) := PySem.W.dataLe_int (fun x => x)
  refine VA.cr_sortedB V.int PyData.int hr pins s σ H [V.ref a] us Q I r ⟨a, ss, rfl, hs, fun b _ => .int b, ?_, ?_, ?_, fun p np => ?_⟩
  · intro d hd d' hd'
    obtain ⟨x, _, rfl⟩ := List.mem_map.mp hd
    obtain ⟨y, _, rfl⟩ := List.mem_map.mp hd'
    rfl
  · refine .inr fun d hd => ?_
    obtain ⟨x, _, rfl⟩ := List.mem_map.mp hd
    exact ⟨fun z => PyData.noConfusion z, fun xs z => PyData.noConfusion z⟩
  · intro b _
    show (0 : Nat) ≤ 8
    decide
  · rw [eS]
    exact q p np
theorem srtI_mem {l : List Int} {x : Int} : x ∈ srtI l ↔ x ∈ l := List.mem_mergeSort
theorem srtI_asc {l : List Int} (nd : l.Nodup) : (srtI l).Pairwise (· < ·) :=
  asc_of_sorted (lt := fun a b : Int => a < b) (fun a b h g => by omega) (fun a b => by
    show decide (a ≤ b) = !decide (b < a)
    by_cases h : a ≤ b
    · rw [decide_eq_true h, decide_eq_false (by omega)] <;> rfl
    · rw [decide_eq_false h, decide_eq_true (by omega)] <;> rfl) (fun a b c x y => Int.lt_trans x y) (fun a => Int.lt_irrefl a) nd
theorem ascI {l m : List Int} (hl : l.Pairwise (· < ·)) (hm : m.Pairwise (· < ·)) (h : ∀ x, x ∈ l ↔ x ∈ m) : l = m :=
  asc_unique (fun a => Int.lt_irrefl a) (fun a b c x y => Int.lt_trans x y) hl hm h
theorem ascI_nodup {l : List Int} (h : l.Pairwise (· < ·)) : l.Nodup := List.nodup_iff_pairwise_ne.mpr (h.imp fun z e => by omega)
/-- the states to which silent edges lead -/
inductive Rch (E : List Ed) (S : List Int) : Int → Prop
  | base {x : Int} : x ∈ S → Rch E S x
  | step {x y : Int} : Rch E S x → (x, ("tau" : Str), y) ∈ E → Rch E S y
/-- the closure of states, ascending -/
structure IsClo (E : List Ed) (S cs : List Int) : Prop where
  asc : cs.Pairwise (· < ·)
  mem : ∀ x, x ∈ cs ↔ Rch E S x
theorem Rch.imp {E E' : List Ed} {S S' : List Int} (hE : ∀ e, e ∈ E → e ∈ E') (hS : ∀ x, x ∈ S → x ∈ S') {x : Int} (h : Rch E S x) : Rch E' S' x := by
  induction h with
  | base h => exact .base (hS _ h)
  | step _ h ih => exact .step ih (hE _ h)
theorem IsClo.congr {E E' : List Ed} {S S' cs : List Int} (h : IsClo E S cs) (hE : ∀ e, e ∈ E ↔ e ∈ E') (hS : ∀ x, x ∈ S ↔ x ∈ S') : IsClo E' S' cs :=
  ⟨h.asc, fun x => (h.mem x).trans ⟨fun z => z.imp (fun e => (hE e).1) (fun x => (hS x).1), fun z => z.imp (fun e => (hE e).2) (fun x => (hS x).2)⟩⟩
theorem IsClo.uniq {E : List Ed} {S cs ds : List Int} (h : IsClo E S cs) (g : IsClo E S ds) : cs = ds := ascI h.asc g.asc fun x => (h.mem x).trans (g.mem x).symm
theorem Rch.range {E : List Ed} {S : List Int} {P : Int → Prop} (hE : ∀ e ∈ E, P e.2.2) (hS : ∀ x ∈ S, P x) {x : Int} (h : Rch E S x) : P x := by
  cases h with
  | base h => exact hS _ h
  | step _ h => exact hE _ h
end VQ

set_option Elab.async false
set_option linter.all false
set_option maxRecDepth 100000
set_option maxHeartbeats 4000000
namespace LW
open PySem PySem.Spec PyProof.Rows L2 LamX NdefX VB VM VP VE VX VQ
abbrev s_System__check_state : Stmt := inClass (top 39) 7
theorem sc_System__check_state : FnScope ["self", "state"] ["self", "state"] (defScope s_System__check_state) := ⟨rfl, rfl, rfl, by decide +kernel, rfl, by decide +kernel, by decide +kernel⟩
abbrev s_System_targets : Stmt := inClass (top 39) 3
theorem sc_System_targets : FnScope ["self", "state", "action"] ["self", "state", "action"] (defScope s_System_targets) := ⟨rfl, rfl, rfl, by decide +kernel, rfl, by decide +kernel, by decide +kernel⟩
section
variable {P : Program} {w : World} {K : PySem.W.Frag} {mg : Str → Option Value} {base : Heap}
/-- the state is there, or BadArgument -/
def spStX (K : PySem.W.Frag) (C CB : Addr) : Sp := fun vs H Q E => ∃ (φ : Addr → Prop) (p : Addr) (n : Int) (E0 : List Ed) (s : Int), vs = [.ref p, .int s] ∧ SysAt K φ C H p n E0 ∧ (0 ≤ s ∧ s < n → Q .non H) ∧ (¬ (0 ≤ s ∧ s < n) → E (.ref CB) none H)
theorem c_stateX {C CB f : Addr} {fd : FuncData} (T : SysTxt K C) (me : Meth K C "_check_state" f) (F : FunD K "_check_state" "System._check_state" (defArgs s_System__check_state) (defBody s_System__check_state) (defScope s_System__check_state) [] [] f fd)
    (e_BadArgument : VE.Own K mg "BadArgument" CB) : VE.MetX P w K mg base 1 C "_check_state" (spStX K C CB) := by
  refine metXOf T.cl me F sc_System__check_state (fun _ _ _ _ _ _ us hl => match us, hl with | [_, _], _ => rfl) (fun vs H Q E h => ?_) (fun cdv A outer s H vs Q E hr h => ?_)
  · obtain ⟨φ, p, n, E0, s, rfl, _⟩ := h
    rfl
  obtain ⟨φ, p, n, E0, s, rfl, ⟨⟨dx, te, ll, td, LE, rows, kvs, S⟩, _, _⟩, q, qe⟩ := h
  refine ⟨_, (pss_one (ps_if (pt_not (pt_chain op_le op_lt pe_int (pv 1) (pe_fld (pv 0) rfl)))
      (pss_one (ps_raise rfl (takes_of rfl rfl rfl rfl) (pmk_own PySem.F.excBase_ValueError e_BadArgument.xP e_BadArgument.at_ e_BadArgument.kP (raises_own e_BadArgument.bP e_BadArgument.tP) rfl)))
      pss_nil)), ?_⟩
  refine ⟨_, rfl, _, _, rfl, rfl, _, rfl, ?_⟩
  by_cases s0 : 0 ≤ s
  case neg => exact iteFe (decide_eq_false s0) ⟨_, rfl, iteT (qe fun z => s0 z.1)⟩
  refine iteTe (decide_eq_true s0) ⟨_, rfl, p, C, dx, _, _, rfl, S.hp, T.cl, T.n0, fl_count n te ll td, _, _, rfl, rfl, _, rfl, ?_⟩
  by_cases s1 : s < n
  case neg => exact iteTe (by rw [decide_eq_false s1] <;> rfl) (qe fun z => s1 z.2)
  exact iteNT s1 (q ⟨s0, s1⟩)
theorem SysIn.rowAt {φ : Addr → Prop} {C p : Addr} {H : Hp} {n : Int} {E : List Ed} {dx te ll td : Addr} {LE : List (Addr × Ed)} {rows : List Addr} {kvs : List (List Key × V)} (S : SysIn K φ C H p n E dx te ll td LE rows kvs) {s : Int} (s0 : 0 ≤ s) (s1 : s < n) :
    ∃ (a : Addr) (LP : List (Addr × Pr)), atI (rows.map V.ref) s = some (.ref a) ∧ H a = some (.lst (refs LP)) ∧ Pqs K H LP ∧ LP.map (·.2) = leav E s := by
  have lts : s.toNat < rows.length := by have := S.len; omega
  have es : s = ((s.toNat : Nat) : Int) := by omega
  have ha : rows[s.toNat]? = some rows[s.toNat] := List.getElem?_eq_getElem lts
  generalize rows[s.toNat] = a at ha
  obtain ⟨_, LP, g1, g2, g3⟩ := S.row _ _ ha
  exact ⟨a, LP, by rw [es]; exact atI_nat (by rw [List.getElem?_map, ha] <;> rfl), g1, g2, by rw [g3, ← es]⟩
def spTargX (K : PySem.W.Frag) (C CB : Addr) : Sp := fun vs H Q E => ∃ (φ : Addr → Prop) (p : Addr) (n : Int) (E0 : List Ed) (s : Int) (x : Str), vs = [.ref p, .int s, .str x] ∧ SysAt K φ C H p n E0 ∧ (¬ (0 ≤ s ∧ s < n) → E (.ref CB) none H) ∧
  (0 ≤ s ∧ s < n → ∀ (q : Addr) (H' : Hp), Same H H' → H q = none → H' q = some (.lst ((tg E0 s x).map V.int)) → Q (.ref q) H')
theorem c_targetsX {C CB f : Addr} {fd : FuncData} (T : SysTxt K C) (me : Meth K C "targets" f) (F : FunD K "targets" "System.targets" (defArgs s_System_targets) (defBody s_System_targets) (defScope s_System_targets) [] [] f fd)
    (z_list : mg "list" = none) (c_System__check_state : VE.MetX P w K mg base 1 C "_check_state" (spStX K C CB)) : VE.MetX P w K mg base 2 C "targets" (spTargX K C CB) := by
  refine metXOf T.cl me F sc_System_targets (fun _ _ _ _ _ _ us hl => match us, hl with | [_, _, _], _ => rfl) (fun vs H Q E h => ?_) (fun cdv A outer s H vs Q E hr h => ?_)
  · obtain ⟨φ, p, n, E0, s, x, rfl, _⟩ := h
    rfl
  obtain ⟨φ, p, n, E0, s, x, rfl, SA, qe, q⟩ := h
  have SA' := SA
  obtain ⟨⟨dx, te, ll, td, LE, rows, kvs, S⟩, _, _⟩ := SA
  refine ⟨_, (pss_cons (ps_expr (VE.pe_mX c_System__check_state hr (by first | decide | omega) (takes_of rfl rfl rfl rfl) (pv 0) (pa_cons (pv 1) pa_nil)))
    (pss_one (ps_ret (pe_callTy (VK.listQ (K := K) rfl) (by rfl) z_list (by decide +kernel) (pa_cons (pe_dget2 (hu_of hr) (pe_fld (pv 0) rfl) (pe_tup (pa_cons (pv 1) (pa_cons (pv 2) pa_nil))) (pe_lst pa_nil) ⟨rfl, rfl, rfl, rfl⟩) pa_nil))))), ?_⟩
  refine ⟨_, rfl, p, dx, _, rfl, S.hp, fl_none n te ll td (by decide +kernel) (by decide +kernel) (by decide +kernel) (by decide +kernel), _, rfl, φ, p, n, E0, s, rfl, SA', fun hs => ?_, qe⟩
  refine ⟨_, rfl, p, C, dx, _, _, rfl, S.hp, T.cl, T.n3, fl_targ n te ll td, td, rfl, .inr ⟨_, .inl S.tab.at_⟩, _, rfl, _, rfl, (by show 2 ≤ sizeLine; decide), fun k nk => ⟨Nat.zero_le _, fun z nz => ?_⟩⟩
  have sk := same_upd nk (.tup [.int s, .str x])
  have sz := same_upd nz (.lst [])
  have skz := sk.trans sz
  have hz : upd (upd H k (.tup [.int s, .str x])) z (.lst []) z = some (.lst []) := upd_same
  have hk : upd (upd H k (.tup [.int s, .str x])) z (.lst []) k = some (.tup [.int s, .str x]) := sz _ _ upd_same
  generalize upd (upd H k (.tup [.int s, .str x])) z (.lst []) = H2 at hz hk skz ⊢
  refine ⟨_, DGet.t (k := kT s x) (skz _ _ S.tab.at_) hk, ?_⟩
  cases hv : valV kvs (kT s x) with
  | none =>
    have e := S.tab.none_ s x hv
    refine ⟨z, _, rfl, .inl (SqL.of hz), fun l nl => q hs l _ (skz.trans (same_upd nl _)) (skz.free nl) ?_⟩
    rw [e]
    exact upd_same
  | some v =>
    obtain ⟨b, s', x', e1, e2, e3, _⟩ := S.tab.some_ _ _ hv
    obtain ⟨rfl, rfl⟩ : s = s' ∧ x = x' := by
      injection e1 with a1 a2
      injection a2 with a2 _
      exact ⟨Sum.inl.inj a1, Sum.inr.inj a2⟩
    subst e2
    exact ⟨b, _, rfl, .inl (SqL.of (skz _ _ e3)), fun l nl => q hs l _ (skz.trans (same_upd nl _)) (skz.free nl) upd_same⟩
end
end LW

set_option Elab.async false
set_option linter.all false
set_option maxRecDepth 100000
set_option maxHeartbeats 4000000
namespace VR
open PySem PySem.Spec PyProof.Rows L2 LamX NdefX VB VM
/-- < of data -/
def rLtD (K : PySem.W.Frag) : R2 := fun x y H Q => ∃ d e, Dp K H x d ∧ Dp K H y e ∧ PySem.W.alike d e = true ∧ d ≠ .none ∧ d.depth ≤ 60 ∧ Q (.bl (PySem.W.dataLt d e)) H
theorem ltD {X : Cx} {K : PySem.W.Frag} (h : X.K = K) (hu : X.A.units + 65 < cLine) : OpR X (compareOp .Lt) (rLtD K) := by
  subst h
  intro pins s σ H x y v u Q I rx ry hh
  obtain ⟨d, e, hd, he, ha, hn, hdp, q⟩ := hh
  obtain ⟨as, r1⟩ := Dp.reads I d x v hd rx
  obtain ⟨bs, r2⟩ := Dp.reads I e y u he ry
  exact PySem.W.lt_data r1 r2 ha hn (by omega) ⟨.bl _, H, I, rfl, q⟩
/-- xs.index(x) of a tuple of texts -/
def rIxOf (K : PySem.W.Frag) : V → List V → Hp → VK → Prop := fun x xs H Q => ∃ (p : Addr) (ys : List Str) (z : Str) (j : Nat), x = .ref p ∧ xs = [.str z] ∧ SqT K H p (ys.map V.str) ∧ ys[j]? = some z ∧ (∀ m, m < j → ys[m]? ≠ some z) ∧ Q (.int (j : Nat)) H
theorem ixOf {X : Cx} {K : PySem.W.Frag} (h : X.K = K) : MtR X "tuple.index" (rIxOf K) := by
  subst h
  intro pins s σ H x xs v us Q I rx rs hh
  obtain ⟨p, ys, z, j, a, b, c, d, e, q⟩ := hh
  exact mt_tup_index pins s σ H x xs v us Q I rx rs ⟨p, ys, z, j, a, b, c, d, e, q⟩
/-- a written tuple without a dict -/
def tupN (K : PySem.W.Frag) (a : Addr) : Bool := match K.lookup a with
  | some ⟨.type c, none, .seq _ _, _⟩ => decide (c = "tuple")
  | _ => false
abbrev TupN (K : PySem.W.Frag) (a : Addr) : Prop := ∃ o, K.lookup a = some o ∧ o.cls = .type "tuple" ∧ o.dict = none
theorem tupN_ok {K : PySem.W.Frag} {a : Addr} (h : tupN K a = true) : TupN K a := by
  unfold tupN at h
  split at h
  · rename_i c its n sl q
    exact ⟨_, q, congrArg Value.type (of_decide_eq_true h), rfl⟩
  · cases h
end VR

set_option Elab.async false
set_option linter.all false
set_option maxRecDepth 100000
set_option maxHeartbeats 4000000
namespace VZ
open PySem PySem.Spec PyProof.Rows L2 LamX NdefX VB VM
/-! what is walked may be a list or a tuple -/
def iSeq (K : PySem.W.Frag) (tl : TE) : TI := fun σ H R => tl σ H fun x H1 => ∃ a, x = .ref a ∧ (((∃ xs, SqL K H1 a xs) ∧ R (Itl K a) H1) ∨ ((∃ xs, SqT K H1 a xs) ∧ R (Itt K a) H1))
theorem pi_seq {X : Cx} {K : PySem.W.Frag} {tg : Expr} (h : X.K = K) {l : Expr} {tl : TE} (hl : PE X l tl) : PI X tg l (iSeq K tl) := by
  subst h
  refine ⟨fun pins s σ H R I h => ?_⟩
  refine thn (hl.run pins s σ H _ I h) fun v s1 ⟨x, H1, I1, r1, q1⟩ => ?_
  obtain ⟨a, e, q⟩ := q1
  subst e
  cases r1
  rcases q with ⟨⟨xs, hq⟩, q⟩ | ⟨⟨xs, hq⟩, q⟩
  · obtain ⟨its, rv, p, hz⟩ := I1.list hq
    refine wpAny_pyIter_list p.isList ?_
    refine ⟨s1.heap.objs.size, [s1.heap.objs.size], _, _, H1, rfl, I1.kept (t' := s1.toks) fun b o e => Heap.get?_push_of_some _ e, turn_list a _, ⟨_, Heap.get?_push_size _ rfl, rfl, rfl⟩, fun b hb => ?_, q⟩
    have e : b = s1.heap.objs.size := by simpa using hb
    subst e
    exact I1.fpOk (Nat.le_refl _) (I1.hok.fresh (Nat.le_refl _))
  · obtain ⟨its, rv, p, hz⟩ := I1.tuple hq
    refine wpAny_pyIter_tuple (show s1.heap.IsTuple a its.toArray from p) ?_
    refine ⟨s1.heap.objs.size, [s1.heap.objs.size], _, _, H1, rfl, I1.kept (t' := s1.toks) fun b o e => Heap.get?_push_of_some _ e, turn_tuple a _, ⟨_, Heap.get?_push_size _ rfl, rfl, rfl⟩, fun b hb => ?_, q⟩
    have e : b = s1.heap.objs.size := by simpa using hb
    subst e
    exact I1.fpOk (Nat.le_refl _) (I1.hok.fresh (Nat.le_refl _))
theorem dc_list {K : PySem.W.Frag} {a : Addr} {xs : List V} {g : TG} {tt : TT} {tk tv : TE} {vs : List Nat} {σ : L2.St} {H1 : Hp} {D : Addr} {Qd : Hp → Prop} (Pv : Nat → Hp → Prop) (h0 : Pv 0 (upd H1 D (.dK []))) (hl : ∀ i H, i ≤ xs.length → Pv i H → SqL K H a xs)
    (hs : ∀ i x H, xs[i]? = some x → Pv i H → g x (wipe σ vs) H fun σ2 H2 => wipe σ2 vs = wipe σ vs ∧ tt σ2 H2 fun b H3 =>
      if b = true then tk σ2 H3 fun y H4 => tv σ2 H4 fun z H5 => ∃ kvs k, y = kV k ∧ H5 D = some (.dK kvs) ∧ kvs.length < sizeLine ∧ Pv (i + 1) (upd H5 D (.dK (putK kvs k z))) else Pv (i + 1) H3) (hd : ∀ H, Pv xs.length H → Qd H) :
    ∃ W : Nat → Nat → Hp → Prop, (∃ m, W 0 m (upd H1 D (.dK []))) ∧ ∀ i m H, W i m H →
      ((Itl K a).stop i H ∧ Qd H) ∨ ((Itl K a).go i H ∧ ∃ Nx : Hp → Prop, (∀ H', Nx H' → ∃ m', m' < m ∧ W (i + 1) m' H') ∧ ∀ x H', (Itl K a).yld i H x H' → g x (wipe σ vs) H' fun σ2 H2 => wipe σ2 vs = wipe σ vs ∧ tt σ2 H2 fun b H3 =>
        if b = true then tk σ2 H3 fun y H4 => tv σ2 H4 fun z H5 => ∃ kvs k, y = kV k ∧ H5 D = some (.dK kvs) ∧ kvs.length < sizeLine ∧ Nx (upd H5 D (.dK (putK kvs k z))) else Nx H3) := by
  refine ⟨fun i m H => m = xs.length - i ∧ i ≤ xs.length ∧ Pv i H, ⟨xs.length, by simp, Nat.zero_le _, h0⟩, ?_⟩
  rintro i m H ⟨rfl, hi, p⟩
  have q := hl i H hi p
  by_cases hlt : i < xs.length
  · refine .inr ⟨⟨xs, xs[i], q, by simp [hlt]⟩, Pv (i + 1), fun H' p' => ⟨xs.length - (i + 1), by omega, rfl, hlt, p'⟩, fun x H' y => ?_⟩
    obtain ⟨e, y⟩ := y
    subst e
    exact hs i x _ (y xs q) p
  · have e : i = xs.length := by omega
    subst e
    exact .inl ⟨⟨xs, q, Nat.le_refl _⟩, hd H p⟩
abbrev SqA (K : PySem.W.Frag) (H : Hp) (a : Addr) (xs : List V) : Prop := SqL K H a xs ∨ SqT K H a xs
theorem sqA_same {K : PySem.W.Frag} {H H' : Hp} {a : Addr} {xs : List V} (s : Same H H') (h : SqA K H a xs) : SqA K H' a xs := h.elim (fun z => .inl (s.seq z)) fun z => .inr (VB.Same.sqT s z)
/-- for over a list or a tuple that stands in H0 -/
theorem for_seq {K : PySem.W.Frag} {a : Addr} {xs : List V} {g : TG} {tb : TS} {D : Ends} {σ : L2.St} {H H0 : Hp} (hq : SqA K H0 a xs) (Pv : Nat → L2.St → Hp → Prop) (h0 : Pv 0 σ H) (s0 : Same H0 H) (hl : ∀ i σ H, Pv i σ H → Same H0 H)
    (hs : ∀ i x σ H, xs[i]? = some x → Pv i σ H → g x σ H fun σ2 H2 => tb { D with nx := Pv (i + 1), ct := Pv (i + 1), bk := D.nx } σ2 H2) (hd : ∀ σ H, Pv xs.length σ H → D.nx σ H) :
    (((∃ xs, SqL K H a xs) ∧ ∃ W : Nat → Nat → L2.St → Hp → Prop, (∃ m, W 0 m σ H) ∧ ∀ i m σ H, W i m σ H →
      ((Itl K a).stop i H ∧ D.nx σ H) ∨ ((Itl K a).go i H ∧ ∃ N : L2.St → Hp → Prop, (∀ σ' H', N σ' H' → ∃ m', m' < m ∧ W (i + 1) m' σ' H') ∧ ∀ x H', (Itl K a).yld i H x H' → g x σ H' fun σ2 H2 => tb { D with nx := N, ct := N, bk := D.nx } σ2 H2)) ∨
    ((∃ xs, SqT K H a xs) ∧ ∃ W : Nat → Nat → L2.St → Hp → Prop, (∃ m, W 0 m σ H) ∧ ∀ i m σ H, W i m σ H →
      ((Itt K a).stop i H ∧ D.nx σ H) ∨ ((Itt K a).go i H ∧ ∃ N : L2.St → Hp → Prop, (∀ σ' H', N σ' H' → ∃ m', m' < m ∧ W (i + 1) m' σ' H') ∧ ∀ x H', (Itt K a).yld i H x H' → g x σ H' fun σ2 H2 => tb { D with nx := N, ct := N, bk := D.nx } σ2 H2))) := by
  rcases hq with hq | hq
  · exact .inl ⟨⟨_, s0.seq hq⟩, for_list Pv h0 (fun i σ H _ p => (hl i σ H p).seq hq) hs hd⟩
  · exact .inr ⟨⟨_, VB.Same.sqT s0 hq⟩, for_tup Pv h0 (fun i σ H _ p => VB.Same.sqT (hl i σ H p) hq) hs hd⟩
/-- a list comprehension over it -/
theorem lc_seq {K : PySem.W.Frag} {a : Addr} {xs : List V} {g : TG} {tt : TT} {te : TE} {vs : List Nat} {σ : L2.St} {H1 H0 : Hp} {Qd : Addr → Hp → Prop} (hq : SqA K H0 a xs) (s0 : Same H0 H1) (Pv : Addr → Nat → Hp → Prop) (h0 : ∀ D, H1 D = none → Pv D 0 (upd H1 D (.lst []))) (hl : ∀ D i H, Pv D i H → Same H0 H)
    (hs : ∀ D, H1 D = none → ∀ i x H, xs[i]? = some x → Pv D i H → g x (wipe σ vs) H fun σ2 H2 => wipe σ2 vs = wipe σ vs ∧ tt σ2 H2 fun b H3 =>
      if b = true then te σ2 H3 fun y H4 => ∃ acc, H4 D = some (.lst acc) ∧ acc.length < sizeLine ∧ Pv D (i + 1) (upd H4 D (.lst (acc ++ [y]))) else Pv D (i + 1) H3) (hd : ∀ D, H1 D = none → ∀ H, Pv D xs.length H → Qd D H) :
    (((∃ xs, SqL K H1 a xs) ∧ ∀ D, H1 D = none → ∃ W : Nat → Nat → Hp → Prop, (∃ m, W 0 m (upd H1 D (.lst []))) ∧ ∀ i m H, W i m H →
      ((Itl K a).stop i H ∧ Qd D H) ∨ ((Itl K a).go i H ∧ ∃ Nx : Hp → Prop, (∀ H', Nx H' → ∃ m', m' < m ∧ W (i + 1) m' H') ∧ ∀ x H', (Itl K a).yld i H x H' → g x (wipe σ vs) H' fun σ2 H2 => wipe σ2 vs = wipe σ vs ∧ tt σ2 H2 fun b H3 =>
        if b = true then te σ2 H3 fun y H4 => ∃ acc, H4 D = some (.lst acc) ∧ acc.length < sizeLine ∧ Nx (upd H4 D (.lst (acc ++ [y]))) else Nx H3)) ∨
    ((∃ xs, SqT K H1 a xs) ∧ ∀ D, H1 D = none → ∃ W : Nat → Nat → Hp → Prop, (∃ m, W 0 m (upd H1 D (.lst []))) ∧ ∀ i m H, W i m H →
      ((Itt K a).stop i H ∧ Qd D H) ∨ ((Itt K a).go i H ∧ ∃ Nx : Hp → Prop, (∀ H', Nx H' → ∃ m', m' < m ∧ W (i + 1) m' H') ∧ ∀ x H', (Itt K a).yld i H x H' → g x (wipe σ vs) H' fun σ2 H2 => wipe σ2 vs = wipe σ vs ∧ tt σ2 H2 fun b H3 =>
        if b = true then te σ2 H3 fun y H4 => ∃ acc, H4 D = some (.lst acc) ∧ acc.length < sizeLine ∧ Nx (upd H4 D (.lst (acc ++ [y]))) else Nx H3))) := by
  rcases hq with hq | hq
  · exact .inl ⟨⟨_, s0.seq hq⟩, fun D nD => lc_list (Pv D) (h0 D nD) (fun i H _ p => (hl D i H p).seq hq) (hs D nD) (hd D nD)⟩
  · exact .inr ⟨⟨_, VB.Same.sqT s0 hq⟩, fun D nD => lc_tup (Pv D) (h0 D nD) (fun i H _ p => VB.Same.sqT (hl D i H p) hq) (hs D nD) (hd D nD)⟩
/-- a dict comprehension over it -/
theorem dc_seq {K : PySem.W.Frag} {a : Addr} {xs : List V} {g : TG} {tt : TT} {tk tv : TE} {vs : List Nat} {σ : L2.St} {H1 H0 : Hp} {Qd : Addr → Hp → Prop} (hq : SqA K H0 a xs) (s0 : Same H0 H1) (Pv : Addr → Nat → Hp → Prop) (h0 : ∀ D, H1 D = none → Pv D 0 (upd H1 D (.dK []))) (hl : ∀ D i H, Pv D i H → Same H0 H)
    (hs : ∀ D, H1 D = none → ∀ i x H, xs[i]? = some x → Pv D i H → g x (wipe σ vs) H fun σ2 H2 => wipe σ2 vs = wipe σ vs ∧ tt σ2 H2 fun b H3 =>
      if b = true then tk σ2 H3 fun y H4 => tv σ2 H4 fun z H5 => ∃ kvs k, y = kV k ∧ H5 D = some (.dK kvs) ∧ kvs.length < sizeLine ∧ Pv D (i + 1) (upd H5 D (.dK (putK kvs k z))) else Pv D (i + 1) H3) (hd : ∀ D, H1 D = none → ∀ H, Pv D xs.length H → Qd D H) :
    (((∃ xs, SqL K H1 a xs) ∧ ∀ D, H1 D = none → ∃ W : Nat → Nat → Hp → Prop, (∃ m, W 0 m (upd H1 D (.dK []))) ∧ ∀ i m H, W i m H →
      ((Itl K a).stop i H ∧ Qd D H) ∨ ((Itl K a).go i H ∧ ∃ Nx : Hp → Prop, (∀ H', Nx H' → ∃ m', m' < m ∧ W (i + 1) m' H') ∧ ∀ x H', (Itl K a).yld i H x H' → g x (wipe σ vs) H' fun σ2 H2 => wipe σ2 vs = wipe σ vs ∧ tt σ2 H2 fun b H3 =>
        if b = true then tk σ2 H3 fun y H4 => tv σ2 H4 fun z H5 => ∃ kvs k, y = kV k ∧ H5 D = some (.dK kvs) ∧ kvs.length < sizeLine ∧ Nx (upd H5 D (.dK (putK kvs k z))) else Nx H3)) ∨
    ((∃ xs, SqT K H1 a xs) ∧ ∀ D, H1 D = none → ∃ W : Nat → Nat → Hp → Prop, (∃ m, W 0 m (upd H1 D (.dK []))) ∧ ∀ i m H, W i m H →
      ((Itt K a).stop i H ∧ Qd D H) ∨ ((Itt K a).go i H ∧ ∃ Nx : Hp → Prop, (∀ H', Nx H' → ∃ m', m' < m ∧ W (i + 1) m' H') ∧ ∀ x H', (Itt K a).yld i H x H' → g x (wipe σ vs) H' fun σ2 H2 => wipe σ2 vs = wipe σ vs ∧ tt σ2 H2 fun b H3 =>
        if b = true then tk σ2 H3 fun y H4 => tv σ2 H4 fun z H5 => ∃ kvs k, y = kV k ∧ H5 D = some (.dK kvs) ∧ kvs.length < sizeLine ∧ Nx (upd H5 D (.dK (putK kvs k z))) else Nx H3))) := by
  rcases hq with hq | hq
  · exact .inl ⟨⟨_, s0.seq hq⟩, fun D nD => dc_list (Pv D) (h0 D nD) (fun i H _ p => (hl D i H p).seq hq) (hs D nD) (hd D nD)⟩
  · exact .inr ⟨⟨_, VB.Same.sqT s0 hq⟩, fun D nD => dc_tup (Pv D) (h0 D nD) (fun i H _ p => VB.Same.sqT (hl D i H p) hq) (hs D nD) (hd D nD)⟩
/-- y = {k: v for ..}, y a local of its own -/
theorem ps_setDc {X : Cx} {i : Nat} {y : Str} {py : Pos} {kx vx tg iter : Expr} {ifs : List Expr} {scope : Scope} {own : List (Str × Nat)} {pos spos : Pos} {wi : TI} {g : TG} {tt : TT} {tk tv : TE} (hc : X.calm = true) (hN : X.N.Nodup) (hy : X.N[i]? = some y) (hyl : X.env.scope.names.lookup y = some .local)
    (hsw : swapsWith (.DictComp kx vx [⟨tg, iter, ifs, 0⟩] scope pos) (some (.Name y py)) spos.line X.env = pure true) (hi : PI X tg iter wi) (ok : BlkOk X.N X.env.scope scope own)
    (hg : ∀ (s : Shared) (H : Hp) (C : Addr) (cl : List (Str × Addr)) (fp : List Addr), PG (X.blk s H scope (compEnvC scope cl C X.env) fp) tg g) (ht : ∀ (s : Shared) (H : Hp) (C : Addr) (cl : List (Str × Addr)) (fp : List Addr), PTs (X.blk s H scope (compEnvC scope cl C X.env) fp) ifs tt)
    (hk : ∀ (s : Shared) (H : Hp) (C : Addr) (cl : List (Str × Addr)) (fp : List Addr), PE (X.blk s H scope (compEnvC scope cl C X.env) fp) kx tk)
    (he : ∀ (s : Shared) (H : Hp) (C : Addr) (cl : List (Str × Addr)) (fp : List Addr), PE (X.blk s H scope (compEnvC scope cl C X.env) fp) vx tv) (hs : ∀ x, foldedSetIterable iter X.env x = pure x := by intro _; rfl) :
    PS X (.Assign [.Name y py] (.DictComp kx vx [⟨tg, iter, ifs, 0⟩] scope pos) spos) (tAsg (tDc wi g tt tk tv (own.map (·.2))) (gName i)) := by
  refine ⟨fun pins s σ H D I h => ?_⟩
  rw [exec_Assign_Name_used _ _ _ _ hsw]
  refine wpAny_bind (wpAny_standAt (wpAny_bind ?_))
  show wpAny _ X.A (do let _ ← comprehension (.DictComp kx vx [⟨tg, iter, ifs, 0⟩] scope pos) scope X.env (firstIterPos [⟨tg, iter, ifs, 0⟩] pos) newDict false (eval iter X.env) (some (assign (.Name y py) X.env))) _ _ s
  have h : tDc wi g tt tk tv (own.map (·.2)) σ H (fun x H1 => gName i x σ H1 D.nx) := h
  refine wpAny_bind (thn (dc_core (Qf := fun _ s' => SP X pins D .next s') hc hN I hi ok hg ht hk he hs h fun L C s' m H' I' q hn f => ?_) fun _ s' hq => wpAny_pure (wpAny_pure hq))
  show wpAny _ _ (assign (.Name y py) X.env (.ref L)) _ _ _
  refine wpAny_assign_Name (store_ok2 (v := V.ref L) I' hN hy (.inl hyl) rfl (fun s2 I2 ⟨a, sb, ha⟩ => ?_) (.inr hyl))
  obtain ⟨f0, f1, f2, f3, f4, f5⟩ := f
  have haC : C ≠ a := by
    rcases ha with z | z
    · rw [z]; exact f1
    · exact fun e => f4 y a z e.symm
  refine ⟨m, hn.sameBut sb haC, fun h3 sb3 => ?_⟩
  exact ⟨_, H', I2.turned (t' := s2.toks) (fun b o hb e => (sb3.2 b hb).trans e) f0 f1 f3 f4 f5, q⟩
theorem sw_trueD {kx vx : Expr} {gs : List Comprehension} {scope : Scope} {pos py : Pos} {y : Str} {l : Nat} {env : Env} (hk : env.scope.kind = .function) (hy : env.scope.names.lookup y = some .local) (hl : (py.line == pos.line) = true)
    (ha : (scope.names.any fun (n, k) => n == y && (k == .local || k == .cell)) = false) : swapsWith (.DictComp kx vx gs scope pos) (some (.Name y py)) l env = pure true := by
  have ky : env.kindOf y = some .local := hy
  have hb : env.blockKind = .function := by unfold Env.blockKind; rw [hk]; rfl
  unfold swapsWith
  simp only [hb, ky, ha, Expr.pos, hl]
  rfl
theorem putK_len {κ : Type} [DecidableEq κ] (c : List (κ × V)) (k : κ) (x : V) : (putK c k x).length ≤ c.length + 1 := by
  unfold putK
  by_cases e : (c.any fun kv => decide (kv.1 = k)) = true
  · rw [if_pos e, List.length_map]
    omega
  · rw [if_neg e, List.length_append, List.length_singleton]
    exact Nat.le_refl _
theorem catA {X : Cx} {K : PySem.W.Frag} (h : X.K = K) : OpR X (binaryOp .Add) (rCatA K) := by subst h; exact op_catA
end VZ

set_option Elab.async false
set_option linter.all false
set_option maxRecDepth 100000
set_option maxHeartbeats 4000000
namespace VD
open PySem PySem.W PySem.Calls PyProof.Rows PySem.SeqAt
/-! sorted of tuples some of which may be empty -/
section
variable {prog : Program} {w : World} {A : Around} {E : Value → Shared → Prop} {s : Shared}
theorem call_tuple_lt {Q : Value → Shared → Prop} {l b : Addr} {items items2 : Array Value} {e r : Nat → Bool} (hl : s.heap.IsTuple l items) (hb : s.heap.IsTuple b items2)
    (he : ∀ j (h1 : j < items.size) (h2 : j < items2.size), EqAt A.in1 s items[j] items2[j] (e j)) (hr : ∀ j (h1 : j < items.size) (h2 : j < items2.size), e j = false → RcLt A.in1 s items[j] items2[j] (r j))
    (h : Q (.bool (firstLt e r (decide (items.size < items2.size)) (List.range (min items.size items2.size)))) s) : wpAny (model prog w) A (call (.builtin "tuple.__lt__") [.ref l, .ref b]) Q E s := by
  obtain ⟨⟨cls, dd, data, sl⟩, ho, hc, n, hd⟩ := id hl
  obtain ⟨⟨cls2, dd2, data2, sl2⟩, ho2, hc2, n2, hd2⟩ := id hb
  simp only at hc hd hc2 hd2
  subst hc hd hc2 hd2
  exact call_meets F.slot_tuple_lt ⟨_, ho, rfl⟩ F.entry_tuple_lt (F.args_tuple_lt_2 _ _) (tuple_ltAt l b items items2 n n2 dd dd2 sl sl2 e r) ⟨ho, ho2, he, hr, h⟩
/-- one tuple against another, whatever the kind of the keys says -/
theorem oneLt_tups {f : Bool} {xs ys : List PyData} {a b : Value} {as bs : List Addr} {Q : Bool → Shared → Prop} (ra : Reads s.heap a (.tuple xs) as) (rb : Reads s.heap b (.tuple ys) bs) (h : alike (.tuple xs) (.tuple ys) = true)
    (hu : A.units + min (PyData.tuple xs).depth (PyData.tuple ys).depth < cLine) (hq : Q (dataLt (.tuple xs) (.tuple ys)) s) : wpAny (model prog w) A (oneLt' f a b) Q E s := by
  cases f with
  | false => exact oneLt_alike (fun z => nomatch z) ra rb h (fun z => nomatch z) hu hq
  | true =>
    have hal : alikeAll xs ys = true := by simpa [alike] using h
    cases ra with
    | @tuple l o vs n _ as₁ h1 h2 h3 h4 =>
      cases rb with
      | @tuple l' o' vs' n' _ bs₁ k1 k2 k3 k4 =>
        have n1 : vs.size = xs.length := by simpa using ReadsAll.length _ _ _ h4
        have n2 : vs'.size = ys.length := by simpa using ReadsAll.length _ _ _ k4
        rw [dataLt_tuple, ← firstLt_toks xs ys hal, ← n1, ← n2] at hq
        rw [oneLt'_eq]
        simp only [if_true]
        refine wpAny_bind (wpAny_cRoomFor (room_here hu) ?_)
        refine wpAny_bind (wpAny_callSpecialIfBound?_slot (T := "tuple") ⟨_, h1, h2⟩ F.slot_tuple_lt (call_tuple_lt (e := pairEq xs ys) (r := fun j => dataLt (xs.getD j .none) (ys.getD j .none)) ⟨_, h1, h2, _, h3⟩ ⟨_, k1, k2, _, k3⟩ (fun j j1 j2 => ?_) (fun j j1 j2 hj => ?_) ?_))
        · have := eqAt_alikeAll xs ys A.in1 s vs.toList vs'.toList _ _ h4 k4 hal (room_in hu) j (by simpa using j1) (by simpa using j2)
          simpa using this
        · have := rcLt_alikeAll xs ys A.in1 s vs.toList vs'.toList _ _ h4 k4 hal (room_in hu) j (by simpa using j1) (by simpa using j2) hj
          simpa using this
        · exact wpAny_truthy_bool hq
/-- the first items of tuples, those of empty ones left out -/
theorem each_firsts : ∀ {vs : List Value} {ds : List PyData} {Q : List (Option Value) → Shared → Prop}, EachIs (fun v d => ∃ as, Reads s.heap v d as) vs ds → (∀ d ∈ ds, ∃ xs, d = .tuple xs) →
    (∀ os : List (Option Value), os.length = ds.length → (∀ (i : Nat), os[i]? = some none ↔ ds[i]? = some (.tuple [])) → Q os s) → wpAny (model prog w) A (vs.mapM firstOfTuple') Q E s
  | _, _, _, .nil, _, h => by rw [List.mapM_nil]; exact wpAny_pure (h [] rfl (fun i => by simp))
  | _, _, Q, .cons (b := d) ⟨as, r⟩ t, ht, h => by
    obtain ⟨xs, rfl⟩ := ht d List.mem_cons_self
    rw [List.mapM_cons]
    refine wpAny_bind ?_
    cases r with
    | @tuple a o vs n _ _ ho hc hd hr =>
      rw [kas_first_eq]
      refine wpAny_bind (Looks.here (show Looks (model prog w) s.heap (typeOf (.ref a)) o.cls from (Looks.ld ho).andThen .now) ?_)
      rw [hc, if_neg (by first | decide | simp)]
      refine wpAny_bind (listItems_at ho hd (wpAny_pure ?_))
      refine wpAny_bind (each_firsts t (fun d hd => ht d (List.mem_cons_of_mem _ hd)) fun os l1 l2 => wpAny_pure (h _ (by rw [List.length_cons, List.length_cons, l1]) fun i => ?_))
      cases i with
      | zero =>
        have e : vs.toList.length = xs.length := ReadsAll.length _ _ _ hr
        rw [Array.length_toList] at e
        rw [List.getElem?_cons_zero, List.getElem?_cons_zero]
        constructor
        · intro z
          have y : vs[0]? = none := Option.some.inj z
          have y2 : vs.size = 0 := by
            rw [Array.getElem?_eq_none_iff] at y
            omega
          have : xs = [] := List.eq_nil_of_length_eq_zero (by omega)
          rw [this]
        · intro z
          have y : xs = [] := by
            have := Option.some.inj z
            injection this
          rw [y] at e
          have y2 : vs[0]? = none := by
            rw [Array.getElem?_eq_none_iff]
            rw [List.length_nil] at e
            omega
          rw [y2]
      | succ i =>
        rw [List.getElem?_cons_succ, List.getElem?_cons_succ]
        exact l2 i
/-- tuples that read as alike data can be sorted -/
theorem sortsT {vs : List Value} {ds : List PyData} (e : EachIs (fun v d => ∃ as, Reads s.heap v d as) vs ds) (hal : AllAlike ds) (ht : ∀ d ∈ ds, ∃ xs, d = .tuple xs) (hu : ∀ d, d ∈ ds → A.units + d.depth < cLine) : SortsAt prog w A s (dataKind s.heap ds) vs := by
  by_cases hne : ∀ d ∈ ds, ∃ x r, d = .tuple (x :: r)
  · exact SortsAt.data e hal (.inl hne) hu
  have hem : ∃ i : Nat, ds[i]? = some (.tuple []) := by
    refine Classical.byContradiction fun n => hne fun d hd => ?_
    obtain ⟨xs, rfl⟩ := ht d hd
    cases xs with
    | nil =>
      obtain ⟨i, hi, e⟩ := List.mem_iff_getElem.mp hd
      exact absurd ⟨i, by rw [List.getElem?_eq_getElem hi, e]⟩ n
    | cons x r => exact ⟨x, r, rfl⟩
  have room : ∀ {d d' : PyData}, d ∈ ds → A.units + min d.depth d'.depth < cLine := fun {d d'} hd => Nat.lt_of_le_of_lt (Nat.add_le_add_left (Nat.min_le_left _ _) _) (hu d hd)
  have lt : ∀ (f : Bool) (E : Value → Shared → Prop) (x y : Value) (a b : (dataKind s.heap ds).α) {Q : Bool → Shared → Prop}, (dataKind s.heap ds).keyOf x = some a → (dataKind s.heap ds).keyOf y = some b → Q ((dataKind s.heap ds).blt a b) s → wpAny (model prog w) A (oneLt' f x y) Q E s := by
    intro f E x y a b Q ha hb hq
    obtain ⟨d, as, hd, ra, rfl⟩ := dataKind_inv ha
    obtain ⟨d', as', hd', rb, rfl⟩ := dataKind_inv hb
    obtain ⟨xs, rfl⟩ := ht d hd
    obtain ⟨ys, rfl⟩ := ht d' hd'
    exact oneLt_tups ra rb (hal _ hd _ hd') (room hd) hq
  obtain ⟨i0, hi0⟩ := hem
  have lenE := e.length
  have ty : ∀ v ∈ vs, Looks (model prog w) s.heap (typeOf v) (Value.type "tuple") := fun v hv => by
    obtain ⟨d, hd, as, r⟩ := e.left v hv
    obtain ⟨xs, rfl⟩ := ht d hd
    exact looks_reads r
  refine ⟨fun v hv => ?_, ?_⟩
  · obtain ⟨d, hd, as, r⟩ := e.left v hv
    exact ⟨_, dataKind_some hal hd r⟩
  · by_cases h0 : ds[0]? = some (.tuple [])
    · refine ⟨oneType', fun E x y a b Q ha hb hq => lt true E x y a b ha hb hq, fun h2 E Q hq => ?_⟩
      rw [keyKind'_eq, List.mapM_toArray, map_eq_pure_bind]
      refine wpAny_bind (wpAny_bind (each_firsts e ht fun os l1 l2 => wpAny_pure ?_))
      have o0 : os[0]? = some none := (l2 0).2 h0
      have na : ¬ (os.toArray.all fun x => x.isSome) = true := by
        rw [List.all_toArray, List.all_eq_true]
        intro z
        have := z none (List.mem_of_getElem? o0)
        cases this
      rw [if_neg na, if_neg (by rw [List.getElem?_toArray, o0]; simp)]
      rw [oneTypeOnly'_eq, List.mapM_toArray, map_eq_pure_bind]
      refine wpAny_bind (wpAny_bind (wpAny_bind (kas_mapM (r := Value.type "tuple") _ (fun v hv Q' hq => (ty v hv).here hq) (wpAny_pure ?_))))
      have hall2 : ((List.map (fun _ => Value.type "tuple") vs).toArray.all fun x => x == Value.type "tuple") = true := by
        simp only [List.all_toArray, List.all_map, List.all_eq_true]
        intro _ _
        exact beq_self_eq_true _
      have h00 : (List.map (fun _ => Value.type "tuple") vs).toArray[0]? = some (Value.type "tuple") := by
        cases vs with
        | nil => simp at h2
        | cons v vs => simp
      rw [h00]
      simp only [hall2, if_true]
      exact wpAny_pure (wpAny_pure hq)
    · refine ⟨general', fun E x y a b Q ha hb hq => lt false E x y a b ha hb hq, fun h2 E Q hq => ?_⟩
      rw [keyKind'_eq, List.mapM_toArray, map_eq_pure_bind]
      refine wpAny_bind (wpAny_bind (each_firsts e ht fun os l1 l2 => wpAny_pure ?_))
      have oi : os[i0]? = some none := (l2 i0).2 hi0
      have na : ¬ (os.toArray.all fun x => x.isSome) = true := by
        rw [List.all_toArray, List.all_eq_true]
        intro z
        have := z none (List.mem_of_getElem? oi)
        cases this
      have o0 : ∃ f, os[0]? = some (some f) := by
        have lt0 : 0 < os.length := by omega
        cases q : os[0]? with
        | none =>
          rw [List.getElem?_eq_none_iff] at q
          omega
        | some o =>
          cases o with
          | none => exact absurd ((l2 0).1 q) h0
          | some f => exact ⟨f, rfl⟩
      obtain ⟨f, o0⟩ := o0
      rw [if_neg na, if_pos (by rw [List.getElem?_toArray, o0]; simp)]
      exact wpAny_pure hq
variable {β : Type} {enc : β → PyData} {R : Value → β → Prop} {vs : List Value} {bs : List β}
theorem sorted_dataT {l : Addr} {Q : Value → Shared → Prop} (hl : s.heap.IsList l vs.toArray) (e : EachIs R vs bs) (er : EachIs (fun v b => ∃ as, Reads s.heap v (enc b) as) vs bs) (hal : AllAlike (bs.map enc)) (hk : ∀ d ∈ bs.map enc, ∃ xs, d = .tuple xs) (hL : bs.length ≤ sizeLine)
    (hu : ∀ b, b ∈ bs → A.units + 2 + (enc b).depth < cLine) (h : ∀ out, out.length = bs.length → EachIs R out (bs.mergeSort (dataLe false enc)) → Q (.ref (s.heap.objs.size + 1)) { s with heap := sortedAll s.heap vs (List.toArray out) }) :
    wpAny (model prog w) A (call (.builtin "sorted") [.ref l]) Q E s := by
  have er' : EachIs (fun v b => ∃ as, Reads (sortingHeap (copyHeap s.heap vs) (s.heap.objs.size + 1) vs) v (enc b) as) vs bs := er.mono fun _ _ ⟨as, r⟩ => ⟨as, PyProof.Rows.Reads.keeps (fun _ _ => sorting_copy_old) r⟩
  exact sorted_vals hl (sortsT (s := { s with heap := sortingHeap (copyHeap s.heap vs) (s.heap.objs.size + 1) vs }) (each_map (R := fun v d => ∃ as, Reads (sortingHeap (copyHeap s.heap vs) (s.heap.objs.size + 1) vs) v d as) enc er') hal hk (bound_map hu)) (by rw [e.length]; exact hL)
    (h _ (by rw [sortVals_length false rfl]; exact e.length) (sortVals_data false e er' hal))
theorem list_sort_dataT {a : Addr} {n : Nat} {Q : Value → Shared → Prop} (ho : s.heap.get? a = some (seqObj "list" vs.toArray n)) (e : EachIs R vs bs) (er : EachIs (fun v b => ∃ as, Reads s.heap v (enc b) as ∧ a ∉ as) vs bs) (hal : AllAlike (bs.map enc)) (hk : ∀ d ∈ bs.map enc, ∃ xs, d = .tuple xs) (hL : bs.length ≤ sizeLine)
    (hu : ∀ b, b ∈ bs → A.units + 1 + (enc b).depth < cLine) (h : ∀ out, out.length = bs.length → EachIs R out (bs.mergeSort (dataLe false enc)) → Q .none { s with heap := sortedHeap s.heap a vs (List.toArray out) }) :
    wpAny (model prog w) A (call (.builtin "list.sort") [.ref a]) Q E s := by
  have er' : EachIs (fun v b => ∃ as, Reads (sortingHeap s.heap a vs) v (enc b) as) vs bs := each_keepBut (h' := sortingHeap s.heap a vs) (fun _ _ hb q => sortingHeap_old hb q) (fun o q => by rw [ho] at q; rw [← Option.some.inj q]) hal er
  refine wpAny_call_entry slot_list_sort ⟨_, ho, rfl⟩ entry_list_sort (list_sort_vals (κ := dataKind (sortingHeap s.heap a vs) (bs.map enc)) ho (sortsT (s := { s with heap := sortingHeap s.heap a vs }) (each_map (R := fun v d => ∃ as, Reads (sortingHeap s.heap a vs) v d as) enc er') hal hk (bound_map hu)) (by rw [e.length]; exact hL) ⟨.none, rfl, ?_⟩) (args_list_sort _)
  exact h _ (by rw [sortVals_length false rfl]; exact e.length) (sortVals_data false e er' hal)
end
end VD
namespace VT
open PySem PySem.Spec PyProof.Rows L2 VD
section
variable {X : Cx} {P : Program} {w : World}
/-- sorted of a set of tuples, the empty one too -/
def rSortTE (P : Program) (w : World) (K : PySem.W.Frag) : List V → Hp → VK → Prop := fun vs H Q => ∃ (a : Addr) (L : List (Addr × List Key)), vs = [V.ref a] ∧ H a = some (SetKO P w a L) ∧ (∀ p ∈ L, SqT K H p.1 (p.2.map kV)) ∧
  PySem.W.AllAlike (L.map fun p => keysD p.2) ∧ ∀ (L' : List (Addr × List Key)) (p : Addr), L'.Perm L → H p = none → Q (.ref p) (upd H p (.lst ((L'.mergeSort leK).map fun q => V.ref q.1)))
theorem cr_sortTE {K : PySem.W.Frag} (hK : X.K = K) (hP : X.prog = P) (hw : X.w = w) {k : Nat} (hc : X.calm = true) (hr : Room k X.A) : CallR X (.builtin "sorted") (rSortTE P w K) := by
  subst hK
  subst hP
  subst hw
  intro pins s σ H vs us Q I r h
  obtain ⟨a, L, rfl, ha, hk, hal, q⟩ := h
  have M0 : BareK (mixKind X.prog X.w) s.heap a L := (I.hok a _ ha).1
  obtain ⟨o, es, ep, t, ho, hx, hd, R, room, few⟩ := M0.full fun p hp => inv_tuple I (hk p hp)
  rw [Vals.ref1 r]
  have hun := hr.un
  refine Calls.call_function_entry kind_sorted plain_sorted entry_sorted (args_sorted1 _) ?_
  unfold Builtin.«sorted»
  refine wpAny_bind (m := checkCount "sorted" 1 1 _) (wpAny_pure ?_)
  refine wpAny_bind (collect_set (A := X.A.in1) (I.ok.hd hc) ⟨o, ho, hx.1, hd⟩ (R.fits (by omega)) (by rw [R.size]; exact Nat.lt_of_lt_of_le few (by decide)) R.tab.ris R.led fun s1 us1 k1 hz g1 o1 pm => ?_)
  have pm2 : us1.Perm (L.map fun p => Value.ref p.1) := by
    rw [R.rows, List.map_map] at pm
    exact pm
  obtain ⟨L', pl, rfl⟩ := perm_lift pm2
  have len : L'.length = L.length := pl.length_eq
  have lim : (L'.map fun p => Value.ref p.1).length ≤ sizeLine := by rw [List.length_map, len, sizeLine_eq]; omega
  refine wpAny_bind (wpAny_newList ?_ lim)
  have hoL : (s1.heap.push (seqObj "list" (L'.map fun p => Value.ref p.1).toArray 0)).get? s1.heap.objs.size = some (seqObj "list" (L'.map fun p => Value.ref p.1).toArray 0) := Heap.get?_push_size _ rfl
  refine wpAny_bind (wpAny_holding (list_sort_dataT (enc := fun p : Addr × List Key => keysD p.2) (bs := L') (R := fun (u : Value) (p : Addr × List Key) => u = Value.ref p.1) hoL (each_refs L') ?_ ?_ ?_ (by rw [len, sizeLine_eq]; omega) ?_ fun out lo eo => ?_))
  · have go : ∀ l : List (Addr × List Key), (∀ p ∈ l, p ∈ L) → PySem.W.EachIs (fun (u : Value) (p : Addr × List Key) => ∃ as, Reads (s1.heap.push (seqObj "list" (L'.map fun p => Value.ref p.1).toArray 0)) u (keysD p.2) as ∧ s1.heap.objs.size ∉ as) (l.map fun p => Value.ref p.1) l := by
      intro l
      induction l with
      | nil => intro _; exact .nil
      | cons p l ih =>
        intro hl
        refine .cons ⟨[], tuple_read (tuple_keep (R.mem p (hl p List.mem_cons_self)) fun o e => Heap.get?_push_of_some _ (k1 _ o e)), by simp⟩ (ih fun q hq => hl q (List.mem_cons_of_mem _ hq))
    exact go L' fun p hp => pl.mem_iff.mp hp
  · intro d hd' d' hd''
    refine hal d ?_ d' ?_
    · exact (pl.map _).mem_iff.mp hd'
    · exact (pl.map _).mem_iff.mp hd''
  · intro d hd'
    obtain ⟨p, hp, rfl⟩ := List.mem_map.mp hd'
    exact ⟨_, rfl⟩
  · intro p hp
    show X.A.units + 1 + 1 + (keysD p.2).depth < cLine
    rw [keys_depth]
    omega
  · obtain ⟨c, hc'⟩ := sortedHeap_at (vs := L'.map fun p => Value.ref p.1) (out := out.toArray) hoL
    have kp : ∀ b u, s.heap.get? b = some u → (PyProof.Rows.sortedHeap (s1.heap.push (seqObj "list" (L'.map fun p => Value.ref p.1).toArray 0)) s1.heap.objs.size (L'.map fun p => Value.ref p.1) out.toArray).get? b = some u := by
      intro b u e
      have hlt := Heap.lt_size (k1 b u e)
      rw [sortedHeap_old (Nat.ne_of_lt hlt) (by rw [size_push']; exact Nat.lt_succ_of_lt hlt)]
      exact Heap.get?_push_of_some _ (k1 b u e)
    have fr : H s1.heap.objs.size = none := I.hok.fresh hz
    have rv : Vals ((L'.mergeSort leK).map fun p => V.ref p.1) out := each_out eo
    have J : Inv X pins σ (upd H s1.heap.objs.size (.lst ((L'.mergeSort leK).map fun p => V.ref p.1)))
        { s with heap := PyProof.Rows.sortedHeap (s1.heap.push (seqObj "list" (L'.map fun p => Value.ref p.1).toArray 0)) s1.heap.objs.size (L'.map fun p => Value.ref p.1) out.toArray, gens := s1.gens, drawn := s1.drawn, toks := s1.toks } :=
      I.call (ch := []) (Un.laid kp hz fr) (I.hok.laid kp hz ⟨by rw [List.length_map, List.length_mergeSort, len, sizeLine_eq]; omega, out, c, rv, hc'⟩) (by rw [g1]; exact I.bare) (fun _ z => nomatch z)
    refine wpAny_pure ⟨_, rfl, ?_⟩
    rw [show ({ s1 with heap := PyProof.Rows.sortedHeap (s1.heap.push (seqObj "list" (L'.map fun p => Value.ref p.1).toArray 0)) s1.heap.objs.size (L'.map fun p => Value.ref p.1) out.toArray } : Shared) =
        { s with heap := PyProof.Rows.sortedHeap (s1.heap.push (seqObj "list" (L'.map fun p => Value.ref p.1).toArray 0)) s1.heap.objs.size (L'.map fun p => Value.ref p.1) out.toArray, gens := s1.gens, drawn := s1.drawn, toks := s1.toks } by rw [← o1]]
    exact ⟨.ref _, _, J, rfl, q L' _ pl fr⟩
end
end VT
namespace VD
open PySem PySem.Spec PyProof.Rows L2 LamX NdefX
/-- sorted of a list of tuples, the empty one too -/
def rSortedU {β : Type} (K : PySem.W.Frag) (emb : β → V) (enc : β → PyData) : List V → Hp → VK → Prop := fun vs H Q =>
  ∃ (a : Addr) (bs : List β), vs = [V.ref a] ∧ SqL K H a (bs.map emb) ∧ (∀ b ∈ bs, Dp K H (emb b) (enc b)) ∧
    PySem.W.AllAlike (bs.map enc) ∧ (∀ d ∈ bs.map enc, ∃ xs, d = .tuple xs) ∧ (∀ b ∈ bs, (enc b).depth ≤ 8) ∧
    ∀ p : Addr, H p = none → Q (.ref p) (upd H p (.lst ((bs.mergeSort (PySem.W.dataLe false enc)).map emb)))
section
variable {X : Cx}
theorem cr_sortedU {β : Type} {k : Nat} (emb : β → V) (enc : β → PyData) (hr : Room k X.A) : CallR X (.builtin "sorted") (rSortedU X.K emb enc) := by
  intro pins s σ H vs us Q I r h
  obtain ⟨a, bs, rfl, hs, hd, hal, hk, hdp, q⟩ := h
  obtain ⟨its, rv, hl, hz⟩ := I.list hs
  rw [Vals.ref1 r]
  have hun := hr.un
  have hlen : bs.length ≤ sizeLine := by rw [List.length_map] at hz; exact hz
  refine sorted_dataT (R := fun u b => RelV (emb b) u) hl.isList (VA.each_vals emb rv) (VA.each_reads I emb enc hd rv) hal hk hlen
    (fun b hb => by have := hdp b hb; omega) fun out ho he => ?_
  obtain ⟨ep, he'⟩ := PyProof.Rows.sortedAll_at s.heap its out.toArray
  have hl2 : ((bs.mergeSort (PySem.W.dataLe false enc)).map emb).length ≤ sizeLine := by
    rw [List.length_map, List.length_mergeSort]; exact hlen
  exact ⟨.ref _, upd H (s.heap.objs.size + 1) (.lst ((bs.mergeSort (PySem.W.dataLe false enc)).map emb)),
    I.laid (t' := s.toks) (fun _ _ => PyProof.Rows.sortedAll_old) (Nat.le_succ _) ⟨hl2, out, ep, VA.vals_each emb he, he'⟩, rfl, q _ (I.hok.fresh (Nat.le_succ _))⟩
end
theorem sortedU {β : Type} {X : Cx} {K : PySem.W.Frag} (h : X.K = K) {k : Nat} (emb : β → V) (enc : β → PyData) (hr : Room k X.A) : CallR X (.builtin "sorted") (rSortedU K emb enc) := by subst h; exact cr_sortedU emb enc hr
/-! walks told with the written part by its name (within a comprehension of a comprehension) -/
theorem piL {X : Cx} {K : PySem.W.Frag} {tg : Expr} (h : X.K = K) {l : Expr} {tl : TE} (hl : PE X l tl) : PI X tg l (iList K tl) := by subst h; exact pi_list hl
theorem piT {X : Cx} {K : PySem.W.Frag} {tg : Expr} (h : X.K = K) {l : Expr} {tl : TE} (hl : PE X l tl) : PI X tg l (iTup K tl) := by subst h; exact pi_tup hl
end VD

set_option Elab.async false
set_option linter.all false
set_option maxRecDepth 100000
set_option maxHeartbeats 4000000
namespace LW
open PySem PySem.Spec PyProof.Rows L2 LamX NdefX VB VM VP VE VX VQ VZ VD
abbrev s_System_offers : Stmt := inClass (top 39) 4
theorem sc_System_offers : FnScope ["self", "state", "action", "_"] ["self", "state"] (defScope s_System_offers) := ⟨rfl, rfl, rfl, by decide +kernel, rfl, by decide +kernel, by decide +kernel⟩
section
variable {P : Program} {w : World} {K : PySem.W.Frag} {mg : Str → Option Value} {base : Heap}
def spOffX (K : PySem.W.Frag) (C CB : Addr) : Sp := fun vs H Q E => ∃ (φ : Addr → Prop) (p : Addr) (n : Int) (E0 : List Ed) (s : Int), vs = [.ref p, .int s] ∧ SysAt K φ C H p n E0 ∧ E0.length ≤ 1000 ∧ (¬ (0 ≤ s ∧ s < n) → E (.ref CB) none H) ∧
  (0 ≤ s ∧ s < n → ∀ (q : Addr) (H' : Hp), Same H H' → H' q = some (.tup ((srtS (acs E0 s)).map V.str)) → Q (.ref q) H')
theorem c_offersX {C CB f : Addr} {fd : FuncData} (T : SysTxt K C) (me : Meth K C "offers" f) (F : FunD K "offers" "System.offers" (defArgs s_System_offers) (defBody s_System_offers) (defScope s_System_offers) [] [] f fd)
    (z_tuple : mg "tuple" = none) (z_sorted : mg "sorted" = none) (z_set : mg "set" = none) (c_System__check_state : VE.MetX P w K mg base 1 C "_check_state" (spStX K C CB)) : VE.MetX P w K mg base 2 C "offers" (spOffX K C CB) := by
  refine metXOf T.cl me F sc_System_offers (fun _ _ _ _ _ _ us hl => match us, hl with | [_, _], _ => rfl) (fun vs H Q E h => ?_) (fun cdv A outer s H vs Q E hr h => ?_)
  · obtain ⟨φ, p, n, E0, s, rfl, _⟩ := h
    rfl
  obtain ⟨φ, p, n, E0, s, rfl, SA, lenE, qe, q⟩ := h
  have SA' := SA
  obtain ⟨⟨dx, te, ll, td, LE, rows, kvs, S⟩, _, ok⟩ := SA
  have zl := sizeLine_eq
  refine ⟨_, (pss_cons (ps_expr (VE.pe_mX c_System__check_state hr (by first | decide | omega) (takes_of rfl rfl rfl rfl) (pv 0) (pa_cons (pv 1) pa_nil)))
    (pss_one (ps_ret (pe_callTy (VK.tupQ (K := K) rfl) (by rfl) z_tuple (by decide +kernel) (pa_cons (pe_callB (VK.sortedM (w := w) rfl rfl hr) (by rfl) z_sorted (by decide +kernel) (pa_cons (pe_callTy (VO.cr_setS (K := K) (w := w) rfl rfl rfl (VP.un3 hr)) (by rfl) z_set (by decide +kernel) (pa_cons (pe_lc (own := [("action", 2), ("_", 3)]) (g := gTup K 2 (gCons (gName 2) (gCons (gName 3) gNil))) rfl sc_System_offers.nd (pi_list (pe_ix (VK.ixL (K := K) rfl) (pe_fld (pv 0) rfl) (pv 1) (fun _ _ => rfl))) (blkOk_by (N := ["self", "state", "action", "_"]) (sc := defScope s_System_offers) (by decide +kernel)) (fun _ _ _ _ _ => (pg_tup rfl (pgs_cons (pg_name (i := 2) sc_System_offers.nd rfl (Or.inl rfl) (hf := Or.inr rfl)) (pgs_cons (pg_name (i := 3) sc_System_offers.nd rfl (Or.inl rfl) (hf := Or.inr rfl)) pgs_nil)))) (fun _ _ _ _ _ => (pts_one (pt_cmpR op_ne (pv 2) pe_str (nomark _)))) (fun _ _ _ _ _ => (pv 2))) pa_nil)) pa_nil)) pa_nil))))), ?_⟩
  refine ⟨_, rfl, p, dx, _, rfl, S.hp, fl_none n te ll td (by decide +kernel) (by decide +kernel) (by decide +kernel) (by decide +kernel), _, rfl, φ, p, n, E0, s, rfl, SA', fun hs => ?_, qe⟩
  obtain ⟨a, LP, hat, g1, g2, g3⟩ := S.rowAt hs.1 hs.2
  have lenP : LP.length ≤ 1000 := by
    have z : LP.length = (leav E0 s).length := by rw [← g3, List.length_map]
    have y : (leav E0 s).length ≤ E0.length := by
      unfold leav
      rw [List.length_map]
      exact List.length_filter_le _ _
    omega
  refine ⟨_, rfl, p, C, dx, _, _, rfl, S.hp, T.cl, T.n2, fl_leav n te ll td, _, rfl, ll, _, _, _, rfl, rfl, SqL.of S.hl, hat, a, rfl, ⟨_, SqL.of g1⟩, fun D1 nD => ?_⟩
  refine lc_list (K := K) (a := a) (xs := refs LP) (fun i H2 => Same H H2 ∧ H2 D1 = some (.lst ((((LP.map (·.2)).take i).filter fun p => decide (¬ p.1 = ("tau" : Str))).map fun p => V.str p.1))) ⟨same_upd nD _, upd_same⟩ (fun i H2 _ z => z.1.seq (SqL.of g1)) ?_ ?_
  · rintro i v H2 hv ⟨s2, hD⟩
    obtain ⟨r, hr2, rfl⟩ := refs_at hv
    have rin := List.mem_of_getElem? hr2
    have lti := (List.getElem?_eq_some_iff.mp hr2).1
    have tk : (LP.map (·.2)).take (i + 1) = (LP.map (·.2)).take i ++ [r.2] := by rw [List.take_succ, List.getElem?_map, hr2] <;> rfl
    refine ⟨r.1, _, rfl, (g2.kp (Kp.of s2)) r rin, rfl, .str r.2.1, _, rfl, .int r.2.2, _, rfl, rfl, rfl, ?_⟩
    refine ⟨_, rfl, rfl, _, rfl, ?_⟩
    refine ite2 (fun c => ?_) (fun c => ?_)
    · have ne : ¬ r.2.1 = ("tau" : Str) := by simpa using c
      refine ⟨_, rfl, _, hD, ?_, sameIn s2 nD, ?_⟩
      · rw [List.length_map]
        have z := List.length_filter_le (fun p : Pr => decide (¬ p.1 = ("tau" : Str))) ((LP.map (·.2)).take i)
        have y := List.length_take_le i (LP.map (·.2))
        omega
      · rw [upd_same, tk, List.filter_append, List.filter_cons_of_pos (by simpa using ne), List.filter_nil, List.map_append] <;> rfl
    · have eq : r.2.1 = ("tau" : Str) := by simpa using c
      refine ⟨s2, ?_⟩
      rw [hD, tk, List.filter_append, List.filter_cons_of_neg (by simpa using eq), List.filter_nil, List.append_nil]
  · rintro H2 ⟨s2, hD⟩
    rw [refs_len, List.take_of_length_le (by rw [List.length_map]; exact Nat.le_refl _), g3] at hD
    have hD2 : H2 D1 = some (.lst ((acs E0 s).map V.str)) := by
      rw [hD]
      unfold acs
      rw [List.map_map] <;> rfl
    have lenA : (acs E0 s).length ≤ 1000 := by
      unfold acs
      rw [List.length_map]
      refine Nat.le_trans (List.length_filter_le _ _) ?_
      rw [← g3, List.length_map]
      exact lenP
    refine ⟨D1, _, rfl, SqL.of hD2, (by show (acs E0 s).length + 1 < 4096; omega), fun b M m nb mem lm => ?_⟩
    have s3 := same_upd nb (VS.SetMO w b M m)
    refine ⟨b, M, m, rfl, upd_same, fun k hk => ?_, fun ss c nd ms ls nc => ?_⟩
    · obtain ⟨x, _, e⟩ := (mem k).1 hk
      exact ⟨x, e⟩
    have s4 := same_upd nc (.lst ((ss.mergeSort VS.leS).map V.str))
    have es : ss.mergeSort VS.leS = srtS (acs E0 s) := srtS_of nd fun x => by
      rw [ms, mem]
      constructor
      · rintro ⟨y, hy, e⟩
        cases e
        exact hy
      · exact fun hx => ⟨x, hx, rfl⟩
    rw [es] at s4 ⊢
    refine ⟨c, _, rfl, .inl ⟨SqL.of upd_same, fun l nl => q hs l _ (((s2.trans s3).trans s4).trans (same_upd nl _)) upd_same⟩⟩
end
end LW

set_option Elab.async false
set_option linter.all false
set_option maxRecDepth 100000
set_option maxHeartbeats 4000000
namespace LW
open PySem PySem.Spec PyProof.Rows L2 LamX NdefX VB VM VP VE VX VQ VZ VD
abbrev s_System_is_stable : Stmt := inClass (top 39) 5
theorem sc_System_is_stable : FnScope ["self", "state"] ["self", "state"] (defScope s_System_is_stable) := ⟨rfl, rfl, rfl, by decide +kernel, rfl, by decide +kernel, by decide +kernel⟩
section
variable {P : Program} {w : World} {K : PySem.W.Frag} {mg : Str → Option Value} {base : Heap}
def spStabX (K : PySem.W.Frag) (C CB : Addr) : Sp := fun vs H Q E => ∃ (φ : Addr → Prop) (p : Addr) (n : Int) (E0 : List Ed) (s : Int), vs = [.ref p, .int s] ∧ SysAt K φ C H p n E0 ∧ (¬ (0 ≤ s ∧ s < n) → E (.ref CB) none H) ∧
  (0 ≤ s ∧ s < n → ∀ (H' : Hp), Same H H' → Q (.bl (decide (tg E0 s "tau" = []))) H')
theorem c_stableX {C CB f : Addr} {fd : FuncData} (T : SysTxt K C) (me : Meth K C "is_stable" f) (F : FunD K "is_stable" "System.is_stable" (defArgs s_System_is_stable) (defBody s_System_is_stable) (defScope s_System_is_stable) [] [] f fd)
    (c_System__check_state : VE.MetX P w K mg base 1 C "_check_state" (spStX K C CB)) : VE.MetX P w K mg base 2 C "is_stable" (spStabX K C CB) := by
  refine metXOf T.cl me F sc_System_is_stable (fun _ _ _ _ _ _ us hl => match us, hl with | [_, _], _ => rfl) (fun vs H Q E h => ?_) (fun cdv A outer s H vs Q E hr h => ?_)
  · obtain ⟨φ, p, n, E0, s, rfl, _⟩ := h
    rfl
  obtain ⟨φ, p, n, E0, s, rfl, SA, qe, q⟩ := h
  have SA' := SA
  obtain ⟨⟨dx, te, ll, td, LE, rows, kvs, S⟩, _, _⟩ := SA
  refine ⟨_, (pss_cons (ps_expr (VE.pe_mX c_System__check_state hr (by first | decide | omega) (takes_of rfl rfl rfl rfl) (pv 0) (pa_cons (pv 1) pa_nil)))
    (pss_one (ps_ret (pe_cmp (pc_dnotin (hu_of hr) (pe_tup (pa_cons (pv 1) (pa_cons pe_str pa_nil))) (pe_fld (pv 0) rfl)))))), ?_⟩
  refine ⟨_, rfl, p, dx, _, rfl, S.hp, fl_none n te ll td (by decide +kernel) (by decide +kernel) (by decide +kernel) (by decide +kernel), _, rfl, φ, p, n, E0, s, rfl, SA', fun hs => ?_, qe⟩
  refine ⟨_, rfl, (by show 2 ≤ sizeLine; decide), fun k nk => ?_⟩
  have sk := same_upd nk (.tup [.int s, .str "tau"])
  refine ⟨_, rfl, p, C, dx, _, _, rfl, sk _ _ S.hp, T.cl, T.n3, fl_targ n te ll td, td, _, rfl, DGet.t (k := kT s "tau") (sk _ _ S.tab.at_) upd_same, ?_⟩
  have e : (!(valV kvs (kT s "tau")).isSome) = decide (tg E0 s "tau" = []) := by
    cases hv : valV kvs (kT s "tau") with
    | none => rw [decide_eq_true (S.tab.none_ s _ hv)] <;> rfl
    | some v =>
      obtain ⟨b, s', x', e1, e2, e3, ne, _⟩ := S.tab.some_ _ _ hv
      obtain ⟨rfl, rfl⟩ : s = s' ∧ ("tau" : Str) = x' := by
        injection e1 with a1 a2
        injection a2 with a2 _
        exact ⟨Sum.inl.inj a1, Sum.inr.inj a2⟩
      rw [decide_eq_false ne] <;> rfl
  rw [e]
  exact q hs _ sk
end
end LW

set_option Elab.async false
set_option linter.all false
set_option maxRecDepth 100000
set_option maxHeartbeats 4000000
namespace LW
open PySem PySem.Spec PyProof.Rows L2 LamX NdefX VB VM VP VE VX VQ
abbrev s_closure : Stmt := top 7
theorem sc_closure : FnScope ["system", "states", "found", "pending", "state"] ["system", "states"] (defScope s_closure) := ⟨rfl, rfl, rfl, by decide +kernel, rfl, by decide +kernel, by decide +kernel⟩
theorem tg_mem {E : List Ed} {s : Int} {x : Str} {y : Int} : y ∈ tg E s x ↔ (s, x, y) ∈ E := by
  unfold tg
  rw [List.mem_map]
  constructor
  · rintro ⟨e, he, rfl⟩
    obtain ⟨h1, h2⟩ := List.mem_filter.mp he
    obtain ⟨rfl, rfl⟩ := of_decide_eq_true h2
    exact h1
  · intro h
    exact ⟨_, List.mem_filter.mpr ⟨h, by simp⟩, rfl⟩
theorem tg_len (E : List Ed) (s : Int) (x : Str) : (tg E s x).length ≤ E.length := by
  unfold tg
  rw [List.length_map]
  exact List.length_filter_le _ _
theorem few_of {n : Int} {l : List Int} (nd : l.Nodup) (h : ∀ x ∈ l, 0 ≤ x ∧ x < n) : l.length ≤ n.toNat := by
  have z := nd_le l (rng n.toNat) nd fun x hx => rng_mem.2 ⟨(h x hx).1, by have := (h x hx).2; omega⟩
  rw [rng_len] at z
  exact z
theorem SysAt.rangeR {K : PySem.W.Frag} {φ : Addr → Prop} {C p : Addr} {H : Hp} {n : Int} {E : List Ed} (S : SysAt K φ C H p n E) {ss : List Int} (hs : ∀ x ∈ ss, 0 ≤ x ∧ x < n) {x : Int} (h : Rch E ss x) : 0 ≤ x ∧ x < n :=
  Rch.range (P := fun x => 0 ≤ x ∧ x < n) (fun e he => ⟨(S.ok e he).2.2.1, (S.ok e he).2.2.2.1⟩) hs h
section
variable {P : Program} {w : World} {K : PySem.W.Frag} {mg : Str → Option Value} {base : Heap}
def spClos (K : PySem.W.Frag) (C : Addr) : Sp := fun vs H Q _ => ∃ (φ : Addr → Prop) (p a : Addr) (n : Int) (E0 : List Ed) (ss : List Int), vs = [.ref p, .ref a] ∧ SysAt K φ C H p n E0 ∧ n ≤ 60 ∧ E0.length ≤ 1000 ∧
  (SqL K H a (ss.map V.int) ∨ SqT K H a (ss.map V.int)) ∧ (∀ x ∈ ss, 0 ≤ x ∧ x < n) ∧ ss.length ≤ 100000 ∧
  ∀ (q : Addr) (H' : Hp) (cs : List Int), Same H H' → H' q = some (.tup (cs.map V.int)) → IsClo E0 ss cs → Q (.ref q) H'
theorem c_closure {C CB : Addr} (D : Df K mg "closure" s_closure) (z_list : mg "list" = none) (z_set : mg "set" = none) (z_sorted : mg "sorted" = none) (z_tuple : mg "tuple" = none)
    (c_System_targets : C8.Met P w K mg base 2 C "targets" (calm (spTargX K C CB)) []) : C8.Cal P w K mg base 3 "closure" (spClos K C) [] := by
  refine D.cal sc_closure (fun _ _ _ _ _ _ us hl => match us, hl with | [_, _], _ => rfl) (fun vs H Q E h => ?_) (fun f cdv A outer s0 H vs Q E hr h => ?_)
  · obtain ⟨φ, p, a, n, E0, ss, rfl, _⟩ := h
    rfl
  obtain ⟨φ, p, a, n, E0, ss, rfl, SA, n60, lenE, hseq, hss, lens, q⟩ := h
  refine ⟨_, (pss_cons (ps_set (i := 2) sc_closure.nd rfl (Or.inl rfl) (pe_callTy0 (VQ.set0I (w := w) rfl) (by rfl) z_set (by decide +kernel)))
    (pss_cons (ps_set (i := 3) sc_closure.nd rfl (Or.inl rfl) (pe_callTy (VK.listQ (K := K) rfl) (by rfl) z_list (by decide +kernel) (pa_cons (pv 1) pa_nil)))
    (pss_cons (ps_while PassesOwn.never (pt_truth (pv 3) (by intro _; rfl))
      (pss_cons (ps_set (i := 4) sc_closure.nd rfl (Or.inl rfl) (pe_bm0 PySem.F.plainAttrs_list PySem.F.slot_list_pop PySem.F.type_list_pop mt_pop (pv 3)))
      (pss_one (ps_if (pt_cmpR (VQ.notInI (w := w) rfl) (pv 4) (pv 2) rfl)
        (pss_cons (ps_expr (VQ.saddI (w := w) rfl (pv 2) (pa_cons (pv 4) pa_nil)))
        (pss_one (ps_expr (pe_bm PySem.F.plainAttrs_list PySem.F.slot_list_extend PySem.F.type_list_extend mt_extend (pv 3) (pa_cons (C8.pe_mt c_System_targets hr (by first | decide | omega) (pv 0) (pa_cons (pv 4) (pa_cons pe_str pa_nil))) pa_nil)))))
        pss_nil))))
    (pss_one (ps_ret (pe_callTy (VK.tupQ (K := K) rfl) (by rfl) z_tuple (by decide +kernel) (pa_cons (pe_callB (VQ.sortedSI (w := w) rfl rfl) (by rfl) z_sorted (by decide +kernel) (pa_cons (pv 2) pa_nil)) pa_nil))))))), ?_⟩
  have zl := sizeLine_eq
  have zb : 100 < scanBound := by decide
  refine ⟨rfl, fun fl nfl => ?_⟩
  have s1 := same_upd nfl (SetO w fl (fun _ => false) 0)
  have hseq1 : SqL K (upd H fl (SetO w fl (fun _ => false) 0)) a (ss.map V.int) ∨ SqT K (upd H fl (SetO w fl (fun _ => false) 0)) a (ss.map V.int) := sqAny s1 hseq
  refine ⟨_, rfl, a, _, rfl, hseq1, fun pl npl => ?_⟩
  have npH : H pl = none := s1.free npl
  have nfp : fl ≠ pl := ne_of_none upd_same npl
  refine ⟨fun m σ H' => ∃ (stk : List Int) (S : Int → Bool) (k : Nat) (mem : List Int) (r4 : Option V), m = (n.toNat - k) * 1001 + stk.length ∧
      σ = [some (.ref p), some (.ref a), some (.ref fl), some (.ref pl), r4] ∧ Same H H' ∧ H' fl = some (SetO w fl S k) ∧ H' pl = some (.lst (stk.map V.int)) ∧
      mem.Nodup ∧ mem.length = k ∧ (∀ x, S x = true ↔ x ∈ mem) ∧ (∀ x, S x = true → Rch E0 ss x) ∧ (∀ x ∈ stk, Rch E0 ss x) ∧ (∀ x ∈ ss, S x = true ∨ x ∈ stk) ∧
      (∀ x y, S x = true → (x, ("tau" : Str), y) ∈ E0 → S y = true ∨ y ∈ stk) ∧ (n.toNat - k) * 1001 + stk.length ≤ 200000,
    ⟨_, ss, fun _ => false, 0, [], none, rfl, rfl, sameIn s1 npH, by rw [upd_ne nfp]; exact upd_same, upd_same, List.nodup_nil, rfl, fun x => by simp, fun x z => (by cases z), fun x hx => .base hx, fun x hx => .inr hx, fun x y z => (by cases z), by omega⟩, ?_⟩
  rintro m σ H1 ⟨stk, S, k, mem, r4, rfl, rfl, sH, hf, hp, nd, lenm, memS, rS, rK, cS, cT, bnd⟩
  have kn : k ≤ n.toNat := by
    rw [← lenm]
    exact few_of nd fun x hx => SA.rangeR hss (rS x ((memS x).2 hx))
  refine ⟨_, rfl, !(stk.map V.int).isEmpty, .inl ⟨_, SqL.of hp, rfl⟩, ?_⟩
  rcases List.eq_nil_or_concat stk with rfl | ⟨r, s, rfl⟩
  · refine iteF ?_
    refine ⟨_, rfl, fl, S, k, rfl, hf, by omega, fun ns b asc memN lenN nb => ?_⟩
    have s2 := same_upd nb (.lst (ns.map V.int))
    refine ⟨b, _, rfl, .inl ⟨SqL.of upd_same, fun l nl => q l _ ns ((sH.trans s2).trans (same_upd nl _)) upd_same ⟨asc, fun x => ?_⟩⟩⟩
    rw [memN]
    refine ⟨rS x, fun h => ?_⟩
    induction h with
    | base h => exact (cS _ h).elim id fun z => absurd z List.not_mem_nil
    | step _ h ih => exact (cT _ _ ih h).elim id fun z => absurd z List.not_mem_nil
  · rw [List.concat_eq_append] at *
    have e1 : (!((r ++ [s]).map V.int).isEmpty) = true := by cases r <;> rfl
    rw [e1]
    refine iteT ?_
    refine ⟨_, fun σ' H' z => z, ?_⟩
    have elast : ((r ++ [s]).map V.int)[((r ++ [s]).map V.int).length - 1]? = some (V.int s) := by
      rw [List.map_append, List.length_append, List.map_singleton, List.length_singleton, Nat.add_sub_cancel, List.getElem?_append_right (Nat.le_refl _), Nat.sub_self] <;> rfl
    have edrop : ((r ++ [s]).map V.int).dropLast = r.map V.int := by rw [List.map_append, List.map_singleton, List.dropLast_concat]
    have lr : (r ++ [s]).length = r.length + 1 := by rw [List.length_append, List.length_singleton]
    refine ⟨_, rfl, .inl ⟨rfl, _, SqL.of hp⟩, pl, _, _, rfl, rfl, hp, elast, ?_⟩
    rw [edrop]
    have sH2 : Same H (upd H1 pl (.lst (r.map V.int))) := sameIn sH npH
    have hp2 : upd H1 pl (.lst (r.map V.int)) pl = some (.lst (r.map V.int)) := upd_same
    have hf2 : upd H1 pl (.lst (r.map V.int)) fl = some (SetO w fl S k) := by rw [upd_ne nfp]; exact hf
    generalize upd H1 pl (.lst (r.map V.int)) = H2 at sH2 hp2 hf2 ⊢
    have rs := rK s (by simp)
    have ranS := SA.rangeR hss rs
    refine ⟨_, rfl, _, rfl, s, fl, S, k, rfl, rfl, hf2, _, rfl, ?_⟩
    cases hs : S s with
    | true =>
      refine iteF ?_
      refine ⟨_, by rw [lr]; exact Nat.lt_succ_self _, r, S, k, mem, _, rfl, rfl, sH2, hf2, hp2, nd, lenm, memS, rS, fun x hx => rK x (List.mem_append_left _ hx), fun x hx => ?_, fun x y h1 h2 => ?_, by omega⟩
      · rcases cS x hx with z | z
        · exact .inl z
        · rcases List.mem_append.mp z with z | z
          · exact .inr z
          · rw [List.mem_singleton.mp z]; exact .inl hs
      · rcases cT x y h1 h2 with z | z
        · exact .inl z
        · rcases List.mem_append.mp z with z | z
          · exact .inr z
          · rw [List.mem_singleton.mp z]; exact .inl hs
    | false =>
      refine iteT ?_
      refine ⟨_, rfl, ⟨fl, S, k, rfl, hf2⟩, _, rfl, fl, s, S, k, rfl, rfl, hf2, by omega, ?_⟩
      rw [hs]
      rw [show (if false = true then k else k + 1) = k + 1 from rfl]
      have sH3 : Same H (upd H2 fl (SetO w fl (fun j => S j || decide (j = s)) (k + 1))) := sameIn sH2 nfl
      have hp3 : upd H2 fl (SetO w fl (fun j => S j || decide (j = s)) (k + 1)) pl = some (.lst (r.map V.int)) := by rw [upd_ne (Ne.symm nfp)]; exact hp2
      have hf3 : upd H2 fl (SetO w fl (fun j => S j || decide (j = s)) (k + 1)) fl = some (SetO w fl (fun j => S j || decide (j = s)) (k + 1)) := upd_same
      generalize upd H2 fl (SetO w fl (fun j => S j || decide (j = s)) (k + 1)) = H3 at sH3 hp3 hf3 ⊢
      have SA3 := SA.same sH3
      obtain ⟨⟨dx, te, ll, td, LE, rows, kvs, S3⟩, _, _⟩ := SA3
      refine ⟨_, rfl, .inl ⟨rfl, _, SqL.of hp3⟩, _, rfl, p, dx, _, rfl, S3.hp, fl_none n te ll td (by decide +kernel) (by decide +kernel) (by decide +kernel) (by decide +kernel), _, rfl, φ, p, n, E0, s, "tau", rfl, SA.same sH3, fun z => z ranS, fun _ qa H4 s4 nqa hqa => ?_⟩
      have l2 := tg_len E0 s "tau"
      have inS : ∀ x, S x = true → (S x || decide (x = s)) = true := fun x z => by rw [z] <;> rfl
      have inE : (S s || decide (s = s)) = true := by simp
      have nin : ¬ s ∈ mem := fun z => by
        rw [(memS s).2 z] at hs
        cases hs
      have nd2 : (s :: mem).Nodup := List.nodup_cons.mpr ⟨nin, nd⟩
      have kn2 : k + 1 ≤ n.toNat := by
        have z := few_of nd2 (n := n) fun x hx => by
          rcases List.mem_cons.mp hx with z | z
          · rw [z]; exact ranS
          · exact SA.rangeR hss (rS x ((memS x).2 z))
        rw [List.length_cons, lenm] at z
        exact z
      refine ⟨pl, qa, _, _, rfl, rfl, s4 _ _ hp3, hqa, by rw [List.length_map, List.length_map]; omega, ?_⟩
      have lap : (r ++ tg E0 s "tau").length = r.length + (tg E0 s "tau").length := List.length_append
      refine ⟨_, ?_, r ++ tg E0 s "tau", fun j => S j || decide (j = s), k + 1, s :: mem, _, rfl, rfl, sameIn (sH3.trans s4) npH, by rw [upd_ne nfp]; exact s4 _ _ hf3, by rw [upd_same, List.map_append], nd2, by rw [List.length_cons, lenm], fun x => ?_, fun x hx => ?_, fun x hx => ?_, fun x hx => ?_, fun x y h1 h2 => ?_, ?_⟩
      · rw [lr, lap]
        omega
      · rw [Bool.or_eq_true, decide_eq_true_eq, memS, List.mem_cons]
        exact Or.comm
      · rcases Bool.or_eq_true_iff.mp hx with z | z
        · exact rS x z
        · rw [of_decide_eq_true z]; exact rs
      · rcases List.mem_append.mp hx with z | z
        · exact rK x (List.mem_append_left _ z)
        · exact .step rs (tg_mem.1 z)
      · rcases cS x hx with z | z
        · exact .inl (inS _ z)
        · rcases List.mem_append.mp z with z | z
          · exact .inr (List.mem_append_left _ z)
          · rw [List.mem_singleton.mp z]; exact .inl inE
      · rcases Bool.or_eq_true_iff.mp h1 with z | z
        · rcases cT x y z h2 with z | z
          · exact .inl (inS _ z)
          · rcases List.mem_append.mp z with z | z
            · exact .inr (List.mem_append_left _ z)
            · rw [List.mem_singleton.mp z]; exact .inl inE
        · rw [of_decide_eq_true z] at h2
          exact .inr (List.mem_append_right _ (tg_mem.2 h2))
      · rw [lap]
        omega
end
end LW

set_option Elab.async false
set_option linter.all false
set_option maxRecDepth 100000
set_option maxHeartbeats 4000000
namespace LW
open PySem PySem.Spec PyProof.Rows L2 LamX NdefX VB VM VP VE VX VQ
abbrev s_after : Stmt := top 8
theorem sc_after : FnScope ["system", "states", "action", "targets", "state"] ["system", "states", "action"] (defScope s_after) := ⟨rfl, rfl, rfl, by decide +kernel, rfl, by decide +kernel, by decide +kernel⟩
/-- the states to which edges with an action lead -/
def aft (E : List Ed) (ss : List Int) (x : Str) : List Int := (ss.map fun s => tg E s x).flatten
theorem aft_snoc (E : List Ed) (ss : List Int) (s : Int) (x : Str) : aft E (ss ++ [s]) x = aft E ss x ++ tg E s x := by
  unfold aft
  rw [List.map_append, List.flatten_append, List.map_singleton, List.flatten_singleton]
theorem aft_mem {E : List Ed} {ss : List Int} {x : Str} {y : Int} : y ∈ aft E ss x ↔ ∃ s ∈ ss, (s, x, y) ∈ E := by
  unfold aft
  rw [List.mem_flatten]
  constructor
  · rintro ⟨l, hl, hy⟩
    obtain ⟨s, hs, rfl⟩ := List.mem_map.mp hl
    exact ⟨s, hs, tg_mem.1 hy⟩
  · rintro ⟨s, hs, h⟩
    exact ⟨_, List.mem_map_of_mem hs, tg_mem.2 h⟩
theorem aft_len (E : List Ed) (x : Str) : ∀ ss : List Int, (aft E ss x).length ≤ ss.length * E.length
  | [] => Nat.zero_le _
  | s :: ss => by
    have z := aft_len E x ss
    have y := tg_len E s x
    unfold aft at *
    rw [List.map_cons, List.flatten_cons, List.length_append, List.length_cons, Nat.add_mul, Nat.one_mul]
    omega
/-- the states after a trace, step by step -/
def Runs (E : List Ed) : List Int → List Str → List Int → Prop
  | ds, [], cs => cs = ds
  | ds, x :: r, cs => ∃ es, IsClo E (aft E ds x) es ∧ Runs E es r cs
theorem runs_snoc {E : List Ed} : ∀ {r : List Str} {ds cs : List Int} {x : Str}, Runs E ds (r ++ [x]) cs ↔ ∃ es, Runs E ds r es ∧ IsClo E (aft E es x) cs
  | [], ds, cs, x => ⟨fun ⟨es, h, e⟩ => ⟨ds, rfl, by rw [show cs = es from e]; exact h⟩, fun ⟨es, e, h⟩ => ⟨cs, by rw [← show es = ds from e]; exact h, rfl⟩⟩
  | y :: r, ds, cs, x => ⟨fun ⟨es, h, g⟩ => by
      obtain ⟨fs, h2, g2⟩ := runs_snoc.1 g
      exact ⟨fs, ⟨es, h, h2⟩, g2⟩, fun ⟨fs, ⟨es, h, h2⟩, g⟩ => ⟨es, h, runs_snoc.2 ⟨fs, h2, g⟩⟩⟩
theorem runs_uniq {E : List Ed} : ∀ {r : List Str} {ds cs es : List Int}, Runs E ds r cs → Runs E ds r es → cs = es
  | [], _, _, _, h, g => (show _ = _ from h).trans (show _ = _ from g).symm
  | _ :: _, _, _, _, ⟨a, h1, h2⟩, ⟨b, g1, g2⟩ => by
    obtain rfl := h1.uniq g1
    exact runs_uniq h2 g2
theorem aft_congr {E E' : List Ed} (h : ∀ e, e ∈ E ↔ e ∈ E') {ss : List Int} {x : Str} {y : Int} : y ∈ aft E ss x ↔ y ∈ aft E' ss x := by
  rw [aft_mem, aft_mem]
  exact ⟨fun ⟨s, a, b⟩ => ⟨s, a, (h _).1 b⟩, fun ⟨s, a, b⟩ => ⟨s, a, (h _).2 b⟩⟩
theorem runs_congr {E E' : List Ed} (h : ∀ e, e ∈ E ↔ e ∈ E') : ∀ {r : List Str} {ds cs : List Int}, Runs E ds r cs → Runs E' ds r cs
  | [], _, _, e => e
  | _ :: _, _, _, ⟨es, a, b⟩ => ⟨es, a.congr h fun _ => aft_congr h, runs_congr h b⟩
theorem aft_range {n : Int} {E : List Ed} (ok : ∀ e ∈ E, okE n e) {ss : List Int} {x : Str} : ∀ y ∈ aft E ss x, 0 ≤ y ∧ y < n := fun y hy => by
  obtain ⟨s, _, h⟩ := aft_mem.1 hy
  exact ⟨(ok _ h).2.2.1, (ok _ h).2.2.2.1⟩
theorem clo_range {n : Int} {E : List Ed} (ok : ∀ e ∈ E, okE n e) {ss cs : List Int} (h : IsClo E ss cs) (hs : ∀ x ∈ ss, 0 ≤ x ∧ x < n) : ∀ x ∈ cs, 0 ≤ x ∧ x < n := fun x hx =>
  Rch.range (P := fun x => 0 ≤ x ∧ x < n) (fun e he => ⟨(ok e he).2.2.1, (ok e he).2.2.2.1⟩) hs ((h.mem x).1 hx)
theorem clo_len {n : Int} {E : List Ed} (ok : ∀ e ∈ E, okE n e) {ss cs : List Int} (h : IsClo E ss cs) (hs : ∀ x ∈ ss, 0 ≤ x ∧ x < n) : cs.length ≤ n.toNat :=
  few_of (ascI_nodup h.asc) (clo_range ok h hs)
section
variable {P : Program} {w : World} {K : PySem.W.Frag} {mg : Str → Option Value} {base : Heap}
def spAft (K : PySem.W.Frag) (C : Addr) : Sp := fun vs H Q _ => ∃ (φ : Addr → Prop) (p a : Addr) (n : Int) (E0 : List Ed) (ss : List Int) (x : Str), vs = [.ref p, .ref a, .str x] ∧ SysAt K φ C H p n E0 ∧ n ≤ 60 ∧ E0.length ≤ 1000 ∧
  SqT K H a (ss.map V.int) ∧ (∀ x ∈ ss, 0 ≤ x ∧ x < n) ∧ ss.length ≤ 60 ∧
  ∀ (q : Addr) (H' : Hp) (cs : List Int), Same H H' → H' q = some (.tup (cs.map V.int)) → IsClo E0 (aft E0 ss x) cs → Q (.ref q) H'
theorem c_after {C CB : Addr} (TX : SysTxt K C) (D : Df K mg "after" s_after) (c_closure : C8.Cal P w K mg base 3 "closure" (spClos K C) [])
    (c_System_targets : C8.Met P w K mg base 2 C "targets" (calm (spTargX K C CB)) []) : C8.Cal P w K mg base 4 "after" (spAft K C) [] := by
  refine D.cal sc_after (fun _ _ _ _ _ _ us hl => match us, hl with | [_, _, _], _ => rfl) (fun vs H Q E h => ?_) (fun f cdv A outer s0 H vs Q E hr h => ?_)
  · obtain ⟨φ, p, a, n, E0, ss, x, rfl, _⟩ := h
    rfl
  obtain ⟨φ, p, a, n, E0, ss, x, rfl, SA, n60, lenE, hT, hss, lens, q⟩ := h
  refine ⟨_, (pss_cons (ps_set (i := 3) sc_after.nd rfl (Or.inl rfl) (pe_lst pa_nil))
    (pss_cons (ps_for PassesOwn.never rfl (pi_tup (pv 1)) (pg_name (i := 4) sc_after.nd rfl (Or.inl rfl))
      (pss_one (ps_expr (pe_bm PySem.F.plainAttrs_list PySem.F.slot_list_extend PySem.F.type_list_extend mt_extend (pv 3) (pa_cons (C8.pe_mt c_System_targets hr (by first | decide | omega) (pv 0) (pa_cons (pv 4) (pa_cons (pv 2) pa_nil))) pa_nil)))))
    (pss_one (ps_ret (C8.pe_c c_closure hr (by first | decide | omega) rfl (pa_cons (pv 0) (pa_cons (pv 3) pa_nil))))))), ?_⟩
  have zl := sizeLine_eq
  refine ⟨Nat.zero_le _, fun l nl => ?_⟩
  refine ⟨_, rfl, a, rfl, ⟨_, VB.Same.sqT (same_upd nl _) hT⟩, for_tup (K := K) (a := a) (xs := ss.map V.int)
    (fun i σ H' => ∃ (r4 : Option V), σ = [some (.ref p), some (.ref a), some (.str x), some (.ref l), r4] ∧ Same H H' ∧ H' l = some (.lst ((aft E0 (ss.take i) x).map V.int)))
    ⟨none, rfl, same_upd nl _, upd_same⟩ (fun i σ H' _ ⟨_, _, s, _⟩ => VB.Same.sqT s hT) ?_ ?_⟩
  · rintro i v σ H1 hv ⟨r4, rfl, sH, hl⟩
    rw [List.getElem?_map] at hv
    obtain ⟨s, hs, rfl⟩ := Option.map_eq_some_iff.mp hv
    have lti : i < ss.length := (List.getElem?_eq_some_iff.mp hs).1
    have ran := hss s (List.mem_of_getElem? hs)
    have SA1 := SA.same sH
    obtain ⟨⟨dx, te, ll, td, LE, rows, kvs, S1⟩, _, _⟩ := SA1
    refine ⟨_, rfl, .inl ⟨rfl, _, SqL.of hl⟩, _, rfl, p, dx, _, rfl, S1.hp, fl_none n te ll td (by decide +kernel) (by decide +kernel) (by decide +kernel) (by decide +kernel), _, rfl, _, rfl, φ, p, n, E0, s, x, rfl, SA.same sH, fun z => z ran, fun _ qa H2 s2 nqa hqa => ?_⟩
    have l1 := aft_len E0 x (ss.take i)
    have l2 := tg_len E0 s x
    have l3 : (ss.take i).length ≤ 60 := by rw [List.length_take]; omega
    have l4 : (ss.take i).length * E0.length ≤ 60 * 1000 := Nat.mul_le_mul l3 lenE
    refine ⟨l, qa, _, _, rfl, rfl, s2 _ _ hl, hqa, by rw [List.length_map, List.length_map]; omega, ?_⟩
    refine ⟨_, rfl, sameIn (sH.trans s2) nl, ?_⟩
    rw [upd_same, List.take_add_one, hs, Option.toList_some, aft_snoc, List.map_append]
  · rintro σ H1 ⟨r4, rfl, sH, hl⟩
    rw [List.length_map, List.take_length] at hl
    have l1 := aft_len E0 x ss
    have l4 : ss.length * E0.length ≤ 60 * 1000 := Nat.mul_le_mul lens lenE
    exact ⟨_, rfl, _, rfl, φ, p, l, n, E0, aft E0 ss x, rfl, SA.same sH, n60, lenE, .inl (SqL.of hl), aft_range SA.ok, by omega, fun q' H' cs s' hq hc => q q' H' cs (sH.trans s') hq hc⟩
end
end LW

set_option Elab.async false
set_option linter.all false
set_option maxRecDepth 100000
set_option maxHeartbeats 4000000
namespace LW
open PySem PySem.Spec PyProof.Rows L2 LamX NdefX VB VM VP VE VX VQ
abbrev s_states_after : Stmt := top 9
theorem sc_states_after : FnScope ["system", "trace", "states", "action"] ["system", "trace"] (defScope s_states_after) := ⟨rfl, rfl, rfl, by decide +kernel, rfl, by decide +kernel, by decide +kernel⟩
section
variable {P : Program} {w : World} {K : PySem.W.Frag} {mg : Str → Option Value} {base : Heap}
/-- the states after a trace -/
def spStA (K : PySem.W.Frag) (C : Addr) : Sp := fun vs H Q _ => ∃ (φ : Addr → Prop) (p a : Addr) (n : Int) (E0 : List Ed) (xs : List Str), vs = [.ref p, .ref a] ∧ SysAt K φ C H p n E0 ∧ 1 ≤ n ∧ n ≤ 60 ∧ E0.length ≤ 1000 ∧ SqT K H a (xs.map V.str) ∧
  ∀ (q : Addr) (H' : Hp) (c0 cs : List Int), Same H H' → H' q = some (.tup (cs.map V.int)) → IsClo E0 [0] c0 → Runs E0 c0 xs cs → (∀ x ∈ cs, 0 ≤ x ∧ x < n) → cs.length ≤ 60 → Q (.ref q) H'
theorem c_states {C : Addr} (D : Df K mg "states_after" s_states_after) (c_closure : C8.Cal P w K mg base 3 "closure" (spClos K C) []) (c_after : C8.Cal P w K mg base 4 "after" (spAft K C) []) : C8.Cal P w K mg base 5 "states_after" (spStA K C) [] := by
  refine D.cal sc_states_after (fun _ _ _ _ _ _ us hl => match us, hl with | [_, _], _ => rfl) (fun vs H Q E h => ?_) (fun f cdv A outer s0 H vs Q E hr h => ?_)
  · obtain ⟨φ, p, a, n, E0, xs, rfl, _⟩ := h
    rfl
  obtain ⟨φ, p, a, n, E0, xs, rfl, SA, n1, n60, lenE, hT, q⟩ := h
  refine ⟨_, (pss_cons (ps_set (i := 2) sc_states_after.nd rfl (Or.inl rfl) (C8.pe_c c_closure hr (by first | decide | omega) rfl (pa_cons (pv 0) (pa_cons (pe_lst (pa_cons pe_int pa_nil)) pa_nil))))
    (pss_cons (ps_for PassesOwn.never rfl (pi_tup (pv 1)) (pg_name (i := 3) sc_states_after.nd rfl (Or.inl rfl))
      (pss_one (ps_set (i := 2) sc_states_after.nd rfl (Or.inl rfl) (C8.pe_c c_after hr (by first | decide | omega) rfl (pa_cons (pv 0) (pa_cons (pv 2) (pa_cons (pv 3) pa_nil)))))))
    (pss_one (ps_ret (pv 2))))), ?_⟩
  have zl := sizeLine_eq
  refine ⟨_, rfl, (by show 1 ≤ sizeLine; omega), fun l nl => ?_⟩
  have s1 := same_upd nl (.lst [.int 0])
  have r0 : ∀ x ∈ [(0 : Int)], 0 ≤ x ∧ x < n := fun x hx => by rw [List.mem_singleton.mp hx]; omega
  refine ⟨φ, p, l, n, E0, [0], rfl, SA.same s1, n60, lenE, .inl (SqL.of upd_same), r0, by decide, fun q0 H1 c0 s2 hq0 hc0 => ?_⟩
  have s12 := s1.trans s2
  refine ⟨_, rfl, a, rfl, ⟨_, VB.Same.sqT s12 hT⟩, for_tup (K := K) (a := a) (xs := xs.map V.str)
    (fun i σ H' => ∃ (qi : Addr) (ci : List Int) (r3 : Option V), σ = [some (.ref p), some (.ref a), some (.ref qi), r3] ∧ Same H H' ∧ H' qi = some (.tup (ci.map V.int)) ∧ Runs E0 c0 (xs.take i) ci ∧ (∀ x ∈ ci, 0 ≤ x ∧ x < n) ∧ ci.length ≤ 60)
    ⟨q0, c0, none, rfl, s12, hq0, rfl, clo_range SA.ok hc0 r0, by have := clo_len SA.ok hc0 r0; omega⟩ (fun i σ H' _ ⟨_, _, _, _, s, _⟩ => VB.Same.sqT s hT) ?_ ?_⟩
  · rintro i v σ H2 hv ⟨qi, ci, r3, rfl, sH, hqi, hr1, hrng, hlen⟩
    rw [List.getElem?_map] at hv
    obtain ⟨x, hx, rfl⟩ := Option.map_eq_some_iff.mp hv
    refine ⟨_, rfl, _, rfl, _, rfl, φ, p, qi, n, E0, ci, x, rfl, SA.same sH, n60, lenE, .inl (.inl hqi), hrng, hlen, fun qn H3 cn s3 hqn hcn => ?_⟩
    refine ⟨qn, cn, _, rfl, sH.trans s3, hqn, ?_, clo_range SA.ok hcn (aft_range SA.ok), by have := clo_len SA.ok hcn (aft_range SA.ok); omega⟩
    rw [List.take_add_one, hx, Option.toList_some]
    exact runs_snoc.2 ⟨ci, hr1, hcn⟩
  · rintro σ H2 ⟨qi, ci, r3, rfl, sH, hqi, hr1, hrng, hlen⟩
    rw [List.length_map, List.take_length] at hr1
    exact ⟨_, rfl, q qi H2 c0 ci sH hqi hc0 hr1 hrng hlen⟩
end
end LW

set_option Elab.async false
set_option linter.all false
set_option maxRecDepth 100000
set_option maxHeartbeats 4000000
namespace LW
open PySem PySem.Spec PyProof.Rows L2 LamX NdefX VB VM VP VE VX VQ VZ VD
abbrev s_offers_among : Stmt := top 12
theorem sc_offers_among : FnScope ["system", "states", "state"] ["system", "states"] (defScope s_offers_among) := ⟨rfl, rfl, rfl, by decide +kernel, rfl, by decide +kernel, by decide +kernel⟩
abbrev s_stable_offers : Stmt := top 11
theorem sc_stable_offers : FnScope ["system", "trace"] ["system", "trace"] (defScope s_stable_offers) := ⟨rfl, rfl, rfl, by decide +kernel, rfl, by decide +kernel, by decide +kernel⟩
/-- a tuple of texts -/
def rowD (x : List Str) : PyData := .tuple (x.map PyData.str)
def ltR (a b : List Str) : Prop := PySem.W.dataLt (rowD a) (rowD b) = true
instance : DecidableRel ltR := fun a b => inferInstanceAs (Decidable (PySem.W.dataLt (rowD a) (rowD b) = true))
theorem toks_inj : ∀ xs ys : List Str, PySem.W.keyToksAll (xs.map PyData.str) = PySem.W.keyToksAll (ys.map PyData.str) → xs = ys
  | [], [], _ => rfl
  | [], y :: ys, h => by
    rw [List.map_nil, List.map_cons, PySem.W.toks_all_cons] at h
    simp [PySem.W.keyToksAll] at h
  | x :: xs, [], h => by
    rw [List.map_nil, List.map_cons, PySem.W.toks_all_cons] at h
    simp [PySem.W.keyToksAll] at h
  | x :: xs, y :: ys, h => by
    rw [List.map_cons, List.map_cons, PySem.W.toks_all_cons, PySem.W.toks_all_cons] at h
    injection h with _ h
    simp only [PySem.W.keyToks, List.cons_append, List.nil_append] at h
    injection h with h1 h2
    injection h1 with h1
    rw [PyProof.Rows.ext_toList h1, toks_inj xs ys h2]
theorem ltR_irrefl (a : List Str) : ¬ ltR a a := by
  intro h
  have z : PySem.W.dataLt (rowD a) (rowD a) = false := (PyProof.Rows.listOrd PyProof.Rows.itemOrd).irrefl (PySem.W.keyToks (rowD a))
  unfold ltR at h
  rw [z] at h
  cases h
theorem ltR_trans {a b c : List Str} (h : ltR a b) (g : ltR b c) : ltR a c := (PyProof.Rows.listOrd PyProof.Rows.itemOrd).trans _ _ _ h g
theorem ltR_tri {a b : List Str} (h : ¬ ltR a b) (g : ¬ ltR b a) : a = b :=
  toks_inj a b ((PyProof.Rows.listOrd PyProof.Rows.itemOrd).total _ _ (Bool.eq_false_iff.mpr h) (Bool.eq_false_iff.mpr g))
theorem ascR {l m : List (List Str)} (hl : l.Pairwise ltR) (hm : m.Pairwise ltR) (h : ∀ x, x ∈ l ↔ x ∈ m) : l = m := asc_unique ltR_irrefl (fun _ _ _ => ltR_trans) hl hm h
theorem strs_alike : ∀ xs ys : List Str, PySem.W.alikeAll (xs.map PyData.str) (ys.map PyData.str) = true
  | [], _ => by rw [List.map_nil]; unfold PySem.W.alikeAll; rfl
  | _ :: _, [] => by rw [List.map_cons, List.map_nil]; unfold PySem.W.alikeAll; rfl
  | x :: xs, y :: ys => by
    rw [List.map_cons, List.map_cons]
    unfold PySem.W.alikeAll
    rw [strs_alike xs ys]
    rfl
theorem row_alike (a b : List Str) : PySem.W.alike (rowD a) (rowD b) = true := strs_alike a b
def Rows (K : PySem.W.Frag) (H : Hp) (L : List (Addr × List Str)) : Prop := ∀ p ∈ L, SqT K H p.1 (p.2.map V.str)
theorem Rows.kp {K : PySem.W.Frag} {H H' : Hp} {L : List (Addr × List Str)} (h : Rows K H L) (x : Kp H H') : Rows K H' L := fun p hp => x.sqT (h p hp)
def rowK (x : List Str) : List Key := x.map Sum.inr
theorem rowK_inj : ∀ {x y : List Str}, rowK x = rowK y → x = y
  | [], [], _ => rfl
  | [], _ :: _, h => by cases h
  | _ :: _, [], h => by cases h
  | a :: x, b :: y, h => by
    unfold rowK at h
    rw [List.map_cons, List.map_cons] at h
    injection h with h1 h2
    rw [Sum.inr.inj h1, rowK_inj (x := x) (y := y) h2]
theorem keysD_row (x : List Str) : VT.keysD (rowK x) = rowD x := by
  unfold VT.keysD rowK rowD
  rw [List.map_map]
  rfl
theorem rowK_kV (x : List Str) : (rowK x).map kV = x.map V.str := by
  unfold rowK
  rw [List.map_map]
  rfl
theorem srtR {le : Addr × List Str → Addr × List Str → Bool} (hle : ∀ a b, le a b = !decide (ltR b.2 a.2)) {L : List (Addr × List Str)} (nd : (L.map (·.2)).Nodup) : ((L.mergeSort le).map (·.2)).Pairwise ltR := by
  have z : (L.mergeSort le).map (·.2) = (L.map (·.2)).mergeSort fun a b => !decide (ltR b a) := List.map_mergeSort fun a _ b _ => hle a b
  rw [z]
  exact asc_of_sorted (fun a b h g => ltR_tri h g) (fun a b => rfl) (fun a b c => ltR_trans) ltR_irrefl nd
theorem sorted_rows {M : List (Addr × List Key)} {L : List (Addr × List Str)} (sub : ∀ q ∈ M, q ∈ L.map fun p => (p.1, rowK p.2)) (nd : (M.map (·.2)).Nodup) :
    ∃ RL : List (Addr × List Str), M.mergeSort VT.leK = RL.map (fun p => (p.1, rowK p.2)) ∧ (∀ p ∈ RL, p ∈ L) ∧ (RL.map (·.2)).Pairwise ltR ∧ ∀ x, x ∈ RL.map (·.2) ↔ rowK x ∈ M.map (·.2) := by
  obtain ⟨L3, e3, s3⟩ : ∃ L3 : List (Addr × List Str), M = L3.map (fun p => (p.1, rowK p.2)) ∧ ∀ p ∈ L3, p ∈ L := by
    clear nd
    induction M with
    | nil => exact ⟨[], rfl, fun p z => absurd z List.not_mem_nil⟩
    | cons q M ih =>
      obtain ⟨L3, e, s⟩ := ih fun x hx => sub x (List.mem_cons_of_mem _ hx)
      obtain ⟨p, hp, rfl⟩ := List.mem_map.mp (sub q List.mem_cons_self)
      refine ⟨p :: L3, by rw [List.map_cons, e], fun x hx => ?_⟩
      rcases List.mem_cons.mp hx with rfl | z
      · exact hp
      · exact s x z
  have e32 : M.map (·.2) = (L3.map (·.2)).map rowK := by rw [e3, List.map_map, List.map_map]; rfl
  have nd3 : (L3.map (·.2)).Nodup := by
    rw [e32] at nd
    exact List.Pairwise.of_map _ (fun a b hab e => hab (congrArg rowK e)) nd
  refine ⟨L3.mergeSort fun a b => !decide (ltR b.2 a.2), ?_, fun p hp => s3 p (List.mem_mergeSort.mp hp), srtR (fun a b => rfl) nd3, fun x => ?_⟩
  · rw [e3]
    refine (List.map_mergeSort fun a _ b _ => ?_).symm
    show (!decide (ltR b.2 a.2)) = !PySem.W.dataLt (VT.keysD (rowK b.2)) (VT.keysD (rowK a.2))
    rw [keysD_row, keysD_row]
    unfold ltR
    exact congrArg (fun b => !b) (Bool.eq_iff_iff.mpr decide_eq_true_iff)
  · rw [e32, ((List.mergeSort_perm L3 _).map _).mem_iff]
    constructor
    · exact fun h => List.mem_map_of_mem h
    · intro h
      obtain ⟨y, hy, e⟩ := List.mem_map.mp h
      rw [← rowK_inj e]
      exact hy
section
variable {P : Program} {w : World} {K : PySem.W.Frag} {mg : Str → Option Value} {base : Heap}
def spAmo (K : PySem.W.Frag) (C : Addr) : Sp := fun vs H Q _ => ∃ (φ : Addr → Prop) (p a : Addr) (n : Int) (E0 : List Ed) (ss : List Int), vs = [.ref p, .ref a] ∧ SysAt K φ C H p n E0 ∧ E0.length ≤ 1000 ∧ SqT K H a (ss.map V.int) ∧ (∀ x ∈ ss, 0 ≤ x ∧ x < n) ∧ ss.length ≤ 60 ∧
  ∀ (q : Addr) (H' : Hp) (RL : List (Addr × List Str)), Same H H' → H' q = some (.lst (refs RL)) → Rows K H' RL → (RL.map (·.2)).Pairwise ltR → (∀ x, x ∈ RL.map (·.2) ↔ ∃ s ∈ ss, tg E0 s "tau" = [] ∧ x = srtS (acs E0 s)) → RL.length ≤ 60 → Q (.ref q) H'
theorem c_amongO {C CB : Addr} (D : Df K mg "offers_among" s_offers_among) (z_set : mg "set" = none) (z_sorted : mg "sorted" = none)
    (c_System_offers : C8.Met P w K mg base 2 C "offers" (calm (spOffX K C CB)) []) (c_System_is_stable : C8.Met P w K mg base 2 C "is_stable" (calm (spStabX K C CB)) []) : C8.Cal P w K mg base 3 "offers_among" (spAmo K C) [] := by
  refine D.cal sc_offers_among (fun _ _ _ _ _ _ us hl => match us, hl with | [_, _], _ => rfl) (fun vs H Q E h => ?_) (fun f cdv A outer s0 H vs Q E hr h => ?_)
  · obtain ⟨φ, p, a, n, E0, ss, rfl, _⟩ := h
    rfl
  obtain ⟨φ, p, a, n, E0, ss, rfl, SA, lenE, hT, hss, lens, q⟩ := h
  refine ⟨_, (pss_one (ps_ret (pe_callB (VT.cr_sortTE (K := K) (P := P) (w := w) rfl rfl rfl rfl hr) (by rfl) z_sorted (by decide +kernel) (pa_cons (pe_callTy (VT.cr_setT (K := K) (P := P) (w := w) rfl rfl rfl rfl (VP.un3 hr)) (by rfl) z_set (by decide +kernel) (pa_cons (pe_lc (own := [("state", 2)]) rfl sc_offers_among.nd (pi_tup (pv 1)) (blkOk_by (N := ["system", "states", "state"]) (sc := defScope s_offers_among) (by decide +kernel)) (fun _ _ _ _ _ => (pg_name (i := 2) sc_offers_among.nd rfl (Or.inl rfl) (hf := Or.inr rfl))) (fun _ _ _ _ _ => (pts_one (pt_val (C8.pe_mt c_System_is_stable hr (by first | decide | omega) (pv 0) (pa_cons (pv 2) pa_nil))))) (fun _ _ _ _ _ => (C8.pe_mt c_System_offers hr (by first | decide | omega) (pv 0) (pa_cons (pv 2) pa_nil)))) pa_nil)) pa_nil)))), ?_⟩
  have zl := sizeLine_eq
  refine ⟨_, rfl, a, rfl, ⟨_, hT⟩, fun D1 nD => ?_⟩
  refine lc_tup (K := K) (a := a) (xs := ss.map V.int) (fun i H2 => ∃ ML : List (Addr × List Str), Same H H2 ∧ H2 D1 = some (.lst (refs ML)) ∧ Rows K H2 ML ∧ ML.map (·.2) = ((ss.take i).filter fun s => decide (tg E0 s "tau" = [])).map fun s => srtS (acs E0 s))
    ⟨[], same_upd nD _, upd_same, fun p hp => absurd hp List.not_mem_nil, by simp⟩ (fun i H2 _ ⟨_, z, _⟩ => VB.Same.sqT z hT) ?_ ?_
  · rintro i v H2 hv ⟨ML, s2, hD, hM, eM⟩
    rw [List.getElem?_map] at hv
    obtain ⟨s, hs, rfl⟩ := Option.map_eq_some_iff.mp hv
    have sin := List.mem_of_getElem? hs
    have tk : ss.take (i + 1) = ss.take i ++ [s] := by rw [List.take_add_one, hs, Option.toList_some]
    have SA2 := SA.same s2
    obtain ⟨⟨dx, te, ll, td, LE, rows, kvs, S2⟩, _, _⟩ := SA2
    refine ⟨rfl, ?_⟩
    refine ⟨_, rfl, p, dx, _, rfl, S2.hp, fl_none n te ll td (by decide +kernel) (by decide +kernel) (by decide +kernel) (by decide +kernel), _, rfl, φ, p, n, E0, s, rfl, SA.same s2, fun z => z (hss s sin), fun _ H3 s3 => ?_⟩
    have lM : ML.length ≤ i := by
      have z := congrArg List.length eM
      rw [List.length_map, List.length_map] at z
      rw [z]
      exact Nat.le_trans (List.length_filter_le _ _) (List.length_take_le _ _)
    have lti := (List.getElem?_eq_some_iff.mp hs).1
    have s23 := s2.trans s3
    refine ⟨_, rfl, ?_⟩
    refine ite2 (fun c => ?_) (fun c => ?_)
    · have c' := of_decide_eq_true c
      have SA3 := SA.same s23
      obtain ⟨⟨dx, te, ll, td, LE, rows, kvs, S3⟩, _, _⟩ := SA3
      refine ⟨_, rfl, p, dx, _, rfl, S3.hp, fl_none n te ll td (by decide +kernel) (by decide +kernel) (by decide +kernel) (by decide +kernel), _, rfl, φ, p, n, E0, s, rfl, SA.same s23, lenE, fun z => z (hss s sin), fun _ qa H4 s4 hqa => ?_⟩
      have k5 := Kp.updL (s4 _ _ (s3 _ _ hD)) (.lst (refs ML ++ [.ref qa]))
      refine ⟨_, s4 _ _ (s3 _ _ hD), by rw [refs_len]; omega, ML ++ [(qa, srtS (acs E0 s))], sameIn (s23.trans s4) nD, by rw [upd_same, refs_snoc], fun y hy => ?_, ?_⟩
      · rcases List.mem_append.mp hy with z | z
        · exact (hM.kp ((Kp.of (s3.trans s4)).trans k5)) y z
        · rw [List.mem_singleton.mp z]
          exact k5.sqT (.inl (.inl hqa))
      · rw [List.map_append, eM, tk, List.filter_append, List.filter_cons_of_pos (by simpa using c'), List.filter_nil, List.map_append] <;> rfl
    · have c' : ¬ tg E0 s "tau" = [] := fun z => c (decide_eq_true z)
      refine ⟨ML, s23, s3 _ _ hD, hM.kp (Kp.of s3), ?_⟩
      rw [eM, tk, List.filter_append, List.filter_cons_of_neg (by simpa using c'), List.filter_nil, List.append_nil]
  · rintro H2 ⟨ML, s2, hD, hM, eM⟩
    rw [List.length_map, List.take_length] at eM
    have lM : ML.length ≤ 60 := by
      have z := congrArg List.length eM
      rw [List.length_map, List.length_map] at z
      rw [z]
      exact Nat.le_trans (List.length_filter_le _ _) lens
    have er : ∀ L : List (Addr × List Str), (L.map fun p => (p.1, rowK p.2)).map (fun p => V.ref p.1) = refs L := fun L => by rw [List.map_map]; rfl
    refine ⟨D1, ML.map fun p => (p.1, rowK p.2), rfl, by rw [er]; exact SqL.of hD, fun y hy => ?_, VT.few_of (by rw [List.length_map]; omega), fun b M nb ofM => ?_⟩
    · obtain ⟨x, hx, rfl⟩ := List.mem_map.mp hy
      show SqT K H2 x.1 ((rowK x.2).map kV)
      rw [rowK_kV]
      exact hM x hx
    have s3 := same_upd nb (VT.SetKO P w b M)
    have hM3 := hM.kp (Kp.of s3)
    refine ⟨b, M, rfl, upd_same, fun y hy => ?_, fun d hd d' hd' => ?_, fun M' c pm nc => ?_⟩
    · obtain ⟨x, hx, rfl⟩ := List.mem_map.mp (ofM.sub y hy)
      show SqT K _ x.1 ((rowK x.2).map kV)
      rw [rowK_kV]
      exact hM3 x hx
    · obtain ⟨x, hx, rfl⟩ := List.mem_map.mp hd
      obtain ⟨y, hy, rfl⟩ := List.mem_map.mp hd'
      obtain ⟨_, _, rfl⟩ := List.mem_map.mp (ofM.sub x hx)
      obtain ⟨_, _, rfl⟩ := List.mem_map.mp (ofM.sub y hy)
      show PySem.W.alike (VT.keysD (rowK _)) (VT.keysD (rowK _)) = true
      rw [keysD_row, keysD_row]
      exact row_alike _ _
    obtain ⟨RL, e1, e2, e3, e4⟩ := sorted_rows (M := M') (L := ML) (fun x hx => ofM.sub x (pm.mem_iff.mp hx)) ((pm.map (·.2)).nodup_iff.mpr ofM.nd)
    have s4 := same_upd nc (.lst (refs RL))
    rw [e1, er]
    have lR : RL.length ≤ 60 := by
      have z := congrArg List.length e1
      rw [List.length_mergeSort, List.length_map, pm.length_eq] at z
      have y := nd_le (M.map (·.2)) (ML.map fun p => rowK p.2) ofM.nd fun x hx => by
        obtain ⟨q, hq, rfl⟩ := List.mem_map.mp hx
        obtain ⟨p, hp, rfl⟩ := List.mem_map.mp (ofM.sub q hq)
        exact List.mem_map.mpr ⟨p, hp, rfl⟩
      rw [List.length_map, List.length_map] at y
      omega
    refine q c _ RL ((s2.trans s3).trans s4) upd_same (fun x hx => (hM.kp (Kp.of (s3.trans s4))) x (e2 x hx)) e3 (fun x => ?_) lR
    rw [e4, (pm.map _).mem_iff]
    constructor
    · intro h
      obtain ⟨y, hy, e⟩ := List.mem_map.mp h
      obtain ⟨z, hz, rfl⟩ := List.mem_map.mp (ofM.sub y hy)
      have ex := rowK_inj e
      have zin : z.2 ∈ ML.map (·.2) := List.mem_map_of_mem hz
      rw [eM] at zin
      obtain ⟨s, hs, es⟩ := List.mem_map.mp zin
      obtain ⟨h1, h2⟩ := List.mem_filter.mp hs
      exact ⟨s, h1, of_decide_eq_true h2, by rw [← ex, es]⟩
    · rintro ⟨s, h1, h2, rfl⟩
      have zin : srtS (acs E0 s) ∈ ML.map (·.2) := by
        rw [eM]
        exact List.mem_map.mpr ⟨s, List.mem_filter.mpr ⟨h1, decide_eq_true h2⟩, rfl⟩
      obtain ⟨p, hp, e⟩ := List.mem_map.mp zin
      have y := ofM.all (p.1, rowK p.2) (List.mem_map.mpr ⟨p, hp, rfl⟩)
      rw [← e]
      exact y
end
end LW

set_option Elab.async false
set_option linter.all false
set_option maxRecDepth 100000
set_option maxHeartbeats 4000000
namespace LW
open PySem PySem.Spec PyProof.Rows L2 LamX NdefX VB VM VP VE VX VQ
abbrev s_is_trace : Stmt := top 10
theorem sc_is_trace : FnScope ["system", "trace"] ["system", "trace"] (defScope s_is_trace) := ⟨rfl, rfl, rfl, by decide +kernel, rfl, by decide +kernel, by decide +kernel⟩
section
variable {P : Program} {w : World} {K : PySem.W.Frag} {mg : Str → Option Value} {base : Heap}
def spIsT (K : PySem.W.Frag) (C : Addr) : Sp := fun vs H Q _ => ∃ (φ : Addr → Prop) (p a : Addr) (n : Int) (E0 : List Ed) (xs : List Str), vs = [.ref p, .ref a] ∧ SysAt K φ C H p n E0 ∧ 1 ≤ n ∧ n ≤ 60 ∧ E0.length ≤ 1000 ∧ SqT K H a (xs.map V.str) ∧
  ∀ (H' : Hp) (c0 cs : List Int), Same H H' → IsClo E0 [0] c0 → Runs E0 c0 xs cs → Q (.bl (decide (cs ≠ []))) H'
theorem c_istrace {C : Addr} (D : Df K mg "is_trace" s_is_trace) (z_len : mg "len" = none) (c_states_after : C8.Cal P w K mg base 5 "states_after" (spStA K C) []) : C8.Cal P w K mg base 6 "is_trace" (spIsT K C) [] := by
  refine D.cal sc_is_trace (fun _ _ _ _ _ _ us hl => match us, hl with | [_, _], _ => rfl) (fun vs H Q E h => ?_) (fun f cdv A outer s0 H vs Q E hr h => ?_)
  · obtain ⟨φ, p, a, n, E0, xs, rfl, _⟩ := h
    rfl
  obtain ⟨φ, p, a, n, E0, xs, rfl, SA, n1, n60, lenE, hT, q⟩ := h
  refine ⟨_, (pss_one (ps_ret (pe_cmpR op_gt (pe_callB (VK.lenQ (K := K) rfl) (by rfl) z_len PySem.boot_len (pa_cons (C8.pe_c c_states_after hr (by first | decide | omega) rfl (pa_cons (pv 0) (pa_cons (pv 1) pa_nil))) pa_nil)) pe_int (nomark _)))), ?_⟩
  refine ⟨_, rfl, _, rfl, φ, p, a, n, E0, xs, rfl, SA, n1, n60, lenE, hT, fun q1 H1 c0 cs s1 hq hc0 hr1 hrng hlen => ?_⟩
  refine ⟨q1, _, rfl, .inr (.inl (.inl hq)), _, _, rfl, rfl, ?_⟩
  have e : decide ((0 : Int) < (((cs.map V.int).length : Nat) : Int)) = decide (cs ≠ []) := by
    refine decide_eq_decide.mpr ?_
    rw [List.length_map]
    cases cs with
    | nil => simp
    | cons x r => simp
  have z := q H1 c0 cs s1 hc0 hr1
  rw [← e] at z
  exact z
end
end LW

set_option Elab.async false
set_option linter.all false
set_option maxRecDepth 100000
set_option maxHeartbeats 4000000
namespace LW
open PySem PySem.Spec PyProof.Rows L2 LamX NdefX VB VM VP VE VX VQ VZ
abbrev s_diverging_among : Stmt := top 14
theorem sc_diverging_among : FnScope ["system", "states", "many", "state", "sources", "target", "ending", "source"] ["system", "states"] (defScope s_diverging_among) := ⟨rfl, rfl, rfl, by decide +kernel, rfl, by decide +kernel, by decide +kernel⟩
/-- no chain of silent edges without an end -/
inductive Halt (E : List Ed) : Int → Prop
  | mk {s : Int} : (∀ t, t ∈ tg E s ("tau" : Str) → Halt E t) → Halt E s
/-- silent edges to states that are not taken out -/
def cnt (E : List Ed) (R : List Int) (s : Int) : Nat := ((tg E s "tau").filter fun t => decide (¬ t ∈ R)).length
theorem filter_cons_len {t : Int} {R : List Int} (nR : t ∉ R) : ∀ l : List Int, l.Nodup → (l.filter fun x => decide (¬ x ∈ R)).length = (l.filter fun x => decide (¬ x ∈ t :: R)).length + (if t ∈ l then 1 else 0)
  | [], _ => by simp
  | x :: l, nd => by
    obtain ⟨n1, n2⟩ := List.nodup_cons.mp nd
    have ih := filter_cons_len nR l n2
    by_cases h : x = t
    · subst h
      rw [List.filter_cons_of_pos (by simpa using nR), List.filter_cons_of_neg (by simp), List.length_cons, ih, if_neg n1, if_pos List.mem_cons_self]
    · have ht : ¬ t = x := fun z => h z.symm
      by_cases g : x ∈ R
      · rw [List.filter_cons_of_neg (by simpa using g), List.filter_cons_of_neg (by simp [g]), ih]
        simp [ht]
      · rw [List.filter_cons_of_pos (by simpa using g), List.filter_cons_of_pos (by simp [g, h]), List.length_cons, List.length_cons, ih]
        simp only [List.mem_cons, ht, false_or]
        omega
theorem tg_nodup {E : List Ed} (nd : E.Nodup) (s : Int) (x : Str) : (tg E s x).Nodup := by
  unfold tg
  have z : (E.filter fun e => decide (e.1 = s ∧ e.2.1 = x)).Nodup := List.Nodup.sublist List.filter_sublist nd
  refine List.pairwise_map.mpr (List.Pairwise.imp_of_mem (R := fun a b => a ≠ b) (fun {a b} ha hb ne e => ne ?_) z)
  obtain ⟨_, h1⟩ := List.mem_filter.mp ha
  obtain ⟨_, h2⟩ := List.mem_filter.mp hb
  obtain ⟨a1, a2⟩ := of_decide_eq_true h1
  obtain ⟨b1, b2⟩ := of_decide_eq_true h2
  exact Prod.ext (a1.trans b1.symm) (Prod.ext (a2.trans b2.symm) e)
theorem cnt_cons {E : List Ed} (nd : E.Nodup) {t : Int} {R : List Int} (nR : t ∉ R) (s : Int) : cnt E R s = cnt E (t :: R) s + (if t ∈ tg E s "tau" then 1 else 0) :=
  filter_cons_len nR _ (tg_nodup nd s _)
theorem cnt_zero {E : List Ed} {R : List Int} {s : Int} : cnt E R s = 0 ↔ ∀ t, t ∈ tg E s ("tau" : Str) → t ∈ R := by
  unfold cnt
  rw [List.length_eq_zero_iff, List.filter_eq_nil_iff]
  constructor
  · intro h t ht
    have z := h t ht
    simpa using z
  · intro h t ht
    simpa using h t ht
theorem cnt_nil (E : List Ed) (s : Int) : cnt E [] s = (tg E s "tau").length := by
  unfold cnt
  rw [List.filter_eq_self.mpr fun t _ => by simp]
theorem cnt_halt {E : List Ed} {R ss : List Int} (cl : ∀ s ∈ ss, ∀ t, t ∈ tg E s ("tau" : Str) → t ∈ ss) (iff : ∀ s ∈ ss, cnt E R s = 0 ↔ s ∈ R) (hR : ∀ r ∈ R, Halt E r) {s : Int} (hs : s ∈ ss) : cnt E R s = 0 ↔ Halt E s := by
  constructor
  · intro h
    exact hR s ((iff s hs).1 h)
  · intro h
    induction h with
    | mk h ih => exact cnt_zero.2 fun t ht => (iff t (cl _ hs t ht)).1 (ih t ht (cl _ hs t ht))
theorem putK_has {κ : Type} [DecidableEq κ] {kvs : List (κ × V)} {k : κ} {v x : V} (h : valV kvs k = some v) : (putK kvs k x).length = kvs.length := by
  unfold putK
  rw [valV_any, h]
  rw [if_pos (by rfl), List.length_map]
/-- the two dicts: how many, and whence -/
structure DS (H0 H : Hp) (dm ds : Addr) (ss : List Int) (f : Int → Addr) (c : Int → Nat) (p : Int → List Int) : Prop where
  same : Same H0 H
  m : ∃ kvs : List (Key × V), H dm = some (.dK kvs) ∧ kvs.length ≤ 100 ∧ ∀ s ∈ ss, valV kvs (Sum.inl s) = some (.int (c s : Nat))
  s : ∃ kvs : List (Key × V), H ds = some (.dK kvs) ∧ ∀ s ∈ ss, valV kvs (Sum.inl s) = some (.ref (f s))
  l : ∀ s ∈ ss, H (f s) = some (.lst ((p s).map V.int)) ∧ H0 (f s) = none
  inj : ∀ s ∈ ss, ∀ t ∈ ss, f s = f t → s = t
  dm0 : H0 dm = none
  ne : dm ≠ ds
section
variable {H0 H H' : Hp} {dm ds : Addr} {ss : List Int} {f : Int → Addr} {c : Int → Nat} {p : Int → List Int}
theorem DS.go (D : DS H0 H dm ds ss f c p) (s : Same H H') : DS H0 H' dm ds ss f c p := by
  refine ⟨D.same.trans s, ?_, ?_, fun x hx => ⟨s _ _ (D.l x hx).1, (D.l x hx).2⟩, D.inj, D.dm0, D.ne⟩
  · obtain ⟨kvs, h, r⟩ := D.m
    exact ⟨kvs, s _ _ h, r⟩
  · obtain ⟨kvs, h, r⟩ := D.s
    exact ⟨kvs, s _ _ h, r⟩
theorem DS.setM (D : DS H0 H dm ds ss f c p) {kvs : List (Key × V)} (hd : H dm = some (.dK kvs)) (hl : kvs.length ≤ 100) (hv : ∀ s ∈ ss, valV kvs (Sum.inl s) = some (.int (c s : Nat))) {x : Int} (hx : x ∈ ss) (v : Nat) :
    DS H0 (upd H dm (.dK (putK kvs (Sum.inl x) (.int (v : Nat))))) dm ds ss f (fun y => if y = x then v else c y) p := by
  refine ⟨sameIn D.same D.dm0, ⟨_, upd_same, by rw [putK_has (hv x hx)]; exact hl, fun y hy => ?_⟩, ?_, fun y hy => ⟨?_, (D.l y hy).2⟩, D.inj, D.dm0, D.ne⟩
  · rw [valV_put]
    by_cases e : y = x
    · subst e; rw [if_pos rfl]; simp
    · rw [if_neg (fun z => e (Sum.inl.inj z)), hv y hy]; simp [e]
  · obtain ⟨k2, h, r⟩ := D.s
    exact ⟨k2, by rw [upd_ne D.ne.symm]; exact h, r⟩
  · rw [upd_ne (ne_of (D.l y hy).1 hd (fun z => nomatch z))]
    exact (D.l y hy).1
theorem DS.push (D : DS H0 H dm ds ss f c p) {t : Int} (ht : t ∈ ss) (x : Int) :
    DS H0 (upd H (f t) (.lst ((p t).map V.int ++ [.int x]))) dm ds ss f c (fun y => if y = t then p t ++ [x] else p y) := by
  refine ⟨sameIn D.same (D.l t ht).2, ?_, ?_, fun y hy => ⟨?_, (D.l y hy).2⟩, D.inj, D.dm0, D.ne⟩
  · obtain ⟨k2, h, r⟩ := D.m
    exact ⟨k2, by rw [upd_ne (ne_of h (D.l t ht).1 (fun z => nomatch z))]; exact h, r⟩
  · obtain ⟨k2, h, r⟩ := D.s
    exact ⟨k2, by rw [upd_ne (ne_of h (D.l t ht).1 (fun z => nomatch z))]; exact h, r⟩
  · by_cases e : y = t
    · subst e
      rw [if_pos rfl, upd_same, List.map_append] <;> rfl
    · rw [if_neg e, upd_ne (fun z => e (D.inj y hy t ht z))]
      exact (D.l y hy).1
theorem DS.lst (D : DS H0 H dm ds ss f c p) {e : Addr} (h0 : H0 e = none) {zs : List V} (he : H e = some (.lst zs)) (nf : ∀ s ∈ ss, f s ≠ e) (ys : List V) : DS H0 (upd H e (.lst ys)) dm ds ss f c p := by
  refine ⟨sameIn D.same h0, ?_, ?_, fun y hy => ⟨by rw [upd_ne (nf y hy)]; exact (D.l y hy).1, (D.l y hy).2⟩, D.inj, D.dm0, D.ne⟩
  · obtain ⟨k2, h, r⟩ := D.m
    exact ⟨k2, by rw [upd_ne (ne_of h he (fun z => nomatch z))]; exact h, r⟩
  · obtain ⟨k2, h, r⟩ := D.s
    exact ⟨k2, by rw [upd_ne (ne_of h he (fun z => nomatch z))]; exact h, r⟩
theorem DS.cast {c' : Int → Nat} {p' : Int → List Int} (D : DS H0 H dm ds ss f c p) (hc : ∀ s ∈ ss, c s = c' s) (hp : ∀ s ∈ ss, p s = p' s) : DS H0 H dm ds ss f c' p' := by
  refine ⟨D.same, ?_, D.s, fun x hx => ⟨by rw [← hp x hx]; exact (D.l x hx).1, (D.l x hx).2⟩, D.inj, D.dm0, D.ne⟩
  obtain ⟨k2, h, r, z⟩ := D.m
  exact ⟨k2, h, r, fun x hx => by rw [← hc x hx]; exact z x hx⟩
end
section
variable {P : Program} {w : World} {K : PySem.W.Frag} {mg : Str → Option Value} {base : Heap}
def spDiv (K : PySem.W.Frag) (C : Addr) : Sp := fun vs H Q _ => ∃ (φ : Addr → Prop) (p a : Addr) (n : Int) (E0 : List Ed) (ss : List Int), vs = [.ref p, .ref a] ∧ SysAt K φ C H p n E0 ∧ E0.length ≤ 1000 ∧
  SqA K H a (ss.map V.int) ∧ ss.Pairwise (· < ·) ∧ (∀ x ∈ ss, 0 ≤ x ∧ x < n) ∧ ss.length ≤ 60 ∧ (∀ s ∈ ss, ∀ t, t ∈ tg E0 s ("tau" : Str) → t ∈ ss) ∧
  ∀ (q : Addr) (H' : Hp) (cs : List Int), Same H H' → H' q = some (.tup (cs.map V.int)) → cs.Pairwise (· < ·) → (∀ s, s ∈ cs ↔ s ∈ ss ∧ ¬ Halt E0 s) → Q (.ref q) H'
theorem c_among {C CB : Addr} (D : Df K mg "diverging_among" s_diverging_among) (z_tuple : mg "tuple" = none)
    (c_System_targets : C8.Met P w K mg base 2 C "targets" (calm (spTargX K C CB)) []) : C8.Cal P w K mg base 3 "diverging_among" (spDiv K C) [] := by
  refine D.cal sc_diverging_among (fun _ _ _ _ _ _ us hl => match us, hl with | [_, _], _ => rfl) (fun vs H Q E h => ?_) (fun f cdv A outer s0 H vs Q E hr h => ?_)
  · obtain ⟨φ, p, a, n, E0, ss, rfl, _⟩ := h
    rfl
  obtain ⟨φ, p, a, n, E0, ss, rfl, SA, lenE, hseq, asc, hss, lens, hcl, q⟩ := h
  refine ⟨_, (pss_cons (ps_set (i := 2) sc_diverging_among.nd rfl (Or.inr rfl) (pe_dc (own := [("state", 3)]) (tt := tYes) rfl sc_diverging_among.nd (VZ.pi_seq (K := K) rfl (pv 1)) (blkOk_by (N := ["system", "states", "many", "state", "sources", "target", "ending", "source"]) (sc := defScope s_diverging_among) (by decide +kernel)) (fun _ _ _ _ _ => (pg_name (i := 3) sc_diverging_among.nd rfl (Or.inl rfl) (hf := Or.inr rfl))) (fun _ _ _ _ _ => pts_nil) (fun _ _ _ _ _ => (pv 3)) (fun _ _ _ _ _ => pe_int)))
    (pss_cons (VZ.ps_setDc (i := 4) (own := [("state", 3)]) (tt := tYes) rfl sc_diverging_among.nd rfl rfl (VZ.sw_trueD rfl rfl rfl (by decide +kernel)) (VZ.pi_seq (K := K) rfl (pv 1)) (blkOk_by (N := ["system", "states", "many", "state", "sources", "target", "ending", "source"]) (sc := defScope s_diverging_among) (by decide +kernel)) (fun _ _ _ _ _ => (pg_name (i := 3) sc_diverging_among.nd rfl (Or.inl rfl) (hf := Or.inr rfl))) (fun _ _ _ _ _ => pts_nil) (fun _ _ _ _ _ => (pv 3)) (fun _ _ _ _ _ => (pe_lst pa_nil)))
    (pss_cons (ps_for PassesOwn.never rfl (VZ.pi_seq (K := K) rfl (pv 1)) (pg_name (i := 3) sc_diverging_among.nd rfl (Or.inl rfl))
      (pss_one (ps_for PassesOwn.never rfl (pi_list (C8.pe_mt c_System_targets hr (by first | decide | omega) (pv 0) (pa_cons (pv 3) (pa_cons pe_str pa_nil)))) (pg_name (i := 5) sc_diverging_among.nd rfl (Or.inl rfl))
        (pss_cons (ps_daug (hu_of hr) (pv 2) (pv 3) pe_int in_add (fun _ _ _ => rfl))
        (pss_one (ps_expr (pe_bm PySem.F.plainAttrs_list PySem.F.slot_list_append PySem.F.type_list_append mt_append (pe_dget (hu_of hr) (pv 4) (pv 5) (fun _ _ => rfl)) (pa_cons (pv 3) pa_nil))))))))
    (pss_cons (ps_setLc (i := 6) (own := [("state", 3)]) rfl sc_diverging_among.nd rfl rfl (sw_true rfl rfl rfl (by decide +kernel)) (VZ.pi_seq (K := K) rfl (pv 1)) (blkOk_by (N := ["system", "states", "many", "state", "sources", "target", "ending", "source"]) (sc := defScope s_diverging_among) (by decide +kernel)) (fun _ _ _ _ _ => (pg_name (i := 3) sc_diverging_among.nd rfl (Or.inl rfl) (hf := Or.inr rfl))) (fun _ _ _ _ _ => (pts_one (pt_cmpR op_eq (pe_dget (hu_of hr) (pv 2) (pv 3) (fun _ _ => rfl)) pe_int (nomark _)))) (fun _ _ _ _ _ => (pv 3)))
    (pss_cons (ps_while PassesOwn.never (pt_truth (pv 6) (by intro _; rfl))
      (pss_cons (ps_set (i := 3) sc_diverging_among.nd rfl (Or.inl rfl) (pe_bm0 PySem.F.plainAttrs_list PySem.F.slot_list_pop PySem.F.type_list_pop mt_pop (pv 6)))
      (pss_one (ps_for PassesOwn.never rfl (pi_list (pe_dget (hu_of hr) (pv 4) (pv 3) (fun _ _ => rfl))) (pg_name (i := 7) sc_diverging_among.nd rfl (Or.inl rfl))
        (pss_cons (ps_daug (hu_of hr) (pv 2) (pv 7) pe_int in_sub (fun _ _ _ => rfl))
        (pss_one (ps_if (pt_cmpR op_eq (pe_dget (hu_of hr) (pv 2) (pv 7) (fun _ _ => rfl)) pe_int (nomark _))
          (pss_one (ps_expr (pe_bm PySem.F.plainAttrs_list PySem.F.slot_list_append PySem.F.type_list_append mt_append (pv 6) (pa_cons (pv 7) pa_nil))))
          pss_nil)))))))
    (pss_one (ps_ret (pe_callTy (VK.tupQ (K := K) rfl) (by rfl) z_tuple (by decide +kernel) (pa_cons (pe_lc (own := [("state", 3)]) rfl sc_diverging_among.nd (VZ.pi_seq (K := K) rfl (pv 1)) (blkOk_by (N := ["system", "states", "many", "state", "sources", "target", "ending", "source"]) (sc := defScope s_diverging_among) (by decide +kernel)) (fun _ _ _ _ _ => (pg_name (i := 3) sc_diverging_among.nd rfl (Or.inl rfl) (hf := Or.inr rfl))) (fun _ _ _ _ _ => (pts_one (pt_cmpR op_gt (pe_dget (hu_of hr) (pv 2) (pv 3) (fun _ _ => rfl)) pe_int (nomark _)))) (fun _ _ _ _ _ => (pv 3))) pa_nil))))))))), ?_⟩
  have zl := sizeLine_eq
  have ndS := ascI_nodup asc
  have at_ss : ∀ {i : Nat} {v : V}, (ss.map V.int)[i]? = some v → ∃ s, ss[i]? = some s ∧ v = .int s := fun {i v} h => by
    rw [List.getElem?_map] at h
    obtain ⟨s, h1, h2⟩ := Option.map_eq_some_iff.mp h
    exact ⟨s, h1, h2.symm⟩
  have tkS : ∀ {i : Nat} {s : Int}, ss[i]? = some s → ss.take (i + 1) = ss.take i ++ [s] := fun {i s} h => by rw [List.take_add_one, h, Option.toList_some]
  have ninS : ∀ {i : Nat} {s : Int}, ss[i]? = some s → s ∉ ss.take i := fun {i s} h z => by
    obtain ⟨j, hj, e⟩ := List.mem_iff_getElem.mp z
    rw [List.length_take] at hj
    rw [List.getElem_take] at e
    obtain ⟨lt, e2⟩ := List.getElem?_eq_some_iff.mp h
    have := (List.getElem_inj ndS).mp (e.trans e2.symm)
    omega
  refine ⟨_, rfl, a, rfl, dc_seq (K := K) (xs := ss.map V.int) hseq (Same.refl H) (fun D i H' => Same H H' ∧ ∃ kvs : List (Key × V), H' D = some (.dK kvs) ∧ kvs.length ≤ i ∧ ∀ s ∈ ss.take i, valV kvs (Sum.inl s) = some (.int 0))
    (fun D nD => ⟨same_upd nD _, [], upd_same, Nat.le_refl _, fun s hs => absurd hs (by simp)⟩) (fun D i H' z => z.1) ?_ ?_⟩
  · rintro D nD i v H1 hv ⟨s1, kvs, hD, lk, hk⟩
    obtain ⟨s, hs, rfl⟩ := at_ss hv
    have lti := (List.getElem?_eq_some_iff.mp hs).1
    refine ⟨rfl, ?_⟩
    refine ⟨_, rfl, kvs, Sum.inl s, rfl, hD, by omega, sameIn s1 nD, _, upd_same, Nat.le_trans (putK_len _ _ _) (by omega), fun x hx => ?_⟩
    rw [valV_put]
    rw [tkS hs] at hx
    by_cases e : x = s
    · subst e; rw [if_pos rfl]
    · rw [if_neg (fun z => e (Sum.inl.inj z))]
      rcases List.mem_append.mp hx with z | z
      · exact hk x z
      · exact absurd (List.mem_singleton.mp z) e
  rintro dm ndm H1 ⟨s1, mk, hm, lm, hmk⟩
  rw [List.length_map] at lm hmk
  rw [List.take_length] at hmk
  have dmH : H dm = none := ndm
  refine ⟨_, rfl, a, rfl, dc_seq (K := K) (xs := ss.map V.int) (sqA_same s1 hseq) (Same.refl H1) (fun D i H' => Same H1 H' ∧ ∃ (kvs : List (Key × V)) (f : Int → Addr), H' D = some (.dK kvs) ∧ kvs.length ≤ i ∧
      (∀ s ∈ ss.take i, valV kvs (Sum.inl s) = some (.ref (f s)) ∧ H' (f s) = some (.lst []) ∧ H1 (f s) = none) ∧ ∀ s ∈ ss.take i, ∀ t ∈ ss.take i, f s = f t → s = t)
    (fun D nD => ⟨same_upd nD _, [], fun _ => 0, upd_same, Nat.le_refl _, fun s hs => absurd hs (by simp), fun s hs => absurd hs (by simp)⟩) (fun D i H' z => z.1) ?_ ?_⟩
  · rintro D nD i v H2 hv ⟨s2, kvs, f, hD, lk, hk, inj⟩
    obtain ⟨s, hs, rfl⟩ := at_ss hv
    have lti := (List.getElem?_eq_some_iff.mp hs).1
    refine ⟨rfl, ?_⟩
    refine ⟨_, rfl, Nat.zero_le _, fun l nl => ?_⟩
    have s3 := same_upd nl (.lst [])
    have hD3 := s3 _ _ hD
    have lD : l ≠ D := fun z => by rw [z, hD] at nl; cases nl
    refine ⟨kvs, Sum.inl s, rfl, hD3, by omega, sameIn (s2.trans s3) nD, _, fun x => if x = s then l else f x, upd_same, Nat.le_trans (putK_len _ _ _) (by omega), fun x hx => ?_, fun x hx y hy e => ?_⟩
    · rw [valV_put]
      rw [tkS hs] at hx
      by_cases e : x = s
      · subst e
        simp only [↓reduceIte]
        exact ⟨trivial, by rw [upd_ne lD]; exact upd_same, s2.free nl⟩
      · rw [if_neg (fun z => e (Sum.inl.inj z))]
        simp only [if_neg e]
        rcases List.mem_append.mp hx with z | z
        · obtain ⟨h1, h2, h3⟩ := hk x z
          exact ⟨h1, by rw [upd_ne (ne_of h2 hD (fun z => nomatch z)), upd_ne (ne_of_none h2 nl)]; exact h2, h3⟩
        · exact absurd (List.mem_singleton.mp z) e
    · rw [tkS hs] at hx hy
      have old : ∀ z ∈ ss.take i ++ [s], z ≠ s → z ∈ ss.take i := fun z hz ne => (List.mem_append.mp hz).elim id fun y => absurd (List.mem_singleton.mp y) ne
      have fl : ∀ z ∈ ss.take i, f z ≠ l := fun z hz e => by
        have y := (hk z hz).2.1
        rw [e, nl] at y
        cases y
      by_cases e1 : x = s
      · by_cases e2 : y = s
        · rw [e1, e2]
        · simp only [if_pos e1, if_neg e2] at e
          exact absurd e.symm (fl y (old y hy e2))
      · by_cases e2 : y = s
        · simp only [if_neg e1, if_pos e2] at e
          exact absurd e (fl x (old x hx e1))
        · simp only [if_neg e1, if_neg e2] at e
          exact inj x (old x hx e1) y (old y hy e2) e
  rintro ds nds H2 ⟨s2, sk, f, hs2, lk, hk, inj⟩
  rw [List.length_map, List.take_length] at hk inj
  have s12 := s1.trans s2
  have D0 : DS H H2 dm ds ss f (fun _ => 0) (fun _ => []) := by
    refine ⟨s12, ⟨mk, s2 _ _ hm, by omega, hmk⟩, ⟨sk, hs2, fun s hs => (hk s hs).1⟩, fun s hs => ⟨(hk s hs).2.1, s1.free (hk s hs).2.2⟩, inj, dmH, ne_of_none hm nds⟩
  clear hm lm hmk hs2 hk inj s2 s1 nds ndm
  have fmem : ∀ {l : List Int} {s t : Int}, (l ++ [s]).filter (fun s => decide (t ∈ tg E0 s ("tau" : Str))) = l.filter (fun s => decide (t ∈ tg E0 s ("tau" : Str))) ++ (if t ∈ tg E0 s ("tau" : Str) then [s] else []) := fun {l s t} => by
    rw [List.filter_append]
    by_cases h : t ∈ tg E0 s ("tau" : Str)
    · rw [if_pos h, List.filter_cons_of_pos (by simpa using h), List.filter_nil]
    · rw [if_neg h, List.filter_cons_of_neg (by simpa using h), List.filter_nil]
  refine ⟨_, rfl, a, rfl, for_seq (K := K) (xs := ss.map V.int) hseq
    (fun i σ H' => ∃ (q3 q5 : Option V) (c : Int → Nat) (ps : Int → List Int), σ = [some (.ref p), some (.ref a), some (.ref dm), q3, some (.ref ds), q5, none, none] ∧ DS H H' dm ds ss f c ps ∧
      (∀ s ∈ ss, c s = if s ∈ ss.take i then (tg E0 s "tau").length else 0) ∧ ∀ t ∈ ss, ps t = (ss.take i).filter fun s => decide (t ∈ tg E0 s ("tau" : Str)))
    ⟨_, _, _, _, rfl, D0, fun s _ => by simp, fun t _ => by simp⟩ s12 (fun i σ H' z => by
      obtain ⟨_, _, _, _, _, D, _⟩ := z
      exact D.same) ?_ ?_⟩
  · rintro i v σ H3 hv ⟨q3, q5, c, ps, rfl, D3, hc, hp⟩
    obtain ⟨s, hs, rfl⟩ := at_ss hv
    have sin := List.mem_of_getElem? hs
    have ran := hss s sin
    have SA3 := SA.same D3.same
    obtain ⟨⟨dx, te, ll, td, LE, rows, kvs, S3⟩, _, _⟩ := SA3
    refine ⟨_, rfl, p, dx, _, rfl, S3.hp, fl_none n te ll td (by decide +kernel) (by decide +kernel) (by decide +kernel) (by decide +kernel), _, rfl, φ, p, n, E0, s, "tau", rfl, SA.same D3.same, fun z => z ran, fun _ qa H4 s4 nqa hqa => ?_⟩
    have D4 := D3.go s4
    have lT := tg_len E0 s "tau"
    have nfq : ∀ x ∈ ss, f x ≠ qa := fun x hx e => by
      have z := (D3.l x hx).1
      rw [e, nqa] at z
      cases z
    refine ⟨qa, rfl, ⟨_, SqL.of hqa⟩, for_list (K := K) (a := qa) (xs := (tg E0 s "tau").map V.int)
      (fun j σ H' => ∃ (q5 : Option V) (c' : Int → Nat) (ps' : Int → List Int), σ = [some (.ref p), some (.ref a), some (.ref dm), some (.int s), some (.ref ds), q5, none, none] ∧ DS H H' dm ds ss f c' ps' ∧ H' qa = some (.lst ((tg E0 s "tau").map V.int)) ∧
        (∀ x ∈ ss, c' x = if x = s then j else c x) ∧ ∀ t ∈ ss, ps' t = ps t ++ (if t ∈ (tg E0 s "tau").take j then [s] else []))
      ⟨_, c, ps, rfl, D4, hqa, fun x hx => ?_, fun t ht => by simp⟩ (fun j σ H' _ ⟨_, _, _, _, _, z, _⟩ => SqL.of z) ?_ ?_⟩
    · by_cases e : x = s
      · rw [if_pos e, e, hc s sin, if_neg (ninS hs)]
      · rw [if_neg e]
    · rintro j v σ H5 hv2 ⟨q5', c', ps', rfl, D5, hqa5, hc', hp'⟩
      rw [List.getElem?_map] at hv2
      obtain ⟨t, ht, rfl⟩ := Option.map_eq_some_iff.mp hv2
      have tin := hcl s sin t (List.mem_of_getElem? ht)
      have ltj := (List.getElem?_eq_some_iff.mp ht).1
      obtain ⟨mk5, hm5, lm5, hk5⟩ := D5.m
      have g5 : DGet H5 dm (.int s) (some (.int (c' s : Nat))) := by
        have z := DGet.k (k := Sum.inl s) hm5
        rw [hk5 s sin] at z
        exact z
      refine ⟨_, rfl, _, rfl, dm, _, rfl, g5, _, _, rfl, rfl, _, DPut.k (k := Sum.inl s) hm5 (by omega), ?_⟩
      have D6 := D5.setM hm5 lm5 hk5 sin (c' s + 1)
      have hqa6 : upd H5 dm (.dK (putK mk5 (Sum.inl s) (.int ((c' s + 1 : Nat) : Int)))) qa = some (.lst ((tg E0 s "tau").map V.int)) := by
        rw [upd_ne (ne_of hqa5 hm5 (fun z => nomatch z))]; exact hqa5
      have eI : ((c' s : Nat) : Int) + 1 = ((c' s + 1 : Nat) : Int) := rfl
      rw [eI]
      generalize upd H5 dm (.dK (putK mk5 (Sum.inl s) (.int ((c' s + 1 : Nat) : Int)))) = H6 at D6 hqa6 ⊢
      obtain ⟨sk6, hs6, hk6⟩ := D6.s
      have g6 : DGet H6 ds (.int t) (some (.ref (f t))) := by
        have z := DGet.k (k := Sum.inl t) hs6
        rw [hk6 t tin] at z
        exact z
      have lps : (ps' t).length ≤ 61 := by
        rw [hp' t tin, hp t tin, List.length_append]
        have z := List.length_filter_le (fun s => decide (t ∈ tg E0 s ("tau" : Str))) (ss.take i)
        have y := List.length_take_le i ss
        have y2 : (ss.take i).length ≤ ss.length := by rw [List.length_take]; omega
        split <;> simp <;> omega
      refine ⟨_, rfl, _, rfl, ds, _, rfl, g6, .inl ⟨rfl, _, SqL.of (D6.l t tin).1⟩, _, rfl, f t, _, _, rfl, rfl, (D6.l t tin).1, by rw [List.length_map]; omega, ?_⟩
      have D7 := D6.push tin s
      refine ⟨_, _, _, rfl, D7, by rw [upd_ne (nfq t tin).symm]; exact hqa6, fun x hx => ?_, fun y hy => ?_⟩
      · by_cases e : x = s
        · simp only [if_pos e]
          rw [hc' s sin, if_pos rfl]
        · simp only [if_neg e]
          rw [hc' x hx, if_neg e]
      · have ndE : E0.Nodup := List.nodup_iff_pairwise_ne.mpr (SA.asc.imp fun h e => by rw [e] at h; exact ltE_irrefl _ h)
        have nt : t ∉ (tg E0 s ("tau" : Str)).take j := fun z => by
          obtain ⟨i2, hi2, e⟩ := List.mem_iff_getElem.mp z
          rw [List.length_take] at hi2
          rw [List.getElem_take] at e
          obtain ⟨lt, e2⟩ := List.getElem?_eq_some_iff.mp ht
          have := (List.getElem_inj (tg_nodup ndE s _)).mp (e.trans e2.symm)
          omega
        rw [List.take_succ, ht, Option.toList_some]
        by_cases e : y = t
        · subst e
          simp only [↓reduceIte]
          rw [hp' y hy, if_neg nt, if_pos (by simp), List.append_nil]
        · simp only [if_neg e]
          rw [hp' y hy]
          simp [e]
    · rintro σ H5 ⟨q5', c', ps', rfl, D5, hqa5, hc', hp'⟩
      rw [List.length_map] at hc' hp'
      refine ⟨_, _, c', ps', rfl, D5, fun x hx => ?_, fun t ht => ?_⟩
      · rw [hc' x hx, tkS hs]
        by_cases e : x = s
        · rw [if_pos e, e, if_pos (by simp)]
        · rw [if_neg e, hc x hx]
          simp [e]
      · rw [hp' t ht, hp t ht, tkS hs, fmem, List.take_length]
  rintro σ H3 ⟨q3, q5, c, ps, rfl, D3, hc, hp⟩
  rw [List.length_map] at hc hp
  rw [List.take_length] at hc hp
  have D3' : DS H H3 dm ds ss f (cnt E0 []) (fun t => ss.filter fun s => decide (t ∈ tg E0 s ("tau" : Str))) := D3.cast (fun s hs => by rw [hc s hs, if_pos hs, cnt_nil]) hp
  clear D3 hc hp
  have ndE : E0.Nodup := List.nodup_iff_pairwise_ne.mpr (SA.asc.imp fun h e => by rw [e] at h; exact ltE_irrefl _ h)
  have look : ∀ {H' : Hp} {c : Int → Nat} {p : Int → List Int}, DS H H' dm ds ss f c p → ∀ {s : Int}, s ∈ ss → DGet H' dm (.int s) (some (.int (c s : Nat))) := fun {H' c p} D {s} hs => by
    obtain ⟨mk5, hm5, lm5, hk5⟩ := D.m
    have z := DGet.k (k := Sum.inl s) hm5
    rw [hk5 s hs] at z
    exact z
  -- ending
  refine ⟨_, rfl, a, rfl, lc_seq (K := K) (xs := ss.map V.int) hseq D3'.same (fun D i H' => Same H3 H' ∧ H' D = some (.lst (((ss.take i).filter fun s => decide (cnt E0 [] s = 0)).map V.int)))
    (fun D nD => ⟨same_upd nD _, by rw [upd_same]; simp⟩) (fun D i H' z => D3'.same.trans z.1) ?_ ?_⟩
  · rintro D nD i v H4 hv ⟨s4, hD⟩
    obtain ⟨s, hs, rfl⟩ := at_ss hv
    have sin := List.mem_of_getElem? hs
    refine ⟨rfl, ?_⟩
    refine ⟨_, rfl, _, rfl, dm, _, rfl, look (D3'.go s4) sin, rfl, _, rfl, ?_⟩
    have fl := List.length_filter_le (fun s => decide (cnt E0 [] s = 0)) (ss.take i)
    have tl : (ss.take i).length ≤ ss.length := by rw [List.length_take]; omega
    refine ite2 (fun c => ?_) (fun c => ?_)
    · have z : cnt E0 [] s = 0 := by
        have y := of_decide_eq_true c
        injection y with y
        omega
      refine ⟨_, rfl, _, hD, by rw [List.length_map]; omega, sameIn s4 nD, ?_⟩
      rw [upd_same, tkS hs, List.filter_append, List.filter_cons_of_pos (by simpa using z), List.filter_nil, List.map_append] <;> rfl
    · have z : ¬ cnt E0 [] s = 0 := fun y => c (decide_eq_true (by rw [y] <;> rfl))
      refine ⟨s4, ?_⟩
      rw [hD, tkS hs, List.filter_append, List.filter_cons_of_neg (by simpa using z), List.filter_nil, List.append_nil]
  rintro en nen H4 ⟨s4, hen⟩
  rw [List.length_map, List.take_length] at hen
  have D4 := D3'.go s4
  have nfe : ∀ x ∈ ss, f x ≠ en := fun x hx e => by
    have z := (D3'.l x hx).1
    rw [e, nen] at z
    cases z
  have enH : H en = none := D3'.same.free nen
  clear s4 nen D3'
  refine ⟨fun m σ H' => ∃ (R enl : List Int) (c : Int → Nat) (r3 r5 r7 : Option V), m = ss.length - R.length ∧ σ = [some (.ref p), some (.ref a), some (.ref dm), r3, some (.ref ds), r5, some (.ref en), r7] ∧
      DS H H' dm ds ss f c (fun t => ss.filter fun s => decide (t ∈ tg E0 s ("tau" : Str))) ∧ H' en = some (.lst (enl.map V.int)) ∧ (∀ s ∈ ss, c s = cnt E0 R s) ∧ R.Nodup ∧ enl.Nodup ∧ (∀ x ∈ R, x ∉ enl) ∧ (∀ x ∈ R, x ∈ ss) ∧ (∀ x ∈ enl, x ∈ ss) ∧
      (∀ s ∈ ss, cnt E0 R s = 0 ↔ s ∈ R ∨ s ∈ enl) ∧ ∀ r ∈ R, Halt E0 r,
    ⟨_, [], ss.filter fun s => decide (cnt E0 [] s = 0), cnt E0 [], _, _, _, rfl, rfl, D4, hen, fun _ _ => rfl, List.nodup_nil, List.Nodup.sublist List.filter_sublist ndS, fun x hx => absurd hx List.not_mem_nil, fun x hx => absurd hx List.not_mem_nil, fun x hx => (List.mem_filter.mp hx).1, fun s hs => ?_, fun r hr => absurd hr List.not_mem_nil⟩, ?_⟩
  · rw [List.mem_filter]
    simp [hs]
  rintro m σ H5 ⟨R, enl, c, r3, r5, r7, rfl, rfl, D5, hen5, hc, ndR, ndE', dis, Rss, Ess, iff, hal⟩
  refine ⟨_, rfl, !(enl.map V.int).isEmpty, .inl ⟨_, SqL.of hen5, rfl⟩, ?_⟩
  have lenE' : enl.length ≤ ss.length := nd_le _ _ ndE' Ess
  rcases List.eq_nil_or_concat enl with rfl | ⟨r, t, rfl⟩
  · refine iteF ?_
    have iff' : ∀ s ∈ ss, cnt E0 R s = 0 ↔ s ∈ R := fun s hs => (iff s hs).trans ⟨fun z => z.elim id fun y => absurd y List.not_mem_nil, .inl⟩
    refine ⟨_, rfl, a, rfl, lc_seq (K := K) (xs := ss.map V.int) hseq D5.same (fun D i H' => Same H5 H' ∧ H' D = some (.lst (((ss.take i).filter fun s => decide (0 < cnt E0 R s)).map V.int)))
      (fun D nD => ⟨same_upd nD _, by rw [upd_same]; simp⟩) (fun D i H' z => D5.same.trans z.1) ?_ ?_⟩
    · rintro D nD i v H6 hv ⟨s6, hD⟩
      obtain ⟨s, hs, rfl⟩ := at_ss hv
      have sin := List.mem_of_getElem? hs
      refine ⟨rfl, ?_⟩
      refine ⟨_, rfl, _, rfl, dm, _, rfl, look (D5.go s6) sin, _, _, rfl, rfl, _, rfl, ?_⟩
      rw [hc s sin]
      have fl := List.length_filter_le (fun s => decide (0 < cnt E0 R s)) (ss.take i)
      have tl : (ss.take i).length ≤ ss.length := by rw [List.length_take]; omega
      refine ite2 (fun c => ?_) (fun c => ?_)
      · have z : 0 < cnt E0 R s := by
          have y := of_decide_eq_true c
          omega
        refine ⟨_, rfl, _, hD, by rw [List.length_map]; omega, sameIn s6 nD, ?_⟩
        rw [upd_same, tkS hs, List.filter_append, List.filter_cons_of_pos (by simpa using z), List.filter_nil, List.map_append] <;> rfl
      · have z : ¬ 0 < cnt E0 R s := fun y => c (decide_eq_true (by omega))
        refine ⟨s6, ?_⟩
        rw [hD, tkS hs, List.filter_append, List.filter_cons_of_neg (by simpa using z), List.filter_nil, List.append_nil]
    · rintro D nD H6 ⟨s6, hD⟩
      rw [List.length_map, List.take_length] at hD
      refine ⟨D, _, rfl, .inl ⟨SqL.of hD, fun l nl => q l _ _ ((D5.same.trans s6).trans (same_upd nl _)) upd_same (asc.sublist List.filter_sublist) fun s => ?_⟩⟩
      rw [List.mem_filter, decide_eq_true_eq]
      constructor
      · rintro ⟨h1, h2⟩
        exact ⟨h1, fun z => by
          have y := (cnt_halt hcl iff' hal h1).2 z
          omega⟩
      · rintro ⟨h1, h2⟩
        exact ⟨h1, Nat.pos_of_ne_zero fun z => h2 ((cnt_halt hcl iff' hal h1).1 z)⟩
  · rw [List.concat_eq_append] at *
    have e1 : (!((r ++ [t]).map V.int).isEmpty) = true := by cases r <;> rfl
    rw [e1]
    refine iteT ?_
    refine ⟨_, fun σ' H' z => z, ?_⟩
    have elast : ((r ++ [t]).map V.int)[((r ++ [t]).map V.int).length - 1]? = some (V.int t) := by
      rw [List.map_append, List.length_append, List.map_singleton, List.length_singleton, Nat.add_sub_cancel, List.getElem?_append_right (Nat.le_refl _), Nat.sub_self] <;> rfl
    have edrop : ((r ++ [t]).map V.int).dropLast = r.map V.int := by rw [List.map_append, List.map_singleton, List.dropLast_concat]
    have tin : t ∈ ss := Ess t (by simp)
    have tR : t ∉ R := fun z => dis t z (by simp)
    have ndr : r.Nodup := (List.nodup_append.mp ndE').1
    have tr : t ∉ r := fun z => (List.nodup_append.mp ndE').2.2 t z t (by simp) rfl
    have lenR : R.length + 1 ≤ ss.length := by
      have z := nd_le (t :: R) ss (List.nodup_cons.mpr ⟨tR, ndR⟩) fun x hx => (List.mem_cons.mp hx).elim (fun e => e ▸ tin) (Rss x)
      rw [List.length_cons] at z
      exact z
    have tH : Halt E0 t := ⟨fun u hu => hal u (cnt_zero.1 ((iff t tin).2 (.inr (by simp))) u hu)⟩
    refine ⟨_, rfl, .inl ⟨rfl, _, SqL.of hen5⟩, en, _, _, rfl, rfl, hen5, elast, ?_⟩
    rw [edrop]
    have D6 := D5.lst enH hen5 nfe (r.map V.int)
    have hen6 : upd H5 en (.lst (r.map V.int)) en = some (.lst (r.map V.int)) := upd_same
    generalize upd H5 en (.lst (r.map V.int)) = H6 at D6 hen6 ⊢
    obtain ⟨sk6, hs6, hk6⟩ := D6.s
    have g6 : DGet H6 ds (.int t) (some (.ref (f t))) := by
      have z := DGet.k (k := Sum.inl t) hs6
      rw [hk6 t tin] at z
      exact z
    refine ⟨_, rfl, _, rfl, ds, _, rfl, g6, f t, rfl, ⟨_, SqL.of (D6.l t tin).1⟩, ?_⟩
    obtain ⟨P0, eP⟩ : ∃ P0, P0 = ss.filter fun s => decide (t ∈ tg E0 s ("tau" : Str)) := ⟨_, rfl⟩
    have ndP : P0.Nodup := by rw [eP]; exact List.Nodup.sublist List.filter_sublist ndS
    have memP : ∀ s, s ∈ P0 ↔ s ∈ ss ∧ t ∈ tg E0 s ("tau" : Str) := fun s => by rw [eP, List.mem_filter, decide_eq_true_eq]
    refine for_list (K := K) (a := f t) (xs := P0.map V.int)
      (fun j σ H' => ∃ (enl' : List Int) (c' : Int → Nat) (r7 : Option V), σ = [some (.ref p), some (.ref a), some (.ref dm), some (.int t), some (.ref ds), r5, some (.ref en), r7] ∧
        DS H H' dm ds ss f c' (fun t => ss.filter fun s => decide (t ∈ tg E0 s ("tau" : Str))) ∧ H' en = some (.lst (enl'.map V.int)) ∧ (∀ s ∈ ss, c' s + (if s ∈ P0.take j then 1 else 0) = cnt E0 R s) ∧ enl'.Nodup ∧ (∀ x ∈ enl', x ∈ ss) ∧
        (∀ s ∈ ss, c' s = 0 ↔ s ∈ t :: R ∨ s ∈ enl') ∧ ∀ x ∈ t :: R, x ∉ enl')
      ⟨r, c, _, rfl, D6, hen6, fun s hs => by rw [hc s hs]; simp, ndr, fun x hx => Ess x (List.mem_append_left _ hx), fun s hs => ?_, fun x hx => ?_⟩
      (fun j σ H' _ ⟨_, _, _, _, D, _⟩ => by rw [eP]; exact SqL.of (D.l t tin).1) ?_ ?_
    · rw [hc s hs, iff s hs]
      simp only [List.mem_cons, List.mem_append, List.mem_singleton, List.not_mem_nil, or_false]
      constructor
      · rintro (z | z | z)
        · exact .inl (.inr z)
        · exact .inr z
        · exact .inl (.inl z)
      · rintro ((z | z) | z)
        · exact .inr (.inr z)
        · exact .inl z
        · exact .inr (.inl z)
    · rcases List.mem_cons.mp hx with rfl | z
      · exact tr
      · exact fun y => dis x z (List.mem_append_left _ y)
    · rintro j v σ H7 hv ⟨enl', c', r7', rfl, D7, hen7, hc', nd', sub', iff', dis'⟩
      rw [List.getElem?_map] at hv
      obtain ⟨s, hs, rfl⟩ := Option.map_eq_some_iff.mp hv
      have sP := List.mem_of_getElem? hs
      obtain ⟨sin, sT⟩ := (memP s).1 sP
      have sNot : s ∉ P0.take j := fun z => by
        obtain ⟨i2, hi2, e⟩ := List.mem_iff_getElem.mp z
        rw [List.length_take] at hi2
        rw [List.getElem_take] at e
        obtain ⟨lt, e2⟩ := List.getElem?_eq_some_iff.mp hs
        have := (List.getElem_inj ndP).mp (e.trans e2.symm)
        omega
      have cs := hc' s sin
      rw [if_neg sNot, Nat.add_zero] at cs
      have c1 : 1 ≤ c' s := by
        rw [cs, cnt_cons ndE tR s, if_pos sT]
        omega
      obtain ⟨mk7, hm7, lm7, hk7⟩ := D7.m
      refine ⟨_, rfl, _, rfl, dm, _, rfl, look D7 sin, _, _, rfl, rfl, _, DPut.k (k := Sum.inl s) hm7 (by omega), ?_⟩
      have D8 := D7.setM hm7 lm7 hk7 sin (c' s - 1)
      have hen8 : upd H7 dm (.dK (putK mk7 (Sum.inl s) (.int ((c' s - 1 : Nat) : Int)))) en = some (.lst (enl'.map V.int)) := by
        rw [upd_ne (ne_of hen7 hm7 (fun z => nomatch z))]; exact hen7
      have eI : ((c' s : Nat) : Int) - 1 = ((c' s - 1 : Nat) : Int) := by omega
      rw [eI]
      generalize upd H7 dm (.dK (putK mk7 (Sum.inl s) (.int ((c' s - 1 : Nat) : Int)))) = H8 at D8 hen8 ⊢
      have tkP : P0.take (j + 1) = P0.take j ++ [s] := by rw [List.take_add_one, hs, Option.toList_some]
      have hc8 : ∀ x ∈ ss, (if x = s then c' s - 1 else c' x) + (if x ∈ P0.take (j + 1) then 1 else 0) = cnt E0 R x := fun x hx => by
        rw [tkP]
        by_cases e : x = s
        · subst e
          simp only [↓reduceIte]
          rw [if_pos (by simp), ← cs]
          omega
        · rw [if_neg e, ← hc' x hx]
          simp [e]
      have snot : s ∉ t :: R ∧ s ∉ enl' := by
        have z : ¬ (s ∈ t :: R ∨ s ∈ enl') := fun z => by
          have := (iff' s sin).2 z
          omega
        exact ⟨fun y => z (.inl y), fun y => z (.inr y)⟩
      have lenE2 : enl'.length ≤ ss.length := nd_le _ _ nd' sub'
      refine ⟨_, rfl, _, rfl, dm, _, rfl, look D8 sin, rfl, _, rfl, ?_⟩
      simp only [↓reduceIte]
      refine ite2 (fun cc => ?_) (fun cc => ?_)
      · have z0 : c' s - 1 = 0 := by
          have y := of_decide_eq_true cc
          injection y with y
          omega
        refine ⟨_, rfl, .inl ⟨rfl, _, SqL.of hen8⟩, _, rfl, en, _, _, rfl, rfl, hen8, by rw [List.length_map]; omega, ?_⟩
        have D9 := D8.lst enH hen8 nfe (enl'.map V.int ++ [.int s])
        refine ⟨enl' ++ [s], _, _, rfl, D9, by rw [upd_same, List.map_append] <;> rfl, hc8, List.nodup_append.mpr ⟨nd', by simp, fun x hx y hy e => snot.2 (by rw [List.mem_singleton.mp hy] at e; rw [← e]; exact hx)⟩, fun x hx => ?_, fun x hx => ?_, fun x hx y => ?_⟩
        · rcases List.mem_append.mp hx with z | z
          · exact sub' x z
          · rw [List.mem_singleton.mp z]; exact sin
        · by_cases e : x = s
          · subst e
            simp only [↓reduceIte]
            exact ⟨fun _ => .inr (by simp), fun _ => z0⟩
          · simp only [if_neg e]
            rw [iff' x hx]
            simp [e]
        · rcases List.mem_append.mp y with z | z
          · exact dis' x hx z
          · rw [List.mem_singleton.mp z] at hx
            exact snot.1 hx
      · have z0 : ¬ c' s - 1 = 0 := fun y => cc (decide_eq_true (by rw [y] <;> rfl))
        refine ⟨enl', _, _, rfl, D8, hen8, hc8, nd', sub', fun x hx => ?_, dis'⟩
        by_cases e : x = s
        · subst e
          simp only [↓reduceIte]
          exact ⟨fun z => absurd z z0, fun z => absurd z (fun y => y.elim snot.1 snot.2)⟩
        · simp only [if_neg e]
          exact iff' x hx
    · rintro σ H7 ⟨enl', c', r7', rfl, D7, hen7, hc', nd', sub', iff', dis'⟩
      rw [List.length_map, List.take_length] at hc'
      have cR : ∀ s ∈ ss, c' s = cnt E0 (t :: R) s := fun s hs => by
        have z := hc' s hs
        rw [cnt_cons ndE tR s] at z
        by_cases y : t ∈ tg E0 s ("tau" : Str)
        · rw [if_pos y, if_pos ((memP s).2 ⟨hs, y⟩)] at z
          omega
        · rw [if_neg y, if_neg (fun w => y ((memP s).1 w).2)] at z
          exact z
      refine ⟨_, ?_, t :: R, enl', c', _, _, _, rfl, rfl, D7, hen7, cR, List.nodup_cons.mpr ⟨tR, ndR⟩, nd', dis', fun x hx => ?_, sub', fun s hs => ?_, fun x hx => ?_⟩
      · rw [List.length_cons]
        omega
      · exact (List.mem_cons.mp hx).elim (fun e => e ▸ tin) (Rss x)
      · rw [← cR s hs]
        exact iff' s hs
      · exact (List.mem_cons.mp hx).elim (fun e => e ▸ tH) (hal x)
end
end LW

set_option Elab.async false
set_option linter.all false
set_option maxRecDepth 100000
set_option maxHeartbeats 4000000
namespace LW
open PySem PySem.Spec PyProof.Rows L2 LamX NdefX VB VM VP VE VX VQ VZ
abbrev s_is_divergence : Stmt := top 15
theorem sc_is_divergence : FnScope ["system", "trace"] ["system", "trace"] (defScope s_is_divergence) := ⟨rfl, rfl, rfl, by decide +kernel, rfl, by decide +kernel, by decide +kernel⟩
theorem clo_closed {E : List Ed} {S cs : List Int} (h : IsClo E S cs) : ∀ s ∈ cs, ∀ t, t ∈ tg E s ("tau" : Str) → t ∈ cs := fun s hs t ht => (h.mem t).2 (.step ((h.mem s).1 hs) (tg_mem.1 ht))
theorem rch_halt {E : List Ed} {S : List Int} (hS : ∀ s ∈ S, Halt E s) {x : Int} (h : Rch E S x) : Halt E x := by
  induction h with
  | base h => exact hS _ h
  | step _ h ih =>
    cases ih with
    | mk k => exact k _ (tg_mem.2 h)
theorem runs_clo {E : List Ed} : ∀ {r : List Str} {S ds cs : List Int}, IsClo E S ds → Runs E ds r cs → ∃ S', IsClo E S' cs
  | [], S, _, _, h, e => ⟨S, by rw [show _ = _ from e]; exact h⟩
  | _ :: _, _, _, _, _, ⟨_, a, b⟩ => runs_clo a b
section
variable {P : Program} {w : World} {K : PySem.W.Frag} {mg : Str → Option Value} {base : Heap}
def spIsD (K : PySem.W.Frag) (C : Addr) : Sp := fun vs H Q _ => ∃ (φ : Addr → Prop) (p a : Addr) (n : Int) (E0 : List Ed) (xs : List Str), vs = [.ref p, .ref a] ∧ SysAt K φ C H p n E0 ∧ 1 ≤ n ∧ n ≤ 60 ∧ E0.length ≤ 1000 ∧ SqT K H a (xs.map V.str) ∧
  ∀ (H' : Hp) (c0 cs : List Int) (b : Bool), Same H H' → IsClo E0 [0] c0 → Runs E0 c0 xs cs → (b = true ↔ ∃ s ∈ cs, ¬ Halt E0 s) → Q (.bl b) H'
theorem c_isdiv {C : Addr} (D : Df K mg "is_divergence" s_is_divergence) (z_len : mg "len" = none) (c_states_after : C8.Cal P w K mg base 5 "states_after" (spStA K C) []) (c_diverging_among : C8.Cal P w K mg base 3 "diverging_among" (spDiv K C) []) : C8.Cal P w K mg base 6 "is_divergence" (spIsD K C) [] := by
  refine D.cal sc_is_divergence (fun _ _ _ _ _ _ us hl => match us, hl with | [_, _], _ => rfl) (fun vs H Q E h => ?_) (fun f cdv A outer s0 H vs Q E hr h => ?_)
  · obtain ⟨φ, p, a, n, E0, xs, rfl, _⟩ := h
    rfl
  obtain ⟨φ, p, a, n, E0, xs, rfl, SA, n1, n60, lenE, hT, q⟩ := h
  refine ⟨_, (pss_one (ps_ret (pe_cmpR op_gt (pe_callB (VK.lenQ (K := K) rfl) (by rfl) z_len PySem.boot_len (pa_cons (C8.pe_c c_diverging_among hr (by first | decide | omega) rfl (pa_cons (pv 0) (pa_cons (C8.pe_c c_states_after hr (by first | decide | omega) rfl (pa_cons (pv 0) (pa_cons (pv 1) pa_nil))) pa_nil))) pa_nil)) pe_int (nomark _)))), ?_⟩
  refine ⟨_, rfl, _, rfl, _, rfl, φ, p, a, n, E0, xs, rfl, SA, n1, n60, lenE, hT, fun q1 H1 c0 cs s1 hq hc0 hr1 hrng hlen => ?_⟩
  obtain ⟨S', hcs⟩ := runs_clo hc0 hr1
  refine ⟨φ, p, q1, n, E0, cs, rfl, SA.same s1, lenE, .inr (.inl (.inl hq)), hcs.asc, hrng, hlen, clo_closed hcs, fun q2 H2 ds s3 hq2 asc2 mem2 => ?_⟩
  refine ⟨q2, _, rfl, .inr (.inl (.inl hq2)), _, _, rfl, rfl, ?_⟩
  refine q H2 c0 cs _ (s1.trans s3) hc0 hr1 ?_
  rw [decide_eq_true_eq, List.length_map]
  constructor
  · intro z
    have y : ds ≠ [] := fun e => by rw [e] at z; simp at z
    obtain ⟨x, hx⟩ := List.exists_mem_of_ne_nil _ y
    exact ⟨x, (mem2 x).1 hx⟩
  · rintro ⟨x, h1, h2⟩
    have y := List.length_pos_of_mem ((mem2 x).2 ⟨h1, h2⟩)
    omega
end
end LW

set_option Elab.async false
set_option linter.all false
set_option maxRecDepth 100000
set_option maxHeartbeats 4000000
namespace LW
open PySem PySem.Spec PyProof.Rows L2 LamX NdefX VB VM VP VE VX VQ VZ VD
abbrev s_is_behaviour : Stmt := top 16
theorem sc_is_behaviour : FnScope ["system", "behaviour", "kind"] ["system", "behaviour"] (defScope s_is_behaviour) := ⟨rfl, rfl, rfl, by decide +kernel, rfl, by decide +kernel, by decide +kernel⟩
theorem strs_can {xs : List Str} (h : ∀ x ∈ xs, PyData.strOk x = true) : PyData.canLayAll0 (xs.map PyData.str) = true := by
  induction xs with
  | nil => rfl
  | cons x xs ih => rw [List.map_cons]; simp [PyData.canLayAll0, PyData.canLay0, h x List.mem_cons_self, ih fun y hy => h y (List.mem_cons_of_mem _ hy)]
theorem strs_dep : ∀ ss : List Str, PyData.depthAll (ss.map PyData.str) = 0
  | [] => rfl
  | s :: ss => by rw [List.map_cons]; unfold PyData.depthAll; rw [strs_dep ss] <;> rfl
theorem strs_eqv : ∀ xs ys : List Str, PyData.eqvAll (xs.map PyData.str) (ys.map PyData.str) = decide (xs = ys)
  | [], [] => rfl
  | [], _ :: _ => rfl
  | _ :: _, [] => rfl
  | x :: xs, y :: ys => by
    rw [List.map_cons, List.map_cons]
    unfold PyData.eqvAll
    rw [strs_eqv xs ys]
    by_cases h : x = y <;> simp [PyData.eqv, h]
theorem row_eqv (a b : List Str) : PyData.eqv (rowD a) (rowD b) = decide (a = b) := by
  unfold rowD
  rw [show PyData.eqv (.tuple (a.map PyData.str)) (.tuple (b.map PyData.str)) = PyData.eqvAll (a.map PyData.str) (b.map PyData.str) by simp [PyData.eqv]]
  exact strs_eqv a b
theorem any_row (e : List Str) : ∀ L : List (List Str), ((L.map rowD).any fun z => PyData.eqv z (rowD e)) = decide (e ∈ L)
  | [] => by simp
  | x :: L => by
    rw [List.map_cons, List.any_cons, any_row e L, row_eqv]
    by_cases h : x = e
    · subst h; simp
    · have h2 : ¬ e = x := fun z => h z.symm
      simp [h, h2]
theorem row_depth (a : List Str) : (rowD a).depth = 1 := by
  unfold rowD PyData.depth
  rw [strs_dep]
abbrev OkR (a : List Str) : Prop := ∀ x ∈ a, PyData.strOk x = true
theorem row_can {a : List Str} (h : OkR a) : (rowD a).canLay0 = true := by
  unfold rowD
  rw [PyData.canLay0]
  exact strs_can h
theorem row_shaped {a : List Str} (h : OkR a) : SeqAt.shaped (rowD a) = true := by
  unfold SeqAt.shaped
  rw [row_can h, row_depth]
  rfl
theorem rows_can {L : List (List Str)} (h : ∀ a ∈ L, OkR a) : PyData.canLayAll0 (L.map rowD) = true := by
  induction L with
  | nil => rfl
  | cons x xs ih => rw [List.map_cons]; simp [PyData.canLayAll0, row_can (h x List.mem_cons_self), ih fun y hy => h y (List.mem_cons_of_mem _ hy)]
theorem rows_depth : ∀ L : List (List Str), PyData.depthAll (L.map rowD) ≤ 1
  | [] => Nat.zero_le _
  | x :: L => by
    rw [List.map_cons]
    unfold PyData.depthAll
    have z := rows_depth L
    have y := row_depth x
    omega
theorem rows_shaped {L : List (List Str)} (h : ∀ a ∈ L, OkR a) : SeqAt.shaped (.list (L.map rowD)) = true := by
  have z := rows_depth L
  unfold SeqAt.shaped
  rw [show (PyData.list (L.map rowD)).canLay0 = PyData.canLayAll0 (L.map rowD) by rw [PyData.canLay0], rows_can h, Bool.true_and, decide_eq_true_eq]
  unfold PyData.depth
  omega
theorem row_dp {K : PySem.W.Frag} {H : Hp} {a : Addr} {x : List Str} (h : SqT K H a (x.map V.str)) : Dp K H (.ref a) (rowD x) := .tup h (VB.dpAll_strs _)
theorem rows_all {K : PySem.W.Frag} {H : Hp} {L : List (Addr × List Str)} (h : Rows K H L) : DpAll K H (refs L) ((L.map (·.2)).map rowD) := by
  induction L with
  | nil => exact .nil
  | cons p L ih => exact .cons (row_dp (h p List.mem_cons_self)) (ih fun q hq => h q (List.mem_cons_of_mem _ hq))
theorem rows_dp {K : PySem.W.Frag} {H : Hp} {a : Addr} {L : List (Addr × List Str)} (h : H a = some (.lst (refs L))) (hr : Rows K H L) : Dp K H (.ref a) (.list ((L.map (·.2)).map rowD)) := .lst (SqL.of h) (rows_all hr)
theorem acs_mem {E : List Ed} {s : Int} {x : Str} (h : x ∈ acs E s) : ∃ e ∈ E, e.2.1 = x := by
  unfold acs at h
  obtain ⟨p, hp, rfl⟩ := List.mem_map.mp h
  obtain ⟨h1, _⟩ := List.mem_filter.mp hp
  exact ⟨_, leav_mem.1 h1, rfl⟩
theorem srtS_mem {l : List Str} {x : Str} : x ∈ srtS l ↔ x ∈ l := by
  unfold srtS
  rw [List.mem_mergeSort, onceG_mem]
  simp
theorem off_ok {n : Int} {E : List Ed} (ok : ∀ e ∈ E, okE n e) (s : Int) : OkR (srtS (acs E s)) := fun x hx => by
  obtain ⟨e, he, rfl⟩ := acs_mem (srtS_mem.1 hx)
  exact (acts_ok _ (ok e he).2.2.2.2).1
/-- what a behaviour of a kind says -/
def BehP (E : List Ed) (cs : List Int) (k : Nat) (os : List Str) : Prop :=
  match k with
  | 0 => cs ≠ []
  | 1 => ∃ s ∈ cs, ¬ Halt E s
  | _ => ∃ s ∈ cs, tg E s ("tau" : Str) = [] ∧ os = srtS (acs E s)
def BhS (K : PySem.W.Frag) (H : Hp) (b t : Addr) (k : Nat) (os : List Str) : Prop :=
  (k = 0 ∧ SqT K H b [.str "trace", .ref t]) ∨ (k = 1 ∧ SqT K H b [.str "divergence", .ref t]) ∨ (k = 2 ∧ ∃ o : Addr, SqT K H b [.str "failure", .ref t, .ref o] ∧ SqT K H o (os.map V.str))
section
variable {P : Program} {w : World} {K : PySem.W.Frag} {mg : Str → Option Value} {base : Heap}
def spSto (K : PySem.W.Frag) (C : Addr) : Sp := fun vs H Q _ => ∃ (φ : Addr → Prop) (p a : Addr) (n : Int) (E0 : List Ed) (xs : List Str), vs = [.ref p, .ref a] ∧ SysAt K φ C H p n E0 ∧ 1 ≤ n ∧ n ≤ 60 ∧ E0.length ≤ 1000 ∧ SqT K H a (xs.map V.str) ∧
  ∀ (q : Addr) (H' : Hp) (RL : List (Addr × List Str)) (c0 cs : List Int), Same H H' → H' q = some (.lst (refs RL)) → Rows K H' RL → (RL.map (·.2)).Pairwise ltR → (∀ x, x ∈ RL.map (·.2) ↔ ∃ s ∈ cs, tg E0 s "tau" = [] ∧ x = srtS (acs E0 s)) → RL.length ≤ 60 → IsClo E0 [0] c0 → Runs E0 c0 xs cs → Q (.ref q) H'
theorem c_sto {C : Addr} (D : Df K mg "stable_offers" s_stable_offers) (c_states_after : C8.Cal P w K mg base 5 "states_after" (spStA K C) []) (c_offers_among : C8.Cal P w K mg base 3 "offers_among" (spAmo K C) []) : C8.Cal P w K mg base 6 "stable_offers" (spSto K C) [] := by
  refine D.cal sc_stable_offers (fun _ _ _ _ _ _ us hl => match us, hl with | [_, _], _ => rfl) (fun vs H Q E h => ?_) (fun f cdv A outer s0 H vs Q E hr h => ?_)
  · obtain ⟨φ, p, a, n, E0, xs, rfl, _⟩ := h
    rfl
  obtain ⟨φ, p, a, n, E0, xs, rfl, SA, n1, n60, lenE, hT, q⟩ := h
  refine ⟨_, (pss_one (ps_ret (C8.pe_c c_offers_among hr (by first | decide | omega) rfl (pa_cons (pv 0) (pa_cons (C8.pe_c c_states_after hr (by first | decide | omega) rfl (pa_cons (pv 0) (pa_cons (pv 1) pa_nil))) pa_nil))))), ?_⟩
  refine ⟨_, rfl, _, rfl, _, rfl, φ, p, a, n, E0, xs, rfl, SA, n1, n60, lenE, hT, fun q1 H1 c0 cs s1 hq hc0 hr1 hrng hlen => ?_⟩
  exact ⟨φ, p, q1, n, E0, cs, rfl, SA.same s1, lenE, .inl (.inl hq), hrng, hlen, fun q2 H2 RL s2 hq2 hR asc mem lR => q q2 H2 RL c0 cs (s1.trans s2) hq2 hR asc mem lR hc0 hr1⟩
def spBeh (K : PySem.W.Frag) (C : Addr) : Sp := fun vs H Q _ => ∃ (φ : Addr → Prop) (p b t : Addr) (n : Int) (E0 : List Ed) (xs os : List Str) (k : Nat), vs = [.ref p, .ref b] ∧ SysAt K φ C H p n E0 ∧ 1 ≤ n ∧ n ≤ 60 ∧ E0.length ≤ 1000 ∧ SqT K H t (xs.map V.str) ∧
  BhS K H b t k os ∧ OkR os ∧ ∀ (H' : Hp) (r : Bool) (c0 cs : List Int), Same H H' → IsClo E0 [0] c0 → Runs E0 c0 xs cs → (r = true ↔ BehP E0 cs k os) → Q (.bl r) H'
theorem c_beh {C : Addr} (D : Df K mg "is_behaviour" s_is_behaviour) (c_is_trace : C8.Cal P w K mg base 6 "is_trace" (spIsT K C) []) (c_is_divergence : C8.Cal P w K mg base 6 "is_divergence" (spIsD K C) []) (c_stable_offers : C8.Cal P w K mg base 6 "stable_offers" (spSto K C) []) :
    C8.Cal P w K mg base 7 "is_behaviour" (spBeh K C) [] := by
  refine D.cal sc_is_behaviour (fun _ _ _ _ _ _ us hl => match us, hl with | [_, _], _ => rfl) (fun vs H Q E h => ?_) (fun f cdv A outer s0 H vs Q E hr h => ?_)
  · obtain ⟨φ, p, b, t, n, E0, xs, os, k, rfl, _⟩ := h
    rfl
  obtain ⟨φ, p, b, t, n, E0, xs, os, k, rfl, SA, n1, n60, lenE, hT, hb, oko, q⟩ := h
  refine ⟨_, (pss_cons (ps_set (i := 2) sc_is_behaviour.nd rfl (Or.inl rfl) (pe_ix (VK.ixT (K := K) rfl) (pv 1) pe_int (fun _ _ => rfl)))
    (pss_cons (ps_if (pt_cmpR op_eq (pv 2) pe_str (nomark _))
      (pss_one (ps_ret (C8.pe_c c_is_trace hr (by first | decide | omega) rfl (pa_cons (pv 0) (pa_cons (pe_ix (VK.ixT (K := K) rfl) (pv 1) pe_int (fun _ _ => rfl)) pa_nil)))))
      pss_nil)
    (pss_cons (ps_if (pt_cmpR op_eq (pv 2) pe_str (nomark _))
      (pss_one (ps_ret (C8.pe_c c_is_divergence hr (by first | decide | omega) rfl (pa_cons (pv 0) (pa_cons (pe_ix (VK.ixT (K := K) rfl) (pv 1) pe_int (fun _ _ => rfl)) pa_nil)))))
      pss_nil)
    (pss_one (ps_ret (pe_cmpR (VP.inD (K := K) rfl (VP.un65 hr)) (pe_ix (VK.ixT (K := K) rfl) (pv 1) pe_int (fun _ _ => rfl)) (C8.pe_c c_stable_offers hr (by first | decide | omega) rfl (pa_cons (pv 0) (pa_cons (pe_ix (VK.ixT (K := K) rfl) (pv 1) pe_int (fun _ _ => rfl)) pa_nil))) rfl)))))), ?_⟩
  rcases hb with ⟨rfl, hb⟩ | ⟨rfl, hb⟩ | ⟨rfl, o, hb, ho⟩
  · refine ⟨_, rfl, b, _, _, _, rfl, rfl, hb, rfl, _, rfl, rfl, _, rfl, iteT ?_⟩
    refine ⟨_, rfl, _, rfl, b, _, _, _, rfl, rfl, hb, rfl, φ, p, t, n, E0, xs, rfl, SA, n1, n60, lenE, hT, fun H' c0 cs s hc0 hr1 => q H' _ c0 cs s hc0 hr1 ?_⟩
    rw [decide_eq_true_eq]
    rfl
  · refine ⟨_, rfl, b, _, _, _, rfl, rfl, hb, rfl, _, rfl, rfl, _, rfl, iteF ?_⟩
    refine ⟨_, rfl, rfl, _, rfl, iteT ?_⟩
    exact ⟨_, rfl, _, rfl, b, _, _, _, rfl, rfl, hb, rfl, φ, p, t, n, E0, xs, rfl, SA, n1, n60, lenE, hT, fun H' c0 cs r s hc0 hr1 hr => q H' r c0 cs s hc0 hr1 hr⟩
  · refine ⟨_, rfl, b, _, _, _, rfl, rfl, hb, rfl, _, rfl, rfl, _, rfl, iteF ?_⟩
    refine ⟨_, rfl, rfl, _, rfl, iteF ?_⟩
    refine ⟨_, rfl, b, _, _, _, rfl, rfl, hb, rfl, _, rfl, _, rfl, b, _, _, _, rfl, rfl, hb, rfl, φ, p, t, n, E0, xs, rfl, SA, n1, n60, lenE, hT, fun q1 H1 RL c0 cs s1 hq hR asc mem lR hc0 hr1 => ?_⟩
    refine ⟨_, _, row_dp (VB.Same.sqT s1 ho), rows_dp hq hR, row_shaped oko, rows_shaped (fun a ha => ?_), ?_⟩
    · obtain ⟨s, _, _, rfl⟩ := (mem a).1 ha
      exact off_ok SA.ok s
    · rw [any_row]
      refine q H1 _ c0 cs s1 hc0 hr1 ?_
      rw [decide_eq_true_eq, mem]
      rfl
end
end LW

set_option Elab.async false
set_option linter.all false
set_option maxRecDepth 100000
set_option maxHeartbeats 4000000
namespace LW
open PySem PySem.Spec PyProof.Rows L2 LamX NdefX VB VM VP VE VX VQ VZ
/-- a chain of k silent edges -/
def Ch (E : List Ed) : Nat → Int → Prop
  | 0, _ => True
  | k + 1, s => ∃ t, t ∈ tg E s ("tau" : Str) ∧ Ch E k t
/-- a chain of k silent edges to a state -/
def Ex (E : List Ed) (s : Int) : Nat → Int → Prop
  | 0, y => y = s
  | k + 1, y => ∃ x, Ex E s k x ∧ y ∈ tg E x ("tau" : Str)
theorem ex_ch {E : List Ed} {s : Int} : ∀ (k j : Nat) {x : Int}, Ex E s k x → Ch E j x → Ch E (k + j) s
  | 0, j, x, h, c => by
    rw [Nat.zero_add, ← show x = s from h]
    exact c
  | k + 1, j, x, ⟨y, h, g⟩, c => by
    have z := ex_ch k (j + 1) h (show Ch E (j + 1) y from ⟨x, g, c⟩)
    rw [show k + 1 + j = k + (j + 1) by omega]
    exact z
theorem ch_ex {E : List Ed} {s : Int} : ∀ (k j : Nat) {x : Int}, Ch E k x → Ex E s j x → ∃ y, Ex E s (j + k) y
  | 0, j, x, _, h => ⟨x, h⟩
  | k + 1, j, x, ⟨t, h, c⟩, e => by
    obtain ⟨y, z⟩ := ch_ex k (j + 1) c (show Ex E s (j + 1) t from ⟨x, e, h⟩)
    exact ⟨y, by rw [show j + (k + 1) = j + 1 + k by omega]; exact z⟩
theorem ex_iff {E : List Ed} {s : Int} {k : Nat} : (∃ y, Ex E s k y) ↔ Ch E k s :=
  ⟨fun ⟨_, h⟩ => ex_ch k 0 h trivial, fun h => by
    obtain ⟨y, z⟩ := ch_ex (s := s) k 0 h rfl
    exact ⟨y, by rw [Nat.zero_add] at z; exact z⟩⟩
inductive Plus (E : List Ed) : Int → Int → Prop
  | one {x y : Int} : y ∈ tg E x ("tau" : Str) → Plus E x y
  | more {x y z : Int} : y ∈ tg E x ("tau" : Str) → Plus E y z → Plus E x z
theorem Plus.snoc {E : List Ed} {x y z : Int} (h : Plus E x y) (g : z ∈ tg E y ("tau" : Str)) : Plus E x z := by
  induction h with
  | one h => exact .more h (.one g)
  | more h _ ih => exact .more h (ih g)
theorem halt_no {E : List Ed} {s : Int} (h : Halt E s) : ¬ Plus E s s := by
  induction h with
  | mk _ ih =>
    intro p
    cases p with
    | one g => exact ih _ g (.one g)
    | more g p => exact ih _ g (p.snoc g)
theorem halt_path {E : List Ed} {n : Int} (ok : ∀ e ∈ E, okE n e) : ∀ (k : Nat) {s : Int}, 0 ≤ s → s < n → Halt E s → Ch E k s → ∃ l : List Int, l.length = k + 1 ∧ l.Nodup ∧ (∀ x ∈ l, 0 ≤ x ∧ x < n) ∧ ∀ x ∈ l, x = s ∨ Plus E s x
  | 0, s, s0, s1, _, _ => ⟨[s], rfl, by simp, fun x hx => by rw [List.mem_singleton.mp hx]; exact ⟨s0, s1⟩, fun x hx => .inl (List.mem_singleton.mp hx)⟩
  | k + 1, s, s0, s1, h, ⟨t, ht, c⟩ => by
    have e := ok _ (tg_mem.1 ht)
    obtain ⟨l, l1, l2, l3, l4⟩ := halt_path ok k e.2.2.1 e.2.2.2.1 (by cases h with | mk h => exact h t ht) c
    have pl : ∀ x ∈ l, Plus E s x := fun x hx => (l4 x hx).elim (fun z => by rw [z]; exact .one ht) (fun z => .more ht z)
    refine ⟨s :: l, by rw [List.length_cons, l1], List.nodup_cons.mpr ⟨fun z => halt_no h (pl s z), l2⟩, fun x hx => ?_, fun x hx => ?_⟩
    · rcases List.mem_cons.mp hx with z | z
      · rw [z]; exact ⟨s0, s1⟩
      · exact l3 x z
    · rcases List.mem_cons.mp hx with z | z
      · exact .inl z
      · exact .inr (pl x z)
theorem not_halt_ch {E : List Ed} : ∀ (k : Nat) {s : Int}, ¬ Halt E s → Ch E k s
  | 0, _, _ => trivial
  | k + 1, s, h => by
    have z : ∃ t, t ∈ tg E s ("tau" : Str) ∧ ¬ Halt E t := Classical.byContradiction fun n => h ⟨fun t ht => Classical.byContradiction fun g => n ⟨t, ht, g⟩⟩
    obtain ⟨t, h1, h2⟩ := z
    exact ⟨t, h1, not_halt_ch k h2⟩
theorem ch_halt {E : List Ed} {n : Int} (ok : ∀ e ∈ E, okE n e) {s : Int} (s0 : 0 ≤ s) (s1 : s < n) : Ch E n.toNat s ↔ ¬ Halt E s := by
  refine ⟨fun c h => ?_, not_halt_ch _⟩
  obtain ⟨l, l1, l2, l3, _⟩ := halt_path ok _ s0 s1 h c
  have z := few_of l2 l3
  omega
theorem halt_congr {E E' : List Ed} (h : ∀ e, e ∈ E ↔ e ∈ E') {s : Int} (g : Halt E s) : Halt E' s := by
  induction g with
  | mk _ ih => exact ⟨fun t ht => ih t (tg_mem.2 ((h _).2 (tg_mem.1 ht)))⟩
theorem ch_pred {E : List Ed} : ∀ (k : Nat) {s : Int}, Ch E (k + 1) s → Ch E k s
  | 0, _, _ => trivial
  | k + 1, _, ⟨t, h, c⟩ => ⟨t, h, ch_pred k c⟩
theorem rgV_rng (n : Int) : rgV 0 n = (rng n.toNat).map V.int := by
  unfold rgV rng
  rw [List.map_map, Int.sub_zero]
  refine List.map_congr_left fun i _ => ?_
  show V.int (0 + (i : Nat)) = V.int ((i : Nat) : Int)
  rw [Int.zero_add]
theorem rng_asc (m : Nat) : (rng m).Pairwise (· < ·) := by
  unfold rng
  refine List.pairwise_map.mpr (List.pairwise_lt_range.imp fun h => by omega)
end LW

set_option Elab.async false
set_option linter.all false
set_option maxRecDepth 100000
set_option maxHeartbeats 4000000
namespace LW
open PySem PySem.Spec PyProof.Rows L2 LamX NdefX VB VM VP VE VX VQ VZ VD
section
variable {P : Program} {w : World} {K : PySem.W.Frag} {mg : Str → Option Value} {base : Heap}
/-- each row once -/
def spOnceR (K : PySem.W.Frag) : Sp := fun vs H Q _ => ∃ (a : Addr) (L : List (Addr × List Str)), vs = [.ref a] ∧ SqL K H a (refs L) ∧ Rows K H L ∧ L.length ≤ 1000 ∧ (∀ p ∈ L, OkR p.2) ∧
  ∀ (p : Addr) (L' : List (Addr × List Str)), H p = none → (∀ x ∈ L', x ∈ L) → L'.map (·.2) = onceG [] (L.map (·.2)) → Q (.ref p) (upd H p (.lst (refs L')))
theorem c_onceR (D : Df K mg "_law_once" s__law_once) : C8.Cal P w K mg base 1 "_law_once" (spOnceR K) [] := by
  refine D.cal sc__law_once (fun _ _ _ _ _ _ us hl => match us, hl with | [_], _ => rfl) (fun vs H Q E h => ?_) (fun f cdv A outer s H vs Q E hr h => ?_)
  · obtain ⟨a, L, rfl, _⟩ := h
    rfl
  obtain ⟨a, L, rfl, hS, hE, hz, ha, q⟩ := h
  refine ⟨_, (pss_cons (ps_set (i := 1) sc__law_once.nd rfl (Or.inl rfl) (pe_lst pa_nil))
    (pss_cons (ps_for PassesOwn.never rfl (pi_list (pv 0)) (pg_name (i := 2) sc__law_once.nd rfl (Or.inl rfl))
      (pss_one (ps_if (pt_cmpR (VP.notInD (K := K) rfl (VP.un65 hr)) (pv 2) (pv 1) rfl)
        (pss_one (ps_expr (pe_bm PySem.F.plainAttrs_list PySem.F.slot_list_append PySem.F.type_list_append mt_append (pv 1) (pa_cons (pv 2) pa_nil))))
        pss_nil)))
    (pss_one (ps_ret (pv 1))))), ?_⟩
  have zl := sizeLine_eq
  refine ⟨Nat.zero_le _, fun l nl => ?_⟩
  have s0 : ∀ o, Same H (upd H l o) := fun o => same_upd nl o
  refine ⟨_, rfl, a, rfl, ⟨_, (s0 _).seq hS⟩, for_list (K := K) (a := a) (xs := refs L)
    (fun i σ H' => ∃ (rr : Option V) (L' : List (Addr × List Str)), σ = [some (.ref a), some (.ref l), rr] ∧ H' = upd H l (.lst (refs L')) ∧ (∀ x ∈ L', x ∈ L) ∧ L'.map (·.2) = onceG [] ((L.map (·.2)).take i) ∧ L'.length ≤ i)
    ⟨none, [], rfl, rfl, fun x z => absurd z List.not_mem_nil, rfl, Nat.le_refl _⟩ (fun i σ H' _ ⟨_, _, _, e, _⟩ => by rw [e]; exact (s0 _).seq hS) ?_ ?_⟩
  · rintro i v σ H' hv ⟨rr, L', rfl, rfl, sub, eL, len⟩
    obtain ⟨p, hp, rfl⟩ := refs_at hv
    have pin := List.mem_of_getElem? hp
    have hE' : Rows K (upd H l (.lst (refs L'))) L := hE.kp (Kp.of (s0 _))
    have hl : upd H l (.lst (refs L')) l = some (.lst (refs L')) := upd_same
    have small : i < L.length := (List.getElem?_eq_some_iff.mp hp).1
    have tk : (L.map (·.2)).take (i + 1) = (L.map (·.2)).take i ++ [p.2] := by rw [List.take_succ, List.getElem?_map, hp] <;> rfl
    refine ⟨_, rfl, _, rfl, _, _, row_dp (hE' p pin), rows_dp hl (fun x hx => hE' x (sub x hx)), row_shaped (ha p pin), rows_shaped (fun e he => ?_), ?_⟩
    · obtain ⟨x, hx, rfl⟩ := List.mem_map.mp he
      exact ha x (sub x hx)
    rw [any_row, eL]
    refine ⟨_, rfl, ?_⟩
    refine ite2 (fun c => ?_) (fun c => ?_)
    · have nin : ¬ p.2 ∈ onceG [] ((L.map (·.2)).take i) := by simpa using c
      refine ⟨_, rfl, .inl ⟨rfl, _, SqL.of hl⟩, _, rfl, l, _, _, rfl, rfl, hl, (by rw [List.length_map]; omega), ?_⟩
      refine ⟨_, L' ++ [p], rfl, by rw [upd_upd, refs_snoc], fun x hx => ?_, ?_, by rw [List.length_append, List.length_singleton]; omega⟩
      · rcases List.mem_append.mp hx with z | z
        · exact sub x z
        · rw [List.mem_singleton.mp z]; exact pin
      · rw [tk, onceG_snoc, if_neg nin, List.map_append, eL] <;> rfl
    · have inn : p.2 ∈ onceG [] ((L.map (·.2)).take i) := by simpa using c
      refine ⟨_, L', rfl, rfl, sub, ?_, by omega⟩
      rw [tk, onceG_snoc, if_pos inn, eL]
  · rintro σ H' ⟨rr, L', rfl, rfl, sub, eL, len⟩
    rw [List.length_map] at eL
    rw [List.take_of_length_le (by rw [List.length_map]; exact Nat.le_refl _)] at eL
    exact ⟨_, rfl, q l L' nl sub eL⟩
def embR (p : Addr × List Str) : V := V.ref p.1
def encR (p : Addr × List Str) : PyData := rowD p.2
theorem acs_congr {E E' : List Ed} (h : ∀ e, e ∈ E ↔ e ∈ E') (s : Int) : srtS (acs E s) = srtS (acs E' s) := by
  have m : ∀ {E E' : List Ed}, (∀ e, e ∈ E ↔ e ∈ E') → ∀ x, x ∈ acs E s → x ∈ acs E' s := fun {E E'} h x hx => by
    unfold acs at hx ⊢
    obtain ⟨p, hp, rfl⟩ := List.mem_map.mp hx
    obtain ⟨h1, h2⟩ := List.mem_filter.mp hp
    exact List.mem_map.mpr ⟨p, List.mem_filter.mpr ⟨leav_mem.2 ((h _).1 (leav_mem.1 h1)), h2⟩, rfl⟩
  unfold srtS
  refine VB.sort_mem (onceG_nodup _ _ List.nodup_nil) (onceG_nodup _ _ List.nodup_nil) fun x => ?_
  rw [onceG_mem, onceG_mem]
  simp only [List.not_mem_nil, false_or]
  exact ⟨m h x, m (fun e => (h e).symm) x⟩
theorem tg_nil_congr {E E' : List Ed} (h : ∀ e, e ∈ E ↔ e ∈ E') (s : Int) (x : Str) : tg E s x = [] ↔ tg E' s x = [] := by
  have m : ∀ {E E' : List Ed}, (∀ e, e ∈ E ↔ e ∈ E') → tg E s x = [] → tg E' s x = [] := fun {E E'} h z => by
    refine List.eq_nil_iff_forall_not_mem.mpr fun y hy => ?_
    have w := tg_mem.2 ((h _).2 (tg_mem.1 hy))
    rw [z] at w
    cases w
  exact ⟨m h, m fun e => (h e).symm⟩
end
end LW

set_option Elab.async false
set_option linter.all false
set_option maxRecDepth 100000
set_option maxHeartbeats 400000
namespace LW
open PySem PySem.Spec PyProof.Rows L2 LamX NdefX VB VM VP VE VX VQ VZ
theorem acs_snoc (E : List Ed) (e : Ed) (s : Int) : acs (E ++ [e]) s = if e.1 = s ∧ ¬ e.2.1 = ("tau" : Str) then acs E s ++ [e.2.1] else acs E s := by
  rw [← acs_flat, ← acs_flat, List.filter_append, List.map_append]
  by_cases h : e.1 = s ∧ ¬ e.2.1 = ("tau" : Str)
  · rw [if_pos h, List.filter_cons, if_pos (decide_eq_true h), List.filter_nil] <;> rfl
  · rw [if_neg h, List.filter_cons, if_neg (by rw [decide_eq_true_eq]; exact h), List.filter_nil, List.map_nil, List.append_nil]
theorem srtS_ndq (l : List Str) : (srtS l).Nodup := (List.mergeSort_perm _ _).nodup_iff.mpr (onceG_nodup _ _ List.nodup_nil)
theorem srtS_nil : srtS [] = [] := by
  unfold srtS
  rw [show onceG ([] : List Str) [] = [] from rfl, List.mergeSort_nil]
theorem all_ints (ns : List Int) : (ns.map V.int).all flatV = true := by
  rw [List.all_eq_true]
  intro v hv
  obtain ⟨x, _, rfl⟩ := List.mem_map.mp hv
  rfl
theorem all_strs (ns : List Str) : (ns.map V.str).all flatV = true := by
  rw [List.all_eq_true]
  intro v hv
  obtain ⟨x, _, rfl⟩ := List.mem_map.mp hv
  rfl
theorem srtS_in {l : List Str} {x : Str} (h : x ∈ srtS l) : srtS (l ++ [x]) = srtS l := by
  unfold srtS
  rw [onceG_snoc, if_pos]
  rw [onceG_mem]
  exact .inr (srtS_mem.1 h)
theorem srtS_out {l : List Str} {x : Str} (h : x ∉ srtS l) : (srtS l ++ [x]).mergeSort VS.leS = srtS (l ++ [x]) := by
  refine srtS_of ?_ fun y => ?_
  · rw [List.nodup_append]
    exact ⟨srtS_ndq l, by simp, fun a ha b hb => by rw [List.mem_singleton.mp hb]; exact fun z => h (by rw [← z]; exact ha)⟩
  · rw [List.mem_append, List.mem_append, srtS_mem]
theorem srtAcs_len (E : List Ed) (s : Int) : (srtS (acs E s)).length ≤ E.length := by
  unfold srtS
  rw [List.length_mergeSort]
  refine Nat.le_trans (onceG_len _ _) ?_
  rw [← acs_flat, List.length_nil, Nat.zero_add, List.length_map]
  exact List.length_filter_le _ _
/-- lists and tuples stay -/
def KL (H H' : Hp) : Prop := (∀ b xs, H b = some (.lst xs) → H' b = some (.lst xs)) ∧ Kp H H'
theorem KL.of {H H' : Hp} (s : Same H H') : KL H H' := ⟨fun b xs e => s _ _ e, Kp.of s⟩
theorem KL.dK {H : Hp} {d : Addr} {kvs : List (Key × V)} (e : H d = some (.dK kvs)) (o : HO) : KL H (upd H d o) :=
  ⟨fun b xs h => by rw [upd_ne (ne_of h e (fun z => nomatch z))]; exact h, ⟨fun c xs h => by rw [upd_ne (ne_of h e (fun z => nomatch z))]; exact h, fun c q u h => by rw [upd_ne (ne_of h e (fun z => nomatch z))]; exact h⟩⟩
theorem KL.dT {H : Hp} {d : Addr} {kvs : List (List Key × V)} (e : H d = some (.dT kvs)) (o : HO) : KL H (upd H d o) :=
  ⟨fun b xs h => by rw [upd_ne (ne_of h e (fun z => nomatch z))]; exact h, ⟨fun c xs h => by rw [upd_ne (ne_of h e (fun z => nomatch z))]; exact h, fun c q u h => by rw [upd_ne (ne_of h e (fun z => nomatch z))]; exact h⟩⟩
/-- a dict with a value for each state -/
def IR (n : Int) (H : Hp) (d : Addr) (R : Int → V → Prop) : Prop := ∃ kvs : List (Key × V), H d = some (.dK kvs) ∧ (kvs.length : Int) ≤ n ∧ ∀ s, 0 ≤ s → s < n → ∃ v, valV kvs (.inl s) = some v ∧ R s v
theorem IR.mono {n : Int} {H H' : Hp} {d : Addr} {R R' : Int → V → Prop} (h : IR n H d R) (e : ∀ o, H d = some o → H' d = some o) (r : ∀ s v, 0 ≤ s → s < n → R s v → R' s v) : IR n H' d R' := by
  obtain ⟨kvs, h1, h2, h3⟩ := h
  refine ⟨kvs, e _ h1, h2, fun s s0 s1 => ?_⟩
  obtain ⟨v, g1, g2⟩ := h3 s s0 s1
  exact ⟨v, g1, r s v s0 s1 g2⟩
theorem IR.put {n : Int} {H : Hp} {d : Addr} {R : Int → V → Prop} (h : IR n H d R) {x : Int} (x0 : 0 ≤ x) (x1 : x < n) : ∃ kvs : List (Key × V), H d = some (.dK kvs) ∧ (kvs.length : Int) ≤ n ∧
    ∀ (H' : Hp) (v : V) (R' : Int → V → Prop), H' d = some (.dK (putK kvs (.inl x) v)) → R' x v → (∀ s u, 0 ≤ s → s < n → s ≠ x → R s u → R' s u) → IR n H' d R' := by
  obtain ⟨kvs, h1, h2, h3⟩ := h
  refine ⟨kvs, h1, h2, fun H' v R' e rx ro => ⟨_, e, ?_, fun s s0 s1 => ?_⟩⟩
  · obtain ⟨u, g, _⟩ := h3 x x0 x1
    rw [putK_has g]
    exact h2
  · rw [valV_put]
    by_cases c : s = x
    · subst c
      exact ⟨v, by rw [if_pos rfl], rx⟩
    · obtain ⟨u, g1, g2⟩ := h3 s s0 s1
      exact ⟨u, by rw [if_neg (fun z => c (Sum.inl.inj z))]; exact g1, ro s u s0 s1 c g2⟩
theorem IR.snoc {i : Nat} {H : Hp} {d : Addr} {R : Int → V → Prop} (h : IR (i : Int) H d R) {x : Int} (hx : x = (i : Int)) : ∃ kvs : List (Key × V), H d = some (.dK kvs) ∧ (kvs.length : Int) ≤ i ∧
    ∀ (H' : Hp) (v : V) (R' : Int → V → Prop), H' d = some (.dK (putK kvs (.inl x) v)) → R' i v → (∀ s u, 0 ≤ s → s < (i : Int) → R s u → R' s u) → IR ((i + 1 : Nat) : Int) H' d R' := by
  subst hx
  obtain ⟨kvs, h1, h2, h3⟩ := h
  refine ⟨kvs, h1, h2, fun H' v R' e rx ro => ⟨_, e, ?_, fun s s0 s1 => ?_⟩⟩
  · have z := length_putK kvs (.inl (i : Int)) v
    omega
  · rw [valV_put]
    by_cases c : s = (i : Int)
    · subst c
      exact ⟨v, by rw [if_pos rfl], rx⟩
    · obtain ⟨u, g1, g2⟩ := h3 s s0 (by omega)
      exact ⟨u, by rw [if_neg (fun z => c (Sum.inl.inj z))]; exact g1, ro s u s0 (by omega) g2⟩
theorem IR.at_ {n : Int} {H : Hp} {d : Addr} {R : Int → V → Prop} (h : IR n H d R) {x : Int} (x0 : 0 ≤ x) (x1 : x < n) : ∃ v, DGet H d (.int x) (some v) ∧ R x v := by
  obtain ⟨kvs, h1, h2, h3⟩ := h
  obtain ⟨v, g1, g2⟩ := h3 x x0 x1
  refine ⟨v, ?_, g2⟩
  have z := DGet.k (k := .inl x) h1
  rw [g1] at z
  exact z
/-- the lists behind an action, one for each state and action that has one -/
def MQ (H : Hp) (d : Addr) (E : List Ed) : Prop := ∃ kvs : List (List Key × V), H d = some (.dT kvs) ∧ kvs.length ≤ E.length ∧
  (∀ k v, valV kvs k = some v → ∃ (b : Addr) (s : Int) (x : Str), k = kT s x ∧ v = .ref b ∧ H b = some (.lst ((tg E s x).map V.int))) ∧ ∀ s x, valV kvs (kT s x) = none → tg E s x = []
theorem MQ.mono {H H' : Hp} {d : Addr} {E : List Ed} (h : MQ H d E) (e : ∀ o, H d = some o → H' d = some o) (k : KL H H') : MQ H' d E := by
  obtain ⟨kvs, h1, h2, h3, h4⟩ := h
  refine ⟨kvs, e _ h1, h2, fun k' v hv => ?_, h4⟩
  obtain ⟨b, s, x, e1, e2, e3⟩ := h3 k' v hv
  exact ⟨b, s, x, e1, e2, k.1 _ _ e3⟩
theorem kT_inj {s t : Int} {x y : Str} (h : kT s x = kT t y) : s = t ∧ x = y := by
  injection h with a1 a2
  injection a2 with a2 _
  exact ⟨Sum.inl.inj a1, Sum.inr.inj a2⟩
/-- what stands at a state and an action -/
theorem MQ.at_ {H : Hp} {d z p : Addr} {E : List Ed} (h : MQ H d E) (s : Int) (x : Str) (hz : H z = some (.lst [])) (hp : H p = some (.tup [.int s, .str x])) : ∃ (o : Option V) (b : Addr), DGet H d (.ref p) o ∧ o.getD (.ref z) = .ref b ∧ H b = some (.lst ((tg E s x).map V.int)) := by
  obtain ⟨kvs, h1, h2, h3, h4⟩ := h
  have g := DGet.t (k := kT s x) h1 hp
  cases hv : valV kvs (kT s x) with
  | none =>
    rw [hv] at g
    exact ⟨_, z, g, rfl, by rw [h4 _ _ hv]; exact hz⟩
  | some v =>
    rw [hv] at g
    obtain ⟨b, s', x', e1, e2, e3⟩ := h3 _ _ hv
    obtain ⟨rfl, rfl⟩ := kT_inj e1
    exact ⟨_, b, g, by rw [e2] <;> rfl, e3⟩
theorem MQ.put {H : Hp} {d b p : Addr} {E : List Ed} (h : MQ H d E) {e : Ed} (hb : H b = some (.lst ((tg E e.1 e.2.1).map V.int ++ [.int e.2.2]))) (hp : H p = some (.tup [.int e.1, .str e.2.1])) (hl : E.length < sizeLine) :
    ∃ kvs, H d = some (.dT kvs) ∧ DPut H d (.ref p) (.ref b) (upd H d (.dT (putK kvs (kT e.1 e.2.1) (.ref b)))) ∧ MQ (upd H d (.dT (putK kvs (kT e.1 e.2.1) (.ref b)))) d (E ++ [e]) := by
  obtain ⟨kvs, h1, h2, h3, h4⟩ := h
  have kl := KL.dT h1 (.dT (putK kvs (kT e.1 e.2.1) (.ref b)))
  refine ⟨kvs, h1, DPut.t (k := kT e.1 e.2.1) h1 hp (by omega), _, upd_same, ?_, fun k v hv => ?_, fun s x hn => ?_⟩
  · have z := length_putK kvs (kT e.1 e.2.1) (.ref b)
    rw [List.length_append, List.length_singleton]
    omega
  · rw [valV_put] at hv
    by_cases c : k = kT e.1 e.2.1
    · rw [if_pos c] at hv
      cases hv
      refine ⟨b, e.1, e.2.1, c, rfl, ?_⟩
      rw [tg_snoc, if_pos ⟨rfl, rfl⟩, List.map_append]
      exact kl.1 _ _ hb
    · rw [if_neg c] at hv
      obtain ⟨b', s, x, rfl, rfl, e3⟩ := h3 _ _ hv
      refine ⟨b', s, x, rfl, rfl, ?_⟩
      rw [tg_snoc, if_neg (fun z => c (by rw [z.1, z.2]))]
      exact kl.1 _ _ e3
  · rw [valV_put] at hn
    by_cases c : kT s x = kT e.1 e.2.1
    · rw [if_pos c] at hn; cases hn
    · rw [if_neg c] at hn
      rw [tg_snoc, if_neg (fun z => c (by rw [z.1, z.2]))]
      exact h4 _ _ hn
def offR (K : PySem.W.Frag) (H : Hp) (E : List Ed) : Int → V → Prop := fun s v => ∃ b, v = .ref b ∧ SqT K H b ((srtS (acs E s)).map V.str)
def silR (H : Hp) (E : List Ed) : Int → V → Prop := fun s v => ∃ b, v = .ref b ∧ H b = some (.lst ((tg E s "tau").map V.int))
def cloR (H : Hp) (E : List Ed) : Int → V → Prop := fun s v => ∃ (b : Addr) (cs : List Int), v = .ref b ∧ H b = some (.lst (cs.map V.int)) ∧ cs.Nodup ∧ ∀ x, x ∈ cs ↔ Rch E [s] x
theorem offR.kl {K : PySem.W.Frag} {H H' : Hp} {E : List Ed} (k : KL H H') {s : Int} {v : V} (h : offR K H E s v) : offR K H' E s v := by
  obtain ⟨b, e, h⟩ := h
  exact ⟨b, e, k.2.sqT h⟩
theorem silR.kl {H H' : Hp} {E : List Ed} (k : KL H H') {s : Int} {v : V} (h : silR H E s v) : silR H' E s v := by
  obtain ⟨b, e, h⟩ := h
  exact ⟨b, e, k.1 _ _ h⟩
theorem cloR.kl {H H' : Hp} {E : List Ed} (k : KL H H') {s : Int} {v : V} (h : cloR H E s v) : cloR H' E s v := by
  obtain ⟨b, cs, e, h, r⟩ := h
  exact ⟨b, cs, e, k.1 _ _ h, r⟩
/-- the three dicts while the edges are read -/
structure LQ (K : PySem.W.Frag) (H0 H : Hp) (dm dO ds : Addr) (n : Int) (E E2 E3 : List Ed) : Prop where
  same : Same H0 H
  m : MQ H dm E
  o : IR n H dO (offR K H E2)
  s : IR n H ds (silR H E3)
section
variable {K : PySem.W.Frag} {H0 H H' : Hp} {dm dO ds : Addr} {n : Int} {E E2 E3 : List Ed}
theorem LQ.go (L : LQ K H0 H dm dO ds n E E2 E3) (z : Same H H') : LQ K H0 H' dm dO ds n E E2 E3 :=
  ⟨L.same.trans z, L.m.mono (fun o e => z _ _ e) (.of z), L.o.mono (fun o e => z _ _ e) fun s v _ _ h => h.kl (.of z), L.s.mono (fun o e => z _ _ e) fun s v _ _ h => h.kl (.of z)⟩
theorem LQ.putM (L : LQ K H0 H dm dO ds n E E2 E3) (f : H0 dm = none) {b p : Addr} {e : Ed} (hb : H b = some (.lst ((tg E e.1 e.2.1).map V.int ++ [.int e.2.2]))) (hp : H p = some (.tup [.int e.1, .str e.2.1])) (hl : E.length < sizeLine) :
    ∃ H2, DPut H dm (.ref p) (.ref b) H2 ∧ LQ K H0 H2 dm dO ds n (E ++ [e]) E2 E3 := by
  obtain ⟨kvs, h1, h2, h3⟩ := L.m.put hb hp hl
  have kl := KL.dT h1 (.dT (putK kvs (kT e.1 e.2.1) (.ref b)))
  obtain ⟨ko, o1, _⟩ := L.o
  obtain ⟨ks, s1, _⟩ := L.s
  refine ⟨_, h2, sameIn L.same f, h3, L.o.mono (fun o g => ?_) fun s v _ _ h => h.kl kl, L.s.mono (fun o g => ?_) fun s v _ _ h => h.kl kl⟩
  · rw [upd_ne (ne_of o1 h1 (fun z => nomatch z))]; exact g
  · rw [upd_ne (ne_of s1 h1 (fun z => nomatch z))]; exact g
theorem LQ.putS (L : LQ K H0 H dm dO ds n E E2 E3) (f : H0 ds = none) (ne : dO ≠ ds) {b : Addr} {x : Int} (x0 : 0 ≤ x) (x1 : x < n) {E4 : List Ed} (n60 : n ≤ 60) (hb : H b = some (.lst ((tg E4 x "tau").map V.int))) (same : ∀ s, s ≠ x → tg E4 s "tau" = tg E3 s "tau") :
    ∃ H2, DPut H ds (.int x) (.ref b) H2 ∧ LQ K H0 H2 dm dO ds n E E2 E4 := by
  obtain ⟨kvs, h1, h2, h3⟩ := L.s.put x0 x1
  have kl := KL.dK h1 (.dK (putK kvs (.inl x) (.ref b)))
  obtain ⟨km, m1, _⟩ := L.m
  have zl := sizeLine_eq
  refine ⟨_, DPut.k (k := .inl x) h1 (by omega), sameIn L.same f, L.m.mono (fun o g => ?_) kl, L.o.mono (fun o g => ?_) fun s v _ _ h => h.kl kl, h3 _ _ _ upd_same ⟨b, rfl, kl.1 _ _ hb⟩ fun s u _ _ ne h => ?_⟩
  · rw [upd_ne (ne_of m1 h1 (fun z => nomatch z))]; exact g
  · rw [upd_ne ne]; exact g
  · obtain ⟨c, e, h⟩ := h.kl kl
    exact ⟨c, e, by rw [same s ne]; exact h⟩
theorem LQ.putO (L : LQ K H0 H dm dO ds n E E2 E3) (f : H0 dO = none) (ne : dO ≠ ds) {b : Addr} {x : Int} (x0 : 0 ≤ x) (x1 : x < n) {E4 : List Ed} (n60 : n ≤ 60) (hb : SqT K H b ((srtS (acs E4 x)).map V.str)) (same : ∀ s, s ≠ x → srtS (acs E4 s) = srtS (acs E2 s)) :
    ∃ H2, DPut H dO (.int x) (.ref b) H2 ∧ LQ K H0 H2 dm dO ds n E E4 E3 := by
  obtain ⟨kvs, h1, h2, h3⟩ := L.o.put x0 x1
  have kl := KL.dK h1 (.dK (putK kvs (.inl x) (.ref b)))
  obtain ⟨km, m1, _⟩ := L.m
  have zl := sizeLine_eq
  refine ⟨_, DPut.k (k := .inl x) h1 (by omega), sameIn L.same f, L.m.mono (fun o g => ?_) kl, h3 _ _ _ upd_same ⟨b, rfl, kl.2.sqT hb⟩ fun s u _ _ ne h => ?_, L.s.mono (fun o g => ?_) fun s v _ _ h => h.kl kl⟩
  · rw [upd_ne (ne_of m1 h1 (fun z => nomatch z))]; exact g
  · obtain ⟨c, e, h⟩ := h.kl kl
    exact ⟨c, e, by rw [same s ne]; exact h⟩
  · rw [upd_ne ne.symm]; exact g
theorem LQ.other (L : LQ K H0 H dm dO ds n E E2 E3) {d : Addr} {kvs : List (Key × V)} (hd : H d = some (.dK kvs)) (f : H0 d = none) (n1 : dO ≠ d) (n2 : ds ≠ d) (o : HO) : LQ K H0 (upd H d o) dm dO ds n E E2 E3 := by
  have kl := KL.dK hd o
  obtain ⟨km, m1, _⟩ := L.m
  refine ⟨sameIn L.same f, L.m.mono (fun u g => ?_) kl, L.o.mono (fun u g => ?_) fun s v _ _ h => h.kl kl, L.s.mono (fun u g => ?_) fun s v _ _ h => h.kl kl⟩
  · rw [upd_ne (ne_of m1 hd (fun z => nomatch z))]; exact g
  · rw [upd_ne n1]; exact g
  · rw [upd_ne n2]; exact g
theorem LQ.cast (L : LQ K H0 H dm dO ds n E E2 E3) {E4 E5 : List Ed} (ho : ∀ s, srtS (acs E4 s) = srtS (acs E2 s)) (hs : ∀ s, tg E5 s "tau" = tg E3 s "tau") : LQ K H0 H dm dO ds n E E4 E5 :=
  ⟨L.same, L.m, L.o.mono (fun _ e => e) fun s v _ _ ⟨b, e, h⟩ => ⟨b, e, by rw [ho s]; exact h⟩, L.s.mono (fun _ e => e) fun s v _ _ ⟨b, e, h⟩ => ⟨b, e, by rw [hs s]; exact h⟩⟩
end
/-- a round of a search: the successors of x that are new are put behind -/
theorem bfs_step {E : List Ed} {s x : Int} {cs : List Int} (nd : cs.Nodup) (rch : ∀ y ∈ cs, Rch E [s] y) (xin : x ∈ cs) : (cs ++ (onceG [] (tg E x "tau")).filter fun y => decide (¬ y ∈ cs)).Nodup ∧
    (∀ y ∈ cs ++ (onceG [] (tg E x "tau")).filter fun y => decide (¬ y ∈ cs), Rch E [s] y) ∧ ∀ y ∈ tg E x "tau", y ∈ cs ++ (onceG [] (tg E x "tau")).filter fun y => decide (¬ y ∈ cs) := by
  refine ⟨?_, fun y hy => ?_, fun y hy => ?_⟩
  · rw [List.nodup_append]
    refine ⟨nd, List.Nodup.sublist List.filter_sublist (onceG_nodup _ _ List.nodup_nil), fun a ha b hb e => ?_⟩
    have z := of_decide_eq_true (List.mem_filter.mp hb).2
    exact z (by rw [← e]; exact ha)
  · rcases List.mem_append.mp hy with z | z
    · exact rch y z
    · have w := (List.mem_filter.mp z).1
      rw [onceG_mem] at w
      rcases w with w | w
      · cases w
      · exact .step (rch x xin) (tg_mem.1 w)
  · by_cases c : y ∈ cs
    · exact List.mem_append_left _ c
    · exact List.mem_append_right _ (List.mem_filter.mpr ⟨by rw [onceG_mem]; exact .inr hy, decide_eq_true c⟩)
theorem bfs_end {n : Int} {E : List Ed} (ok : ∀ e ∈ E, okE n e) {s : Int} (s0 : 0 ≤ s) (s1 : s < n) {cs : List Int} (nd : cs.Nodup) (sin : s ∈ cs) (rch : ∀ y ∈ cs, Rch E [s] y)
    (cl : ∀ j, j < n.toNat → ∀ x, cs[j]? = some x → ∀ y ∈ tg E x ("tau" : Str), y ∈ cs) (x : Int) : x ∈ cs ↔ Rch E [s] x := by
  have rg : ∀ y, Rch E [s] y → 0 ≤ y ∧ y < n := fun y h => Rch.range (P := fun x => 0 ≤ x ∧ x < n) (fun e he => ⟨(ok e he).2.2.1, (ok e he).2.2.2.1⟩) (fun y hy => by rw [List.mem_singleton.mp hy]; exact ⟨s0, s1⟩) h
  have len := few_of nd fun y hy => rg y (rch y hy)
  refine ⟨rch x, fun h => ?_⟩
  induction h with
  | base h => rw [List.mem_singleton.mp h]; exact sin
  | step h g ih =>
    obtain ⟨j, hj, ej⟩ := List.getElem_of_mem ih
    exact cl j (by omega) _ (by rw [List.getElem?_eq_getElem hj, ej]) _ (tg_mem.2 g)
abbrev kvQ (n : Int) (dm dO ds dc ll : Addr) : List (Key × V) := [(.inr "count", .int n), (.inr "move", .ref dm), (.inr "offers", .ref dO), (.inr "silent", .ref ds), (.inr "close", .ref dc), (.inr "lost", .ref ll)]
theorem kvQ_val (n : Int) (dm dO ds dc ll : Addr) : valV (mergeK [] (kvQ n dm dO ds dc ll)) (.inr "move") = some (.ref dm) ∧ valV (mergeK [] (kvQ n dm dO ds dc ll)) (.inr "offers") = some (.ref dO) ∧ valV (mergeK [] (kvQ n dm dO ds dc ll)) (.inr "silent") = some (.ref ds) ∧
    valV (mergeK [] (kvQ n dm dO ds dc ll)) (.inr "close") = some (.ref dc) ∧ valV (mergeK [] (kvQ n dm dO ds dc ll)) (.inr "lost") = some (.ref ll) := by
  unfold mergeK kvQ
  simp only [List.foldl, valV_put]
  refine ⟨?_, ?_, ?_, ?_, ?_⟩ <;> repeat (first | exact if_pos True.intro | rw [if_neg (by decide +kernel)])
/-- what the law knows of a system -/
structure QAt (K : PySem.W.Frag) (H : Hp) (q : Addr) (n : Int) (E : List Ed) : Prop where
  ex : ∃ (kvs : List (Key × V)) (dm dO ds dc ll : Addr) (cs : List Int), H q = some (.dK kvs) ∧ valV kvs (.inr "move") = some (.ref dm) ∧ valV kvs (.inr "offers") = some (.ref dO) ∧ valV kvs (.inr "silent") = some (.ref ds) ∧ valV kvs (.inr "close") = some (.ref dc) ∧ valV kvs (.inr "lost") = some (.ref ll) ∧
    MQ H dm E ∧ IR n H dO (offR K H E) ∧ IR n H ds (silR H E) ∧ IR n H dc (cloR H E) ∧ H ll = some (.lst (cs.map V.int)) ∧ ∀ s, s ∈ cs ↔ (0 ≤ s ∧ s < n) ∧ ¬ Halt E s
  ok : ∀ e ∈ E, okE n e
  n1 : 1 ≤ n
  n60 : n ≤ 60
  len : E.length ≤ 1000
theorem QAt.same {K : PySem.W.Frag} {H H' : Hp} {q : Addr} {n : Int} {E : List Ed} (Q : QAt K H q n E) (z : Same H H') : QAt K H' q n E := by
  obtain ⟨⟨kvs, dm, dO, ds, dc, ll, cs, hq, v1, v2, v3, v4, v5, a1, a2, a3, a4, a5, a6⟩, r1, r2, r3, r4⟩ := Q
  have kl := KL.of z
  exact ⟨⟨kvs, dm, dO, ds, dc, ll, cs, z _ _ hq, v1, v2, v3, v4, v5, a1.mono (fun o e => z _ _ e) kl, a2.mono (fun o e => z _ _ e) fun s v _ _ h => h.kl kl, a3.mono (fun o e => z _ _ e) fun s v _ _ h => h.kl kl, a4.mono (fun o e => z _ _ e) fun s v _ _ h => h.kl kl, z _ _ a5, a6⟩, r1, r2, r3, r4⟩
end LW

set_option Elab.async false
set_option linter.all false
set_option maxRecDepth 100000
set_option maxHeartbeats 400000
namespace VKY
open PySem PySem.Spec PyProof.Rows L2 LamX NdefX VB PySem.W
/-! sorted(a range, key=a lambda that reads captured names) -/
section
variable {P : Program} {w : World} {fs : List Addr} {H : Hp} {h0 h h' : Heap} {x y : Addr}
/-- nothing that H tracks has changed, and what it doesn't track is there -/
structure Far (P : Program) (w : World) (fs : List Addr) (H : Hp) (h0 h : Heap) : Prop where
  un : Un fs [] H H h0 h
  ok : HOk P w H h
/-- all but what stands at x and y is there -/
def Off (x y : Addr) (h h' : Heap) : Prop := ∀ b o, b ≠ x → b ≠ y → h.get? b = some o → h'.get? b = some o
theorem Far.off (F : Far P w fs H h0 h) (nx : h0.get? x = none) (ny : h0.get? y = none) (hx : H x = none) (hy : H y = none) (k : Off x y h h') : Far P w fs H h0 h' := by
  have n1 : ∀ b o, h0.get? b = some o → b ≠ x ∧ b ≠ y := fun b o e => ⟨fun z => (by rw [z, nx] at e; cases e), fun z => (by rw [z, ny] at e; cases e)⟩
  refine ⟨⟨fun b o e n f _ => k b o (n1 b o e).1 (n1 b o e).2 (F.un.keep b o e n f List.not_mem_nil), fun b o e n f _ => ?_, fun b o e n _ => n, fun b o e _ => ?_, fun _ _ z => z, fun _ _ _ z => z, fun b ps z => ⟨#[], by rw [Array.append_empty]; exact z⟩⟩, fun b o e => ?_⟩
  · obtain ⟨sl, z⟩ := F.un.slot b o e n f List.not_mem_nil
    exact ⟨sl, k b _ (n1 b o e).1 (n1 b o e).2 z⟩
  · obtain ⟨o', z⟩ := F.un.there b o e List.not_mem_nil
    exact ⟨o', k b _ (n1 b o e).1 (n1 b o e).2 z⟩
  · refine (F.ok b o e).stay (fun c u hc z => k c u ?_ ?_ z) (fun _ z => z) fun _ _ z => z
    · rintro rfl
      rcases hc with rfl | hc
      · rw [hx] at e; cases e
      · rw [hx] at hc; cases hc
    · rintro rfl
      rcases hc with rfl | hc
      · rw [hy] at e; cases e
      · rw [hy] at hc; cases hc
theorem Far.trans {h1 : Heap} (F : Far P w fs H h0 h) (G : Far P w fs H h h1) : Far P w fs H h0 h1 := ⟨F.un.trans G.un, G.ok⟩
theorem off_update (g : Heap) (f : Obj → Obj) : Off x y g (g.update x f) := fun b o n _ e => (Heap.get?_update_ne _ _ _ _ n).trans e
theorem Off.trans {h1 : Heap} (a : Off x y h h') (b : Off x y h' h1) : Off x y h h1 := fun c o n1 n2 e => b c o n1 n2 (a c o n1 n2 e)
end
section
variable {P : Program} {w : World} {A : Around} {E : Value → Shared → Prop} {fs : List Addr} {H : Hp} {s : Shared} {kS a : Addr} {f : Value} {vs : List Value} {e1 : Nat} {R : PySem.Fin → Shared → Prop}
/-- what a key's call leaves -/
def Keyed (P : Program) (w : World) (fs : List Addr) (H : Hp) (s1 : Shared) (u : Value) (s2 : Shared) : Prop := ∃ k t, u = .int k t ∧ s2.os = s1.os ∧ AllBare s2.gens ∧ Far P w fs H s1.heap s2.heap
theorem intsAre_snoc {n : Int} {t : Tok} : ∀ {us : List Value} {ns : List Int}, IntsAre us ns → IntsAre (us ++ [.int n t]) (ns ++ [n])
  | _, _, .nil => .cons n t .nil
  | _, _, .cons m t' r => .cons m t' (intsAre_snoc r)
theorem each_ints {h : Heap} : ∀ {us : List Value} {ns : List Int}, IntsAre us ns → EachIs (fun v d => ∃ as, Reads h v d as) us (ns.map PyData.int)
  | _, _, .nil => .nil
  | _, _, .cons m t r => .cons ⟨[], .int m t⟩ (each_ints r)
theorem intsAre_len : ∀ {us : List Value} {ns : List Int}, IntsAre us ns → us.length = ns.length
  | _, _, .nil => rfl
  | _, _, .cons m t r => congrArg Nat.succ (intsAre_len r)
theorem loop (h0 : Heap) (nk : kS ∉ fs) (na : a ∉ fs) (Hk : H kS = none) (Ha : H a = none) (k0 : h0.get? kS = none) (a0 : h0.get? a = none) (ne : kS ≠ a) (F : Far P w fs H h0 s.heap) (bare : AllBare s.gens)
    (hk : s.heap.get? kS = some (seqObj "list" #[] 0)) (ha : s.heap.get? a = some (seqObj "list" #[] e1)) (small : vs.length < 64) (room : A.units + 1 < cLine)
    (turn : ∀ v ∈ vs, ∀ s1 : Shared, s1.os = s.os → AllBare s1.gens → Far P w fs H h0 s1.heap → wpAny (model P w) A (call f [v]) (Keyed P w fs H s1) (fun _ _ => False) s1)
    (fin : ∀ (s2 : Shared) (out : List Value) (c : Nat), s2.os = s.os → AllBare s2.gens → Far P w fs H h0 s2.heap → s2.heap.get? a = some (seqObj "list" out.toArray c) → out.length = vs.length → (∀ v ∈ out, v ∈ vs) → R (.done (.ret .none)) s2) :
    wpAny (model P w) A (ksk_rest a f false vs.toArray e1 (.ref kS)) R E s := by
  have zl := sizeLine_eq
  unfold ksk_rest
  refine wpAny_bind (wpAny_rule ?_)
  first
    | rw [List.forIn_toArray]
    | (rw [← Array.forIn_toList]; simp only [List.toList_toArray])
  refine wpAny_bind (ksk_fold (fun i s1 => ∃ (ks : Array Value) (e : Nat) (ns : List Int), s1.os = s.os ∧ AllBare s1.gens ∧ Far P w fs H h0 s1.heap ∧ s1.heap.get? kS = some (seqObj "list" ks e) ∧ s1.heap.get? a = some (seqObj "list" #[] e1) ∧ IntsAre ks.toList ns ∧ ks.size = i) vs 0 s
    ⟨#[], 0, [], rfl, bare, F, hk, ha, .nil, rfl⟩ (fun j v s1 hv z => ?_) fun s1 z => ?_)
  · obtain ⟨ks, e, ns, os1, b1, F1, hk1, ha1, hn, sz⟩ := z
    have lj : j < vs.length := (List.getElem?_eq_some_iff.mp hv).1
    refine wpAny_bind (wpAny_attempt (wpAny_mono (turn v (List.mem_of_getElem? hv) s1 os1 b1 F1) (fun u s2 z => ?_) fun _ _ z => z.elim))
    obtain ⟨k, t, rfl, os2, b2, F2⟩ := z
    have hk2 := F2.un.keep _ _ hk1 Hk nk List.not_mem_nil
    have ha2 := F2.un.keep _ _ ha1 Ha na List.not_mem_nil
    obtain ⟨c, hk3⟩ : ∃ c, (s2.heap.update kS (Obj.mapSeq (·.push (.int k t)))).get? kS = some (seqObj "list" (ks.push (.int k t)) c) := ⟨_, get?_update_seq hk2 (·.push (.int k t))⟩
    refine wpAny_bind (listUpdate_at hk2 rfl ?_ (by omega) (by rw [Array.size_push]; omega))
    refine wpAny_pure ⟨rfl, ks.push (.int k t), c, ns ++ [k], os2.trans os1, b2, (F1.trans F2).off k0 a0 Hk Ha (off_update _ _), hk3, (Heap.get?_update_ne _ _ _ _ ne.symm).trans ha2, ?_, by rw [Array.size_push, sz]⟩
    rw [Array.toList_push]
    exact intsAre_snoc hn
  · obtain ⟨ks, e, ns, os1, b1, F1, hk1, ha1, hn, sz⟩ := z
    rw [Nat.zero_add] at sz
    refine wpAny_bind (listItems_at hk1 rfl ?_)
    obtain ⟨g, g1, g2⟩ := restrict s1.heap fun b => decide (b ≠ kS)
    have kp : KeepsBut a g s1.heap := fun b o _ z => by
      by_cases c : b = kS
      · rw [g2 b (by simp [c])] at z; cases z
      · rw [g1 b (by simp [c])] at z; exact z
    have al : AllAlike (ns.map PyData.int) := fun d hd d' hd' => by
      obtain ⟨_, _, rfl⟩ := List.mem_map.mp hd
      obtain ⟨_, _, rfl⟩ := List.mem_map.mp hd'
      rfl
    have so : Sortable (ns.map PyData.int) := .inr fun d hd => by
      obtain ⟨_, _, rfl⟩ := List.mem_map.mp hd
      exact ⟨fun z => PyData.noConfusion z, fun xs z => PyData.noConfusion z⟩
    have un : ∀ d, d ∈ ns.map PyData.int → A.units + d.depth < cLine := fun d hd => by
      obtain ⟨n, _, rfl⟩ := List.mem_map.mp hd
      show A.units + 0 < cLine
      omega
    refine keyH_end (κ := dataKind s1.heap (ns.map PyData.int)) kp (g2 kS (by simp)) hk1 ha1 ne (SortsAt.data (s := s1) (each_ints hn) al so un) sz (by omega) fun h' tk c kb hc => ?_
    have off : Off a kS s1.heap h' := fun b o n1 n2 z => kb b o n1 (by rw [g1 b (by simp [n2])]; exact z)
    have ko : KeyedOut false (ns.map PyData.int) vs (sortVals (dataKind s1.heap (ns.map PyData.int)) false ks.toList vs) := ⟨s1.heap, ks.toList, al, rfl, each_ints hn⟩
    have ll : (ns.map PyData.int).length = vs.length := by
      have z := intsAre_len hn
      rw [Array.length_toList] at z
      rw [List.length_map]
      omega
    exact fin { s1 with heap := h', toks := tk } _ c os1 b1 (F1.off a0 k0 Ha Hk off) hc (ko.length ll) fun v hv => ko.mem hv
theorem Far.refl {h : Heap} (ok : HOk P w H h) : Far P w fs H h h :=
  ⟨⟨fun b o e _ _ _ => e, fun b o e _ _ _ => ⟨o.slots, e⟩, fun b o e n _ => n, fun b o e _ => ⟨o, e⟩, fun _ _ z => z, fun _ _ _ z => z, fun b ps z => ⟨#[], by rw [Array.append_empty]; exact z⟩⟩, ok⟩
theorem Far.kept {h0 h h' : Heap} (F : Far P w fs H h0 h) (k : ∀ b u, h.get? b = some u → h'.get? b = some u) : Far P w fs H h0 h' :=
  F.trans ⟨⟨fun b o e _ _ _ => k b o e, fun b o e _ _ _ => ⟨o.slots, k b o e⟩, fun b o e n _ => n, fun b o e _ => ⟨o, k b o e⟩, fun _ _ z => z, fun _ _ _ z => z, fun b ps z => ⟨#[], by rw [Array.append_empty]; exact z⟩⟩, F.ok.kept k⟩
/-- sorted(range, key=f) -/
theorem sorted_rg {r q : Addr} {lo hi : Int} {t u v : Tok} {Q : Value → Shared → Prop} (hd : A.handled = none) (hr : IsRange s.heap r lo hi 1 t u v) (rg : RgOk lo hi) (small : (hi - lo).toNat < 64) (room : A.units + 10 < cLine)
    (hok : HOk P w H s.heap) (bare : AllBare s.gens) (there : ∀ b ∈ fs, ∃ o, s.heap.get? b = some o)
    (turn : ∀ (i : Int) (tk : Tok), lo ≤ i → i < hi → ∀ s1 : Shared, s1.os = s.os → AllBare s1.gens → Far P w fs H s.heap s1.heap → wpAny (model P w) A.in1.in1 (call (.ref q) [.int i tk]) (Keyed P w fs H s1) (fun _ _ => False) s1)
    (fin : ∀ (s2 : Shared) (l : Addr) (us : List Value) (ns : List Int) (c : Nat), s2.os = s.os → AllBare s2.gens → Far P w fs H s.heap s2.heap → s.heap.get? l = none → H l = none → l ∉ fs → s2.heap.get? l = some (seqObj "list" us.toArray c) → IntsAre us ns → ns.length = (hi - lo).toNat → (∀ n ∈ ns, lo ≤ n ∧ n < hi) → Q (.ref l) s2) :
    wpAny (model P w) A (call (.builtin "sorted") [.ref r] [(Str.ofString "key", .ref q)]) Q E s := by
  have zl := sizeLine_eq
  obtain ⟨b1, b2, b3, b4, b5⟩ := rg
  refine call_function_entry_kw kind_sorted plain_sorted entry_sorted (ksk_s1 _ _) ?_
  unfold Builtin.«sorted»
  refine wpAny_bind (m := checkCount "sorted" 1 1 _) (wpAny_pure ?_)
  refine wpAny_bind (collect_range (n := (hi - lo).toNat) (show A.in1.handled = none from hd) hr (small_one b1 b2 b3 b4) (rangeSize_nat lo hi) b5 fun h1 tk1 acc k1 items => ?_)
  have al : acc.toList.length = (hi - lo).toNat := by rw [Array.length_toList]; exact items.1
  refine wpAny_bind (wpAny_newList ?_ (by omega))
  have F1 : Far P w fs H s.heap h1 := (Far.refl hok).kept k1
  have a0 : s.heap.get? h1.objs.size = none := by
    cases e : s.heap.get? h1.objs.size with
    | none => rfl
    | some o => exact absurd (Heap.lt_size (k1 _ _ e)) (Nat.lt_irrefl _)
  have Ha : H h1.objs.size = none := F1.ok.fresh (Nat.le_refl _)
  have na : h1.objs.size ∉ fs := fun z => by
    obtain ⟨o, e⟩ := there _ z
    rw [a0] at e; cases e
  have ha2 : (h1.push { cls := .type "list", data := .seq acc.toList.toArray }).get? h1.objs.size = some (seqObj "list" acc.toList.toArray 0) := Heap.get?_push_size _ rfl
  have F2 : Far P w fs H s.heap (h1.push { cls := .type "list", data := .seq acc.toList.toArray }) := F1.kept fun b o e => Heap.get?_push_of_some _ e
  generalize h1.push { cls := .type "list", data := .seq acc.toList.toArray } = h2 at ha2 F2 ⊢
  generalize h1.objs.size = a at a0 Ha na ha2 ⊢
  clear F1 k1
  refine wpAny_bind (wpAny_holding (wpAny_call_entry_kw slot_list_sort ⟨_, ha2, rfl⟩ entry_list_sort ?body (ksk_l1 _ _)))
  case body =>
    rw [ksk_t1]
    unfold ksk_tree
    refine wpAny_bind (listItems_at ha2 rfl ?_)
    refine wpAny_bind (listUpdate_at ha2 rfl ?_ (by rw [List.size_toArray]; omega) (Nat.zero_le _))
    obtain ⟨e1, ha3⟩ : ∃ e1, (h2.update a (Obj.mapSeq fun _ => (#[] : Array Value))).get? a = some (seqObj "list" #[] e1) := ⟨_, get?_update_seq ha2 fun _ => #[]⟩
    have F3 : Far P w fs H s.heap (h2.update a (Obj.mapSeq fun _ => (#[] : Array Value))) := F2.off a0 a0 Ha Ha (off_update _ _)
    refine wpAny_bind (seqEpoch_at ha3 rfl ?_)
    refine wpAny_bind (wpAny_newTuple ?_ (by show acc.toList.length ≤ _; omega))
    refine wpAny_bind (wpAny_newList ?_ (Nat.zero_le _))
    refine wpAny_holding ?_
    have F4 := F3.kept (h' := (h2.update a (Obj.mapSeq fun _ => (#[] : Array Value))).push { cls := .type "tuple", data := .seq acc.toList.toArray }) fun b o e => Heap.get?_push_of_some _ e
    have ha4 := Heap.get?_push_of_some { cls := .type "tuple", data := .seq acc.toList.toArray } ha3
    have up4 : ∀ b o, s.heap.get? b = some o → ∃ o', ((h2.update a (Obj.mapSeq fun _ => (#[] : Array Value))).push { cls := .type "tuple", data := .seq acc.toList.toArray }).get? b = some o' := fun b o e => F4.un.there b o e List.not_mem_nil
    generalize (h2.update a (Obj.mapSeq fun _ => (#[] : Array Value))).push { cls := .type "tuple", data := .seq acc.toList.toArray } = h4 at F4 ha4 up4 ⊢
    have F5 := F4.kept (h' := h4.push { cls := .type "list", data := .seq ([] : List Value).toArray }) fun b o e => Heap.get?_push_of_some _ e
    have ha5 := Heap.get?_push_of_some { cls := .type "list", data := .seq ([] : List Value).toArray } ha4
    have hk5 : (h4.push { cls := .type "list", data := .seq ([] : List Value).toArray }).get? h4.objs.size = some (seqObj "list" #[] 0) := Heap.get?_push_size _ rfl
    have k0 : s.heap.get? h4.objs.size = none := by
      cases e : s.heap.get? h4.objs.size with
      | none => rfl
      | some o =>
        obtain ⟨o', e'⟩ := up4 _ _ e
        exact absurd (Heap.lt_size e') (Nat.lt_irrefl _)
    have Hk : H h4.objs.size = none := F4.ok.fresh (Nat.le_refl _)
    have nk : h4.objs.size ∉ fs := fun z => by
      obtain ⟨o, e⟩ := there _ z
      rw [k0] at e; cases e
    have ne : h4.objs.size ≠ a := Nat.ne_of_gt (Heap.lt_size ha4)
    refine loop (s := { s with heap := h4.push { cls := .type "list", data := .seq ([] : List Value).toArray }, toks := _ }) s.heap nk na Hk Ha k0 a0 ne F5 bare hk5 ha5 (by omega) (by show A.units + 1 + 1 + 1 < cLine; omega) (fun x hx s1 os1 bare1 F => ?_) fun s2 out c os2 bare2 F2' hl len mem => ?_
    · obtain ⟨j, hj⟩ := List.mem_iff_getElem?.mp hx
      rw [Array.getElem?_toList] at hj
      obtain ⟨tk, rfl⟩ := items.2 j x hj
      have lj : j < acc.size := (Array.getElem?_eq_some_iff.mp hj).1
      rw [items.1] at lj
      exact turn (lo + (j : Int) * 1) tk (by omega) (by omega) s1 os1 bare1 F
    · have isI : ∀ v ∈ out, ∃ n tk, v = .int n tk ∧ lo ≤ n ∧ n < hi := fun v hv => by
        obtain ⟨j, hj⟩ := List.mem_iff_getElem?.mp (mem v hv)
        rw [Array.getElem?_toList] at hj
        obtain ⟨tk, rfl⟩ := items.2 j v hj
        have lj : j < acc.size := (Array.getElem?_eq_some_iff.mp hj).1
        rw [items.1] at lj
        exact ⟨_, tk, rfl, by omega, by omega⟩
      have split : ∀ us : List Value, (∀ v ∈ us, ∃ n tk, v = .int n tk ∧ lo ≤ n ∧ n < hi) → ∃ ns, IntsAre us ns ∧ ∀ n ∈ ns, lo ≤ n ∧ n < hi := by
        intro us
        induction us with
        | nil => exact fun _ => ⟨[], .nil, fun n hn => by cases hn⟩
        | cons x us ih =>
          intro g
          obtain ⟨n, tk, rfl, g1⟩ := g x List.mem_cons_self
          obtain ⟨ns, a1, a2⟩ := ih fun v hv => g v (List.mem_cons_of_mem _ hv)
          exact ⟨n :: ns, .cons n tk a1, fun m hm => (List.mem_cons.mp hm).elim (fun e => e ▸ g1) (a2 m)⟩
      obtain ⟨ns, i1, i2⟩ := split out isI
      exact ⟨_, rfl, wpAny_pure ⟨_, rfl, fin s2 a out ns c os2 bare2 F2' a0 Ha na hl i1 (by rw [← intsAre_len i1, len, al]) i2⟩⟩
end
/-! .. as an expression -/
section
variable {X : Cx} {j : Nat} {x : Str} {p pos : Pos} {e : Expr} {es : List Expr} {kws : List Keyword} {t tk : TA} {cl : List (Str × Addr)} {fr : List Str} {js : List Nat}
/-- what the call asks, by the state -/
def rSortLk (P : Program) (w : World) (K : PySem.W.Frag) (mg : Str → Option Value) (base : Heap) (kk : Nat) (cl : List (Str × Addr)) (fr : List Str) (js : List Nat) : L2.St → List V → List V → Hp → VK → Prop := fun σ vs zs H Q =>
  ∃ (r f : Addr) (lo hi : Int), vs = [.ref r] ∧ zs = [.ref f] ∧ H r = some (.rng lo hi) ∧ RgOk lo hi ∧ (hi - lo).toNat < 64 ∧
    (∀ H3, VC.Lock cl fr (js.map (slotAt σ)) H H3 → ∃ φ sp, VA.VCall P w K mg base kk f φ sp ∧ φ H3 ∧ ∀ i, lo ≤ i → i < hi → ∃ key : Int, ∀ Q' : VK, Q' (.int key) H3 → sp [.int i] H3 Q' C8.E0) ∧
    ∀ (l : Addr) (ns : List Int), H l = none → ns.length = (hi - lo).toNat → (∀ n ∈ ns, lo ≤ n ∧ n < hi) → Q (.ref l) (upd H l (.lst (ns.map V.int)))
def tSortLk (P : Program) (w : World) (K : PySem.W.Frag) (mg : Str → Option Value) (base : Heap) (kk : Nat) (cl : List (Str × Addr)) (fr : List Str) (js : List Nat) (t tk : TA) : TE := fun σ H Q => t σ H fun vs H1 => tk σ H1 fun zs H2 => rSortLk P w K mg base kk cl fr js σ vs zs H2 Q
theorem vals_ints {us : List Value} {ns : List Int} (h : IntsAre us ns) : Vals (ns.map V.int) us := by
  induction h with
  | nil => exact .nil
  | cons n t r ih => exact .cons ⟨t, rfl⟩ ih
/-- a new list stands behind a call that kept all -/
theorem after_list {pins : List (Addr × Obj)} {σ : L2.St} {s s2 : Shared} {H : Hp} {Q : VK} {l : Addr} {us : List Value} {xs : List V} {c : Nat} (I : Inv X pins σ H s) (F2 : Far X.prog X.w (frs X.stack) H s.heap s2.heap) (os2 : s2.os = s.os) (b2 : AllBare s2.gens)
    (l0 : s.heap.get? l = none) (hl : s2.heap.get? l = some (seqObj "list" us.toArray c)) (hv : Vals xs us) (len : xs.length ≤ sizeLine) (q : Q (.ref l) (upd H l (.lst xs))) : EP X pins σ Q (.ref l) s2 := by
  have Hl : H l = none := HOk.gone I.hok l0
  refine I.after ⟨.ref l, upd H l (.lst xs), os2, b2, ⟨F2.un.keep, F2.un.slot, fun b o eo n _ => by rw [upd_ne (fun z => by rw [z, l0] at eo; cases eo)]; exact n, F2.un.there, fun b xs z => by rw [upd_ne (ne_of_none z Hl)]; exact z, fun b o u z => by rw [upd_ne (ne_of_none z Hl)]; exact z, fun b ps z => ⟨#[], by rw [upd_ne (ne_of_none z Hl), Array.append_empty]; exact z⟩⟩, fun b u eo => ?_, rfl, q⟩
  by_cases c1 : b = l
  · subst c1
    rw [upd_same] at eo
    cases eo
    exact ⟨len, us, c, hv, hl⟩
  · rw [upd_ne c1] at eo
    refine (F2.ok b u eo).stay (fun _ _ _ z => z) (fun c z => ?_) fun c xs z => ?_
    · rw [upd_ne (ne_of_none z Hl)]; exact z
    · rw [upd_ne (ne_of_none z Hl)]; exact z
theorem pe_sortLk {kk : Nat} (hr : Room (kk + 2) X.A) (hg : Gl X "sorted") (hm : X.mg "sorted" = none) (cpo : X.Ok → Caps X cl fr js) (hfn : ∀ y, X.fn y = true) (ha : PA X (e :: es) t) (hk : PK X kws tk)
    (he : backTo pos (starEach (e :: es) X.env) = (false, eval e X.env) :: backTo pos (starEach es X.env) := by rfl) (hpl : (backTo pos (starEach (e :: es) X.env)).any (·.1) = false := by rfl)
    (hall : (backToKw pos (keywordEach kws X.env)).all (·.1.isSome) = true := by rfl) (hnone : (backToKw pos (keywordEach kws X.env)).any (·.1.isNone) = false := by rfl) (hks : (backToKw pos (keywordEach kws X.env)).filterMap (·.1) = [Str.ofString "key"] := by rfl) :
    PE X (.Call (.Name "sorted" p) (e :: es) kws pos) (tSortLk X.prog X.w X.K X.mg X.base kk cl fr js t tk) := by
  refine ⟨fun pins s0 σ H0 Q I0 h => ?_⟩
  refine wpAny_Call_Name_kw (ld_blt I0 hg hm (show bootBuiltins (Str.ofString "sorted") = some (.builtin "sorted") by decide +kernel) ?_ (by decide) (by decide))
  refine PyProof.Rows.callWith_kw (thn (ha.run pos pins s0 σ H0 _ I0 h) fun us s1 ⟨vs, H1, I1, r1, q1⟩ => thn (hk.run pos pins s1 σ H1 _ I1 q1) fun ws s ⟨zs, H, I, r2, q2⟩ => ?_) he hpl hall hnone
  rw [hks]
  obtain ⟨r, f, lo, hi, rfl, rfl, hrg, rg, small, keys, q⟩ := q2
  obtain rfl := Vals.ref1 r1
  obtain rfl := Vals.ref1 r2
  have cp := cpo I.ok
  obtain ⟨H3, lk, ok3⟩ := VC.lock_of I cp
  have C := cells_of I cp
  obtain ⟨φ, sp, vc, hφ, key⟩ := keys H3 lk
  have young : ∀ b, VC.In cl b → X.s_0.heap.objs.size ≤ b := fun b ⟨y, ey⟩ => I.ok.cab y b (hfn y) (cp.sub y b ey)
  have noBase : ∀ b, VC.In cl b → X.base.get? b = none := fun b i => Heap.get?_none_of_le (Nat.le_trans I.ok.bsz (young b i))
  have noFrame : ∀ b ∈ frs X.stack, ¬ VC.In cl b := fun b hb i => by
    rcases List.mem_cons.mp (I.stkSub b hb) with z | z
    · obtain ⟨y, ey⟩ := i
      obtain ⟨_, v, o, ho, hdd⟩ := C.all y b ey
      obtain ⟨m, ⟨o', es', ep', ho', hdd', _⟩, _⟩ := I.loc
      rw [← z, ho] at ho'
      rw [← Option.some.inj ho', hdd] at hdd'
      cases hdd'
    · obtain ⟨_, o, ho, _⟩ := I.ok.funs.mem z
      exact absurd (Heap.lt_size ho) (Nat.not_lt.mpr (young b i))
  -- far by the locked heap is far by the open one
  have opened : ∀ h, Far X.prog X.w (frs X.stack) H3 s.heap h → Far X.prog X.w (frs X.stack) H s.heap h := fun h F => by
    have hold : ∀ b, VC.In cl b → ∀ o, s.heap.get? b = some o → h.get? b = some o := fun b i o eo => by
      obtain ⟨o', v', z, _⟩ := lk.lk.frz i
      have g1 := (ok3 b _ z).1
      rw [eo] at g1
      rw [Option.some.inj g1]
      exact (F.ok b _ z).1
    refine ⟨⟨fun b o eo n hb hx => ?_, fun b o eo n hb hx => ?_, fun b o eo n hx => n, fun b o eo hx => F.un.there b o eo hx, fun _ _ z => z, fun _ _ _ z => z, fun b ps z => ⟨#[], by rw [Array.append_empty]; exact z⟩⟩, fun b u eo => ?_⟩
    · by_cases i : VC.In cl b
      · exact hold b i o eo
      · exact F.un.keep b o eo (by rw [lk.out b i]; exact n) hb hx
    · exact F.un.slot b o eo (by rw [lk.out b (noFrame b hb)]; exact n) hb hx
    · have i : ¬ VC.In cl b := fun i => by rw [lk.free b i] at eo; cases eo
      refine (F.ok b u (by rw [lk.out b i]; exact eo)).stay (fun _ _ _ z => z) (fun c z => ?_) fun c xs z => ?_
      · rw [← lk.out c fun j => ?_]; exact z
        obtain ⟨o', v', z', _⟩ := lk.lk.frz j
        rw [z'] at z; cases z
      · rw [← lk.out c fun j => ?_]; exact z
        obtain ⟨o', v', z', _⟩ := lk.lk.frz j
        rw [z'] at z; cases z
  have at_ : ∀ s1 : Shared, s1.os = s.os → AllBare s1.gens → Far X.prog X.w (frs X.stack) H s.heap s1.heap → Inv X pins σ H s1 := fun s1 os1 b1 F => I.call' (ch := []) os1 F.un F.ok b1 fun b z => absurd z List.not_mem_nil
  have there : ∀ b ∈ frs X.stack, ∃ o, s.heap.get? b = some o := fun b hb => by
    obtain ⟨_, o, ho, _⟩ := I.env0.funs.mem hb
    exact ⟨o, ho⟩
  obtain ⟨t1, t2, t3, er⟩ := (show ∃ t u v, s.heap.get? r = some { cls := .type "range", data := .fields #[.int lo t, .int hi u, .int 1 v] } from I.hok r _ hrg)
  refine sorted_rg (fs := frs X.stack) (H := H3) (t := t1) (u := t2) (v := t3) hr.hd er rg small (by have := hr.un; omega) ok3 I.bare there (fun i tk i1 i2 s1 os1 b1 F => ?_) fun s2 l us ns c os2 b2 F l0 _ nl hl isI len bnd => ?_
  · have I1 := at_ s1 os1 b1 (opened _ F)
    have e0 := I1.env0
    have e1 : Env0 X.prog X.w X.K X.mg X.base X.A.in1.in1 X.stack s1 H3 := ⟨e0.frames, e0.mod, fun b o eb => ⟨(e0.bs b o eb).1, by
      rw [lk.out b fun i => by rw [noBase b i] at eb; cases eb]
      exact (e0.bs b o eb).2⟩, e0.bsz, e0.funs, fun b hb => by rw [lk.out b (noFrame b hb)]; exact e0.frf b hb, F.ok, e0.bare⟩
    obtain ⟨k, hk2⟩ := key i i1 i2
    have run := vc.run X.A.in1.in1 X.stack s1 H3 [.int i tk] [.int i] (fun v H' => v = .int k ∧ H' = H3) C8.E0 (hr.in1.in1) e1 hφ (.cons ⟨tk, rfl⟩ .nil) (hk2 _ ⟨rfl, rfl⟩)
    refine wpAny_call (codeAny_mono run fun res s' hq => ?_)
    cases res with
    | error e => exact hq.elim
    | ok fl =>
      cases fl with
      | next => exact hq.elim
      | brk => exact hq.elim
      | cont => exact hq.elim
      | ret u =>
        obtain ⟨v, H', os, bare, un, hok, rv, rfl, rfl⟩ := hq
        obtain ⟨t', rfl⟩ := rv
        exact ⟨k, t', rfl, os, bare, un, hok⟩
  · exact after_list I (opened _ F) os2 b2 l0 hl (vals_ints isI) (by rw [List.length_map, len, sizeLine_eq]; omega) (q l ns (HOk.gone I.hok l0) len bnd)
end
end VKY

set_option Elab.async false
set_option linter.all false
set_option maxRecDepth 100000
set_option maxHeartbeats 400000
namespace VTS
open PySem PySem.Spec PyProof.Rows L2 LamX NdefX VB PySem.W
/-- sorted of a tuple of texts -/
def rSortTS (K : PySem.W.Frag) : List V → Hp → VK → Prop := fun vs H Q => ∃ (a : Addr) (ss : List Str), vs = [V.ref a] ∧ SqT K H a (ss.map V.str) ∧ ss.length ≤ 1000 ∧
  ∀ p : Addr, H p = none → Q (.ref p) (upd H p (.lst ((ss.mergeSort VS.leS).map V.str)))
theorem sortedTS {X : Cx} {K : PySem.W.Frag} (h : X.K = K) {k : Nat} (hr : Room k X.A) : CallR X (.builtin "sorted") (rSortTS K) := by
  subst h
  intro pins s σ H vs us Q I r hh
  obtain ⟨a, ss, rfl, hs, small, q⟩ := hh
  have hun := hr.un
  have eS : (PySem.W.dataLe false PyData.str : Str → Str → Bool) = VS.leS := PySem.W.dataLe_str (fun x => x)
  have zl := sizeLine_eq
  obtain ⟨its, rv, ⟨o, ho, hc, n, hd⟩, hz⟩ := I.tuple hs
  rw [Vals.ref1 r]
  have li : its.length = ss.length := by
    have z := rv.length
    rw [List.length_map] at z
    omega
  have e1 : EachIs (fun u x => RelV (V.str x) u) its ss := by
    clear hs li hd hz q small
    generalize its = us at rv
    revert us
    induction ss with
    | nil => intro us rv; cases rv; exact .nil
    | cons x ss ih =>
      intro us rv
      cases rv with
      | cons h1 h2 => exact .cons h1 (ih _ h2)
  refine call_function_entry_kw kind_sorted plain_sorted entry_sorted (args_sorted1 _) ?_
  unfold Builtin.«sorted»
  refine wpAny_bind (m := checkCount "sorted" 1 1 _) (wpAny_pure ?_)
  refine wpAny_bind (wpAny_collect_seq a (.inr rfl) ho hc hd (fun h1 k1 => ?_) (by rw [List.size_toArray]; omega))
  refine wpAny_bind (wpAny_newList ?_ (by show its.length ≤ _; omega))
  have hoL : (h1.push (seqObj "list" its.toArray 0)).get? h1.objs.size = some (seqObj "list" its.toArray 0) := Heap.get?_push_size _ rfl
  refine wpAny_bind (wpAny_holding (PySem.W.list_sort_data (enc := PyData.str) (bs := ss) (R := fun u x => RelV (V.str x) u) hoL e1 ?_ ?_ ?_ (by omega) ?_ fun out lo eo => ?_))
  · exact e1.mono fun u x ⟨t, z⟩ => ⟨[], by rw [z]; exact .str x t, by simp⟩
  · intro d hd' d' hd''
    obtain ⟨x, _, rfl⟩ := List.mem_map.mp hd'
    obtain ⟨y, _, rfl⟩ := List.mem_map.mp hd''
    rfl
  · refine .inr fun d hd' => ?_
    obtain ⟨x, _, rfl⟩ := List.mem_map.mp hd'
    exact ⟨fun z => PyData.noConfusion z, fun xs z => PyData.noConfusion z⟩
  · intro b hb'
    show X.A.units + 1 + 1 + 0 < cLine
    omega
  · obtain ⟨c, hc'⟩ := sortedHeap_at (vs := its) (out := out.toArray) hoL
    have l0 : s.heap.get? h1.objs.size = none := by
      cases e : s.heap.get? h1.objs.size with
      | none => rfl
      | some o => exact absurd (Heap.lt_size (k1 _ _ e)) (Nat.lt_irrefl _)
    have kp : ∀ b u, s.heap.get? b = some u → (PyProof.Rows.sortedHeap (h1.push (seqObj "list" its.toArray 0)) h1.objs.size its out.toArray).get? b = some u := by
      intro b u e
      have z := k1 b u e
      have hlt := Heap.lt_size z
      rw [sortedHeap_old (Nat.ne_of_lt hlt) (by rw [size_push']; exact Nat.lt_succ_of_lt hlt)]
      exact Heap.get?_push_of_some _ z
    rw [eS] at eo
    exact wpAny_pure ⟨_, rfl, VKY.after_list I ((VKY.Far.refl I.hok).kept kp) rfl I.bare l0 hc' (VA.vals_each V.str eo) (by rw [List.length_map, List.length_mergeSort]; omega) (q _ (HOk.gone I.hok l0))⟩
end VTS

set_option Elab.async false
set_option linter.all false
namespace VKA
open PySem PySem.Spec PyProof.Rows L2 LamX NdefX VB
theorem anyL {X : Cx} {K : PySem.W.Frag} (h : X.K = K) (hc : X.calm = true) : CallR X (.builtin "any") (rAny K) := by subst h; exact cr_any hc
end VKA

set_option Elab.async false
set_option linter.all false
set_option maxRecDepth 100000
set_option maxHeartbeats 4000000
namespace VI
open PySem PySem.Spec PyProof.Rows L2 LamX NdefX VB VM
/-! enumerate of a tuple -/
/-- pairs of a number and an item of the tuple at a, the numbers from c on -/
def Itn (K : PySem.W.Frag) (c : Int) (a : Addr) : It where
  go := fun i H => ∃ (xs : List V) (x : V), SqT K H a xs ∧ xs[i]? = some x
  yld := fun i H v H' => ∃ T x, v = .ref T ∧ H T = none ∧ H' = upd H T (.tup [.int (c + (i : Nat)), x]) ∧ ∀ xs, SqT K H a xs → xs[i]? = some x
  stop := fun i H => ∃ xs : List V, SqT K H a xs ∧ xs.length ≤ i
theorem turnN {P : Program} {w : World} {K : PySem.W.Frag} {elts : List Expr} {kk : Nat} {tpos : Pos} (c : Int) {a e it : Addr} (eit : e ≠ it) (ea : e ≠ a) (ait : a ≠ it) :
    Turn P w K (.Tuple elts kk tpos) (Itn K c a) [e, it] e (fun i h => (∃ old, IsEnum h e it (c + ((i : Nat) : Int)) old) ∧ h.IsTupleIter it a i) where
  mem := List.mem_cons_self
  obj := fun i h ⟨⟨old, he⟩, o, ho, oc, od⟩ b hb => by
    rcases List.mem_cons.mp hb with z | z
    · exact ⟨_, z ▸ he, fun v q => by cases q⟩
    · exact ⟨o, List.mem_singleton.mp z ▸ ho, fun v q => by rw [od] at q; cases q⟩
  keep := fun i h h' ⟨⟨old, he⟩, st⟩ k => ⟨⟨old, k e List.mem_cons_self _ he⟩, st.at fun o q => k it (List.mem_cons_of_mem _ List.mem_cons_self) o q⟩
  item := by
    rintro X rfl rfl rfl hc i pins s σ H E I hf ⟨⟨old, he⟩, hit⟩ ⟨xs, x, hq, hx⟩
    obtain ⟨its, rv, pT, hz⟩ := I.tuple hq
    obtain ⟨u, hu, ru⟩ := rv.get hx
    have lt : i < its.toArray.size := by
      rw [List.size_toArray]
      exact (List.getElem?_eq_some_iff.mp hu).1
    have pT' : s.heap.IsTuple a its.toArray := pT
    have lte := Heap.lt_size he
    have ltit : it < s.heap.objs.size := let ⟨_, q, _⟩ := hit; Heap.lt_size q
    refine wpAny_pyNext_enum_itemC (D := Draws.tuple (prog := X.prog) (w := X.w) (A := X.A.in1) (I.ok.hd hc) it a ait its.toArray) he ⟨hit, pT'⟩ lt eit (by simp [eit, ea]) fun y h1 tk py ho st1 hT hsz hk => ?_
    obtain rfl : u = y := by
      have z : its.toArray[i]? = some y := py
      rw [List.getElem?_toArray, hu] at z
      exact Option.some.inj z
    refine ⟨_, rfl, wpAny_letOwnedTupleGo_enum (s := { s with heap := h1, toks := tk + 1 }) ho fun h2 he2 sb => ?_⟩
    have hT2 := (sb.2 _ (Nat.ne_of_gt lte)).trans hT
    have new : ObjOk X.prog X.w (upd H s.heap.objs.size (.tup [.int (c + (i : Nat)), x])) h2 s.heap.objs.size (.tup [.int (c + (i : Nat)), x]) :=
      ⟨by show 2 ≤ sizeLine; decide, [.int (c + (i : Nat)) tk, u], .cons ⟨_, rfl⟩ (.cons ru .nil), ⟨_, hT2, rfl, _, rfl⟩⟩
    have I1 : Inv X pins σ (upd H s.heap.objs.size (.tup [.int (c + (i : Nat)), x])) { s with heap := h2, toks := tk + 1 } := by
      refine I.turnedNew (ch := [e, it]) (fun b ob hb q => ?_) hf (Nat.le_refl _) new
      have n1 : b ≠ e := fun z => hb (z ▸ List.mem_cons_self)
      have n2 : b ≠ it := fun z => hb (z ▸ List.mem_cons_of_mem _ List.mem_cons_self)
      exact (sb.2 b n1).trans (hk b ob n1 n2 q)
    refine ⟨.ref s.heap.objs.size, _, I1, rfl, ⟨_, x, rfl, I.hok.fresh (Nat.le_refl _), rfl, fun ys hy => by rw [I.tuple_inj hy hq]; exact hx⟩, ⟨⟨u, ?_⟩, st1.1.at fun o q => (sb.2 it (Ne.symm eit)).trans q⟩, fun b hb => ?_⟩
    · rw [show c + ((i + 1 : Nat) : Int) = c + (i : Int) + 1 by omega]
      exact he2
    · have lb : b < s.heap.objs.size := by
        rcases List.mem_cons.mp hb with z | z
        · rw [z]; exact lte
        · rw [List.mem_singleton.mp z]; exact ltit
      rw [upd_ne (Nat.ne_of_lt lb)]
      exact (hf b hb).1
  done := by
    rintro X rfl rfl rfl hc i pins s σ H E I hf ⟨⟨old, he⟩, hit⟩ ⟨xs, hq, hx⟩
    obtain ⟨its, rv, pT, hz⟩ := I.tuple hq
    obtain ⟨f0, f1, f2, f3, f4, f5⟩ := hf it (List.mem_cons_of_mem _ List.mem_cons_self)
    have hl := rv.length
    have pT' : s.heap.IsTuple a its.toArray := pT
    have D := Draws.tuple (prog := X.prog) (w := X.w) (A := X.A.in1) (I.ok.hd hc) it a ait its.toArray
    have hst : s.heap.IsTupleIter it a its.toArray.size → s.heap.IsTupleIter it a its.toArray.size ∧ s.heap.IsTuple a its.toArray := fun z => ⟨z, pT'⟩
    have hT : s.TypeIs (.ref e) "enumerate" := ⟨_, he, rfl⟩
    unfold pyNext
    refine wpAny_bind (wpAny_attempt (wpAny_callSpecial?_slot (name := Str.ofString "__next__") hT F.slot_enumerate_next
      (wpAny_call_entry F.slot_enumerate_next hT F.entry_enumerate_next ?_ (F.args_enumerate_next_1 _))))
    refine wpAny_bind (m := field (.ref e) 2) (wpAny_field he rfl (x := .ref it) rfl ?_)
    refine wpAny_bind (wpAny_nextOf_tuple_end (I.ok.hd hc) hit pT' (by rw [List.getElem?_toArray]; exact List.getElem?_eq_none (by omega)) fun h' y eb hy => ?_)
    obtain ⟨o, ho, hcl⟩ := hy
    refine wpAny_bind (wpAny_isInstance (T := "StopIteration") (b := true) ⟨o, ho, hcl⟩ isSubtype_stop ?_)
    exact wpAny_pure ⟨rfl, I.turned (t' := s.toks) (fun b o hb q => eb b o hb q) f0 f1 f3 f4 f5⟩
  self := fun A i s Q E ⟨⟨_, he⟩, _⟩ h => wpAny_pyIter_enum he h
set_option maxHeartbeats 1000000 in
/-- enumerate.__new__ with one argument, of whatever begins an iterator -/
theorem newE {v : Value} {o : Obj} {B : Heap → Prop} (b : Begins v o B) :
    Meets (Builtin.«enumerate.__new__» ⟨[.type "enumerate", v], []⟩) (fun _ R s => B s.heap ∧
      R (.ok (.ret (.ref (s.heap.push o).objs.size))) { s with heap := (s.heap.push o).push { cls := .type "enumerate", data := .fields #[.none, .bool false, .ref s.heap.objs.size, rawInt 0, .none, .none] } }) :=
  .of_wp fun prog w A R s h => by
    obtain ⟨hp, g, d, tk, os⟩ := s
    obtain ⟨hB, h⟩ := h
    have hsub := sub_enumerate
    have it1 : ∀ {A' : Around} {E Q : Value → Shared → Prop}, Q (.ref hp.objs.size) ⟨hp.push o, g, d, tk, os⟩ → wpAny (model prog w) A' (pyIter v) Q E ⟨hp, g, d, tk, os⟩ := fun q => b.iter prog w _ _ _ _ hB q
    wp_walk using it1
    refine wpAny_stack_any fun st => wpAny_pure ?_
    split
    · rename_i c _ _ _ _ _
      cases (c == Value.type "enumerate") <;> (wp_walk using it1; exact ⟨_, rfl, h⟩)
    · wp_walk using it1
      exact ⟨_, rfl, h⟩
theorem callE {prog : Program} {w : World} {A : Around} {E : Value → Shared → Prop} {s : Shared} {v : Value} {o : Obj} {B : Heap → Prop} {Q : Value → Shared → Prop} (b : Begins v o B) (hB : B s.heap)
    (h : ∀ h', IsEnum h' (s.heap.objs.size + 1) s.heap.objs.size 0 .none → h'.get? s.heap.objs.size = some o → h'.objs.size = s.heap.objs.size + 2 → (∀ c u, s.heap.get? c = some u → h'.get? c = some u) → Q (.ref (s.heap.objs.size + 1)) { s with heap := h' }) :
    wpAny (model prog w) A (call (.type "enumerate") [v]) Q E s := by
  refine callType_new F.called_enumerate (by decide) (F.typeCall_enumerate_1 _) (F.newCall_enumerate_1 _) (fun obj => F.args_object_init_2 obj _) F.entry_enumerate_new (newE b) ⟨hB, ?_⟩
  have z1 : (s.heap.push o).objs.size = s.heap.objs.size + 1 := Heap.size_push ..
  have z2 := Heap.get?_push_size (s.heap.push o) (o := { cls := .type "enumerate", data := .fields #[.none, .bool false, .ref s.heap.objs.size, rawInt 0, .none, .none] }) rfl
  show _ ∧ _
  rw [z1] at z2 ⊢
  exact ⟨⟨_, z2, rfl⟩, h _ z2 (Heap.get?_push_of_some _ (Heap.get?_push_size _ b.free)) (by rw [Heap.size_push, z1]) fun c u x => Heap.get?_push_of_some _ (Heap.get?_push_of_some _ x)⟩
def iEnT (K : PySem.W.Frag) (ta : TA) : TI := fun σ H R => ta σ H fun vs H1 => ∃ a xs, vs = [.ref a] ∧ SqT K H1 a xs ∧ R (Itn K 0 a) H1
theorem pi_enT {X : Cx} {K : PySem.W.Frag} (hK : X.K = K) {e : Expr} {ta : TA} {p pos tpos : Pos} {elts : List Expr} {kk : Nat} (hg : Gl X "enumerate") (hm : X.mg "enumerate" = none) (ha : PA X [e] ta) (hs : starEach [e] X.env = [(false, eval e X.env)] := by rfl) :
    PI X (.Tuple elts kk tpos) (.Call (.Name "enumerate" p) [e] [] pos) (iEnT K ta) := by
  subst hK
  refine ⟨fun pins s σ H R I h => ?_⟩
  refine Call_ (ld_blt I hg hm boot_enumerate (PyProof.Rows.callWith_type1 (thn (ha.run pos pins s σ H _ I h) fun us s1 ⟨vs, H1, I1, r1, a, xs, ex, hq, q⟩ => ?_) hs rfl))
  subst ex
  obtain ⟨u, rfl, ru⟩ := r1.one
  cases ru
  obtain ⟨its, rv, pT, hz⟩ := I1.tuple hq
  have pT' : s1.heap.IsTuple a its.toArray := pT
  have la : a < s1.heap.objs.size := let ⟨_, z, _⟩ := pT'; Heap.lt_size z
  refine callE (begins_tuple a its.toArray) pT' fun h' he hit hsz hk => wpAny_pyIter_enum he ?_
  have I2 : Inv X pins σ H1 { s1 with heap := h' } := I1.kept (t' := s1.toks) hk
  refine ⟨s1.heap.objs.size + 1, [s1.heap.objs.size + 1, s1.heap.objs.size], _, _, H1, rfl, I2, turnN 0 (a := a) (e := s1.heap.objs.size + 1) (it := s1.heap.objs.size) (Nat.succ_ne_self _) (Nat.ne_of_gt (Nat.lt_succ_of_lt la)) (Nat.ne_of_lt la), ⟨⟨.none, he⟩, ⟨_, hit, rfl, rfl⟩⟩, fun b hb => ?_, q⟩
  have le : s1.heap.objs.size ≤ b := by
    rcases List.mem_cons.mp hb with z | z
    · rw [z]; omega
    · rw [List.mem_singleton.mp z]; exact Nat.le_refl _
  exact I1.fpOk le (I1.hok.fresh le)
/-- a walk over enumerate of a tuple -/
theorem for_en {K : PySem.W.Frag} {c : Int} {a : Addr} {xs : List V} {g : TG} {tb : TS} {D : Ends} {σ : L2.St} {H : Hp} (Pv : Nat → L2.St → Hp → Prop) (h0 : Pv 0 σ H) (hl : ∀ i σ H, i ≤ xs.length → Pv i σ H → SqT K H a xs)
    (hs : ∀ i x σ H, xs[i]? = some x → Pv i σ H → ∀ T, H T = none → g (.ref T) σ (upd H T (.tup [.int (c + (i : Nat)), x])) fun s2 H2 => tb { D with nx := Pv (i + 1), ct := Pv (i + 1), bk := D.nx } s2 H2) (hd : ∀ σ H, Pv xs.length σ H → D.nx σ H) :
    ∃ W : Nat → Nat → L2.St → Hp → Prop, (∃ m, W 0 m σ H) ∧ ∀ i m σ H, W i m σ H → ((Itn K c a).stop i H ∧ D.nx σ H) ∨
      ((Itn K c a).go i H ∧ ∃ N : L2.St → Hp → Prop, (∀ s' H', N s' H' → ∃ m', m' < m ∧ W (i + 1) m' s' H') ∧ ∀ x H', (Itn K c a).yld i H x H' → g x σ H' fun s2 H2 => tb { D with nx := N, ct := N, bk := D.nx } s2 H2) := by
  refine ⟨fun i m σ H => m + i = xs.length ∧ Pv i σ H, ⟨xs.length, rfl, h0⟩, fun i m σ H ⟨e, p⟩ => ?_⟩
  have q := hl i σ H (by omega) p
  cases m with
  | zero =>
    have e2 : i = xs.length := by omega
    subst e2
    exact .inl ⟨⟨xs, q, Nat.le_refl _⟩, hd _ _ p⟩
  | succ m =>
    have lt : i < xs.length := by omega
    refine .inr ⟨⟨xs, xs[i], q, List.getElem?_eq_getElem lt⟩, Pv (i + 1), fun s' H' p' => ⟨m, Nat.lt_succ_self _, by omega, p'⟩, fun x H' y => ?_⟩
    obtain ⟨T, z, rfl, nT, rfl, g1⟩ := y
    exact hs i z σ H (g1 xs q) p T nT
end VI

set_option Elab.async false
set_option linter.all false
set_option maxRecDepth 100000
set_option maxHeartbeats 4000000
namespace VJ
open PySem PySem.Spec PyProof.Rows L2 LamX NdefX VB VM
/-! what stands behind a piece of a text, said once for all its ways -/
theorem joinV {t : TE} {σ : L2.St} {H : Hp} {Q : VK} (F : V → Hp → Prop) (h : ∀ Q' : VK, (∀ v H', F v H' → Q' v H') → t σ H Q') (r : ∀ v H', F v H' → Q v H') : t σ H Q := h Q r
theorem joinT {t : TT} {σ : L2.St} {H : Hp} {Q : Bool → Hp → Prop} (F : Bool → Hp → Prop) (h : ∀ Q' : Bool → Hp → Prop, (∀ v H', F v H' → Q' v H') → t σ H Q') (r : ∀ v H', F v H' → Q v H') : t σ H Q := h Q r
theorem setJ {te : TE} {g : TG} {u : TS} {D : Ends} {σ : L2.St} {H : Hp} (F : V → Hp → Prop) (h : ∀ Q' : VK, (∀ v H', F v H' → Q' v H') → te σ H Q') (r : ∀ v H', F v H' → g v σ H' (u D)) : tSeq (tAsg te g) u D σ H := h _ r
theorem seqJ {t u : TS} {D : Ends} {σ : L2.St} {H : Hp} (F : L2.St → Hp → Prop) (h : ∀ N : L2.St → Hp → Prop, (∀ s' H', F s' H' → N s' H') → t { D with nx := N } σ H) (r : ∀ s' H', F s' H' → u D s' H') : tSeq t u D σ H := h _ r
theorem ifJ {c : TT} {t u v : TS} {D : Ends} {σ : L2.St} {H : Hp} (F : Bool → Hp → Prop) (h : ∀ Q' : Bool → Hp → Prop, (∀ b H', F b H' → Q' b H') → c σ H Q') (r : ∀ b H', F b H' → if b = true then t { D with nx := v D } σ H' else u { D with nx := v D } σ H') : tSeq (tIfS c t u) v D σ H := h _ r
theorem nm {i : Nat} {x : V} {σ : L2.St} {H : Hp} {N : L2.St → Hp → Prop} (h : N (σ.set i (some x)) H) : gName i x σ H N := h
theorem nmS {i : Nat} {x : V} {σ : L2.St} {H : Hp} {a b c : L2.St → Hp → Prop} {r : VK} (h : a (σ.set i (some x)) H) : gName i x σ H (Ends.nx ⟨a, r, b, c⟩) := h
theorem nx {σ : L2.St} {H : Hp} {a b c : L2.St → Hp → Prop} {r : VK} (h : a σ H) : Ends.nx ⟨a, r, b, c⟩ σ H := h
theorem nxT {σ : L2.St} {H : Hp} {a b c : L2.St → Hp → Prop} {r : VK} (h : a σ H) : tNext ⟨a, r, b, c⟩ σ H := h
theorem catA_of {K : PySem.W.Frag} {H : Hp} {a b : Addr} {xs ys : List V} {Q : VK} (ha : SqT K H a xs) (hb : SqT K H b ys) (hz : xs.length + ys.length ≤ sizeLine) (q : ∀ p H', Same H H' → SqT K H' p (xs ++ ys) → Q (.ref p) H') : rCatA K (.ref a) (.ref b) H Q :=
  ⟨a, b, xs, ys, rfl, rfl, ha, hb, hz, fun e => q b H (Same.refl H) (by rw [e]; exact hb), fun _ e => q a H (Same.refl H) (by rw [e, List.append_nil]; exact ha), fun _ _ p np => q p _ (same_upd np _) (.inl (.inl upd_same))⟩
theorem flatS (ss : List Str) : (ss.map V.str).all flatV = true := by
  rw [List.all_eq_true]
  intro v hv
  obtain ⟨x, _, rfl⟩ := List.mem_map.mp hv
  rfl
end VJ

set_option Elab.async false
set_option linter.all false
set_option maxRecDepth 100000
set_option maxHeartbeats 400000
namespace LW
open PySem PySem.Spec PyProof.Rows L2 LamX NdefX VB VM VP VE VX VQ VZ
abbrev s__law_quick : Stmt := top 49
theorem sc__law_quick : FnScope ["parts", "count", "edges", "move", "offers", "silent", "state", "action", "target", "close", "found", "k", "lost"] ["parts"] (defScope s__law_quick) := ⟨rfl, rfl, rfl, by decide +kernel, rfl, by decide +kernel, by decide +kernel⟩
theorem ite2b {b : Bool} {A B : Prop} (h1 : b = true → A) (h2 : b = false → B) : if b = true then A else B := by
  cases b
  · exact iteF (h2 rfl)
  · exact iteT (h1 rfl)
section
variable {P : Program} {w : World} {K : PySem.W.Frag} {mg : Str → Option Value} {base : Heap}
def spQuick (K : PySem.W.Frag) : Sp := fun vs H Q _ => ∃ (t l : Addr) (n : Int) (L : List (Addr × Ed)), vs = [.ref t] ∧ SqT K H t [.int n, .ref l] ∧ SqL K H l (refs L) ∧ Eds K H L ∧ L.length ≤ 1000 ∧ (∀ x ∈ L, okE n x.2) ∧ 1 ≤ n ∧ n ≤ 60 ∧
  ∀ (q : Addr) (H' : Hp), Same H H' → QAt K H' q n (L.map (·.2)) → Q (.ref q) H'
theorem c_quick (D : Df K mg "_law_quick" s__law_quick) (z_range : mg "range" = none) (z_list : mg "list" = none) (z_len : mg "len" = none) (z_any : mg "any" = none) (z_sorted : mg "sorted" = none) (z_tuple : mg "tuple" = none)
    (c__law_once : C8.Cal P w K mg base 1 "_law_once" (spOnceI K) []) : C8.Cal P w K mg base 2 "_law_quick" (spQuick K) [] := by
  refine D.cal sc__law_quick (fun _ _ _ _ _ _ us hl => match us, hl with | [_], _ => rfl) (fun vs H Q E h => ?_) (fun f cdv A outer s0 H vs Q E hr h => ?_)
  · obtain ⟨t, l, n, L, rfl, _⟩ := h
    rfl
  obtain ⟨t, l, n, L, rfl, hT, hS, hE, len, ok, n1, n60, q⟩ := h
  refine ⟨_, (pss_cons (ps_asg (pv 0) (pg_tup rfl (pgs_cons (pg_name (i := 1) sc__law_quick.nd rfl (Or.inl rfl)) (pgs_cons (pg_name (i := 2) sc__law_quick.nd rfl (Or.inl rfl)) pgs_nil))))
    (pss_cons (ps_set (i := 3) sc__law_quick.nd rfl (Or.inl rfl) pe_dnewT)
    (pss_cons (ps_set (i := 4) sc__law_quick.nd rfl (Or.inl rfl) pe_dnewK)
    (pss_cons (ps_set (i := 5) sc__law_quick.nd rfl (Or.inr rfl) pe_dnewK)
    (pss_cons (ps_for PassesOwn.never rfl (pi_range1 rfl z_range (pa_cons (pv 1) pa_nil)) (pg_name (i := 6) sc__law_quick.nd rfl (Or.inl rfl))
      (pss_cons (ps_dput (hu_of hr) (pv 4) (pv 6) (pe_tup pa_nil) rfl)
      (pss_one (ps_dput (hu_of hr) (pv 5) (pv 6) (pe_lst pa_nil) rfl))))
    (pss_cons (ps_for PassesOwn.never rfl (pi_list (pv 2)) (pg_tup rfl (pgs_cons (pg_name (i := 6) sc__law_quick.nd rfl (Or.inl rfl)) (pgs_cons (pg_name (i := 7) sc__law_quick.nd rfl (Or.inl rfl)) (pgs_cons (pg_name (i := 8) sc__law_quick.nd rfl (Or.inl rfl)) pgs_nil))))
      (pss_cons (ps_dput (hu_of hr) (pv 3) (pe_tup (pa_cons (pv 6) (pa_cons (pv 7) pa_nil))) (pe_op op_cat (pe_dget2 (hu_of hr) (pv 3) (pe_tup (pa_cons (pv 6) (pa_cons (pv 7) pa_nil))) (pe_lst pa_nil) ⟨rfl, rfl, rfl, rfl⟩) (pe_lst (pa_cons (pv 8) pa_nil))) rfl)
      (pss_one (ps_if (pt_cmpR op_eq (pv 7) pe_str (nomark _))
        (pss_one (ps_dput (hu_of hr) (pv 5) (pv 6) (pe_op op_cat (pe_dget (hu_of hr) (pv 5) (pv 6) (fun _ _ => rfl)) (pe_lst (pa_cons (pv 8) pa_nil))) rfl))
        (pss_one (ps_if (pt_cmpR (VK.notInQ (K := K) rfl) (pv 7) (pe_dget (hu_of hr) (pv 4) (pv 6) (fun _ _ => rfl)) rfl)
          (pss_one (ps_dput (hu_of hr) (pv 4) (pv 6) (pe_callTy (VK.tupQ (K := K) rfl) (by rfl) z_tuple (by decide +kernel) (pa_cons (pe_callB (VTS.sortedTS (K := K) rfl hr) (by rfl) z_sorted (by decide +kernel) (pa_cons (pe_op (VZ.catA (K := K) rfl) (pe_dget (hu_of hr) (pv 4) (pv 6) (fun _ _ => rfl)) (pe_tup (pa_cons (pv 7) pa_nil))) pa_nil)) pa_nil)) rfl))
          pss_nil))))))
    (pss_cons (ps_set (i := 9) sc__law_quick.nd rfl (Or.inl rfl) pe_dnewK)
    (pss_cons (ps_for PassesOwn.never rfl (pi_range1 rfl z_range (pa_cons (pv 1) pa_nil)) (pg_name (i := 6) sc__law_quick.nd rfl (Or.inl rfl))
      (pss_cons (ps_set (i := 10) sc__law_quick.nd rfl (Or.inr rfl) (pe_lst (pa_cons (pv 6) pa_nil)))
      (pss_cons (ps_for PassesOwn.never rfl (pi_range1 rfl z_range (pa_cons (pv 1) pa_nil)) (pg_name (i := 11) sc__law_quick.nd rfl (Or.inl rfl))
        (pss_one (ps_if (pt_cmpR op_lt (pv 11) (pe_callB (VK.lenQ (K := K) rfl) (by rfl) z_len PySem.boot_len (pa_cons (pv 10) pa_nil)) (nomark _))
          (pss_one (ps_set (i := 10) sc__law_quick.nd rfl (Or.inr rfl) (pe_op op_cat (pv 10) (pe_lc (own := [("target", 8)]) rfl sc__law_quick.nd (pi_list (C8.pe_c c__law_once hr (by first | decide | omega) rfl (pa_cons (pe_dget (hu_of hr) (pv 5) (pe_ix (VK.ixL (K := K) rfl) (pv 10) (pv 11) (fun _ _ => rfl)) (fun _ _ => rfl)) pa_nil))) (blkOk_by (N := ["parts", "count", "edges", "move", "offers", "silent", "state", "action", "target", "close", "found", "k", "lost"]) (sc := defScope s__law_quick) (by decide +kernel)) (fun _ _ _ _ _ => (pg_name (i := 8) sc__law_quick.nd rfl (Or.inl rfl) (hf := Or.inr rfl))) (fun _ _ _ _ _ => (pts_one (pt_cmpR (VK.notInQ (K := K) rfl) (pv 8) (pv 10) rfl))) (fun _ _ _ _ _ => (pv 8))))))
          pss_nil)))
      (pss_one (ps_dput (hu_of hr) (pv 9) (pv 6) (pv 10) rfl)))))
    (pss_cons (ps_set (i := 12) sc__law_quick.nd rfl (Or.inr rfl) (pe_listRg rfl (by rfl) z_list (prg_1 (by rfl) z_range (pv 1))))
    (pss_cons (ps_for PassesOwn.never rfl (pi_range1 rfl z_range (pa_cons (pv 1) pa_nil)) (pg_name (i := 11) sc__law_quick.nd rfl (Or.inl rfl))
      (pss_one (ps_set (i := 12) sc__law_quick.nd rfl (Or.inr rfl) (pe_lc (own := [("state", 6)]) rfl sc__law_quick.nd (pi_list (pv 12)) (blkOk_by (N := ["parts", "count", "edges", "move", "offers", "silent", "state", "action", "target", "close", "found", "k", "lost"]) (sc := defScope s__law_quick) (by decide +kernel)) (fun _ _ _ _ _ => (pg_name (i := 6) sc__law_quick.nd rfl (Or.inl rfl) (hf := Or.inr rfl))) (fun _ _ _ _ _ => (pts_one (pt_val (pe_callB (VKA.anyL (K := K) rfl rfl) (by rfl) z_any (by decide +kernel) (pa_cons (pe_lc (own := [("target", 8)]) (tt := tYes) rfl sc__law_quick.nd (VD.piL (K := K) rfl (pe_dget (hu_of hr) (pv 5) (pv 6) (fun _ _ => rfl))) (blkOk_by (N := ["parts", "count", "edges", "move", "offers", "silent", "state", "action", "target", "close", "found", "k", "lost"]) (by rfl)) (fun _ _ _ _ _ => (pg_name (i := 8) sc__law_quick.nd rfl (Or.inl rfl) (hf := Or.inr rfl))) (fun _ _ _ _ _ => pts_nil) (fun _ _ _ _ _ => (pe_cmpR (VK.inQ (K := K) rfl) (pv 8) (pv 12) rfl))) pa_nil))))) (fun _ _ _ _ _ => (pv 6))))))
    (pss_one (ps_ret (pe_disp (pps_cons pe_str (pv 1) (pps_cons pe_str (pv 3) (pps_cons pe_str (pv 4) (pps_cons pe_str (pv 5) (pps_cons pe_str (pv 9) (pps_cons pe_str (pv 12) pps_nil)))))) (by rfl) (by rfl) (fun z => by cases z) (by decide)))))))))))))), ?_⟩
  have zl := sizeLine_eq
  have okL : ∀ e ∈ L.map (·.2), okE n e := fun e he => by
    obtain ⟨p, hp, rfl⟩ := List.mem_map.mp he
    exact ok p hp
  refine ⟨_, rfl, t, _, rfl, hT, rfl, _, _, rfl, _, _, rfl, rfl, fun dm nm => ?_⟩
  have hm0 : upd H dm (.dT []) dm = some (.dT []) := upd_same
  have s1 := same_upd nm (.dT [])
  generalize upd H dm (.dT []) = H1 at hm0 s1 ⊢
  refine fun dO nO => ?_
  have ho0 : upd H1 dO (.dK []) dO = some (.dK []) := upd_same
  have s2 := same_upd nO (.dK [])
  have nO' := s1.free nO
  generalize upd H1 dO (.dK []) = H2 at ho0 s2 ⊢
  refine fun ds nS => ?_
  have hs0 : upd H2 ds (.dK []) ds = some (.dK []) := upd_same
  have s3 := same_upd nS (.dK [])
  have nS' := (s1.trans s2).free nS
  have ne : dO ≠ ds := ne_of_none ho0 nS
  have s03 := (s1.trans s2).trans s3
  have hm3 := (s2.trans s3) _ _ hm0
  have ho3 := s3 _ _ ho0
  generalize upd H2 ds (.dK []) = H3 at hs0 s3 s03 hm3 ho3 ⊢
  refine ⟨_, rfl, n, rfl, by omega, by omega, for_range (lo := 0) (n := n.toNat)
    (fun i σ H' => ∃ r6 : Option V, σ = [some (.ref t), some (.int n), some (.ref l), some (.ref dm), some (.ref dO), some (.ref ds), r6, none, none, none, none, none, none] ∧ Same H H' ∧ H' dm = some (.dT []) ∧ IR (i : Int) H' dO (offR K H' []) ∧ IR (i : Int) H' ds (silR H' []))
    ⟨none, rfl, s03, hm3, ⟨[], ho3, by simp, fun s a b => by omega⟩, ⟨[], hs0, by simp, fun s a b => by omega⟩⟩ ?_ ?_⟩
  · rintro i σ H4 hi ⟨r6, rfl, s4, hm4, io, is⟩
    have i60 : (i : Int) ≤ 60 := by omega
    refine ⟨Nat.zero_le _, fun p np => ?_⟩
    have s5 := same_upd np (.tup [])
    have hp5 : upd H4 p (.tup []) p = some (.tup []) := upd_same
    generalize upd H4 p (.tup []) = H5 at s5 hp5 ⊢
    obtain ⟨ko, o1, o2, o3⟩ := (io.mono (R' := offR K H5 []) (fun o e => s5 _ _ e) fun s v _ _ h => h.kl (.of s5)).snoc (x := 0 + (i : Nat)) (by omega)
    obtain ⟨ks, k1, k2, k3⟩ := (is.mono (R' := silR H5 []) (fun o e => s5 _ _ e) fun s v _ _ h => h.kl (.of s5)).snoc (x := 0 + (i : Nat)) (by omega)
    refine ⟨_, rfl, _, rfl, dO, _, rfl, DPut.k (k := .inl (0 + (i : Nat))) o1 (by omega), ?_⟩
    have kl := KL.dK o1 (.dK (putK ko (.inl (0 + (i : Nat))) (.ref p)))
    have o4 := o3 (upd H5 dO (.dK (putK ko (.inl (0 + (i : Nat))) (.ref p)))) (.ref p) (offR K (upd H5 dO (.dK (putK ko (.inl (0 + (i : Nat))) (.ref p)))) []) upd_same ⟨p, rfl, by rw [show acs [] (i : Int) = [] from rfl, srtS_nil]; exact kl.2.sqT (.inl (.inl hp5))⟩ fun s u _ _ h => h.kl kl
    have k4 : (upd H5 dO (.dK (putK ko (.inl (0 + (i : Nat))) (.ref p)))) ds = some (.dK ks) := by rw [upd_ne ne.symm]; exact k1
    have m4 : (upd H5 dO (.dK (putK ko (.inl (0 + (i : Nat))) (.ref p)))) dm = some (.dT []) := by rw [upd_ne (ne_of (s5 _ _ hm4) o1 (fun z => nomatch z))]; exact s5 _ _ hm4
    have s6 := sameIn (o := .dK (putK ko (.inl (0 + (i : Nat))) (.ref p))) (s4.trans s5) nO'
    generalize upd H5 dO (.dK (putK ko (.inl (0 + (i : Nat))) (.ref p))) = H6 at kl o4 k4 m4 s6 ⊢
    refine ⟨Nat.zero_le _, fun g ng => ?_⟩
    have s7 := same_upd ng (.lst [])
    have hg7 : upd H6 g (.lst []) g = some (.lst []) := upd_same
    generalize upd H6 g (.lst []) = H7 at s7 hg7 ⊢
    have k7 := s7 _ _ k4
    have klS := KL.dK k7 (.dK (putK ks (.inl (0 + (i : Nat))) (.ref g)))
    refine ⟨_, rfl, _, rfl, ds, _, rfl, DPut.k (k := .inl (0 + (i : Nat))) k7 (by omega), _, rfl, sameIn (s6.trans s7) nS', ?_, ?_, ?_⟩
    · rw [upd_ne (ne_of (s7 _ _ m4) k7 (fun z => nomatch z))]; exact s7 _ _ m4
    · refine o4.mono (fun o e => ?_) fun s v _ _ h => (h.kl (.of s7)).kl klS
      rw [upd_ne ne]
      exact s7 _ _ e
    · refine k3 _ _ _ upd_same ⟨g, rfl, klS.1 _ _ hg7⟩ fun s u _ _ h => ((h.kl kl).kl (.of s7)).kl klS
  rintro σ H4 ⟨r6, rfl, s4, hm4, io, is⟩
  rw [Int.toNat_of_nonneg (by omega : 0 ≤ n)] at io is
  have L0 : LQ K H H4 dm dO ds n [] [] [] := ⟨s4, ⟨[], hm4, Nat.le_refl _, fun k v h => (by cases h), fun s x _ => rfl⟩, io, is⟩
  clear hm4 io is
  have hE4 : Eds K H4 L := hE.kp (Kp.of s4)
  refine ⟨_, rfl, l, rfl, ⟨_, s4.seq hS⟩, for_list (K := K) (a := l) (xs := refs L)
    (fun i σ H' => ∃ r6 r7 r8 : Option V, σ = [some (.ref t), some (.int n), some (.ref l), some (.ref dm), some (.ref dO), some (.ref ds), r6, r7, r8, none, none, none, none] ∧ LQ K H H' dm dO ds n ((L.map (·.2)).take i) ((L.map (·.2)).take i) ((L.map (·.2)).take i))
    ⟨r6, none, none, rfl, L0⟩ (fun i σ H' _ ⟨_, _, _, _, z⟩ => z.same.seq hS) ?_ ?_⟩
  · rintro i v σ H5 hv ⟨r6, r7, r8, rfl, LI⟩
    obtain ⟨e, he, rfl⟩ := refs_at hv
    have ein := List.mem_of_getElem? he
    have tk := tk_at he
    have lti := (List.getElem?_eq_some_iff.mp he).1
    have lenI : ((L.map (·.2)).take i).length ≤ 999 := Nat.le_trans (List.length_take_le _ _) (by omega)
    have oe := ok e ein
    refine ⟨e.1, _, rfl, (hE.kp (Kp.of LI.same)) e ein, rfl, .int e.2.1, _, rfl, .str e.2.2.1, _, rfl, .int e.2.2.2, _, rfl, rfl, ?_⟩
    rw [tk]
    generalize (L.map (·.2)).take i = E at LI lenI ⊢
    have isd : ∀ {H9 : Hp}, LQ K H H9 dm dO ds n E E E → IsD H9 dm := fun z => by
      obtain ⟨kvs, h1, _⟩ := z.m
      exact .inr ⟨_, .inl h1⟩
    refine ⟨_, rfl, dm, rfl, isd LI, _, rfl, _, rfl, (by show 2 ≤ sizeLine; omega), fun k nk => ⟨Nat.zero_le _, fun z nz => ?_⟩⟩
    have L6 := LI.go (same_upd nk (.tup [.int e.2.1, .str e.2.2.1]))
    have hk6 : upd H5 k (.tup [.int e.2.1, .str e.2.2.1]) k = some (.tup [.int e.2.1, .str e.2.2.1]) := upd_same
    generalize upd H5 k (.tup [.int e.2.1, .str e.2.2.1]) = H6 at L6 hk6 nz ⊢
    have L7 := L6.go (same_upd nz (.lst []))
    have hk7 := same_upd nz (.lst []) _ _ hk6
    have hz7 : upd H6 z (.lst []) z = some (.lst []) := upd_same
    generalize upd H6 z (.lst []) = H7 at L7 hk7 hz7 ⊢
    obtain ⟨o, b, g1, g2, g3⟩ := L7.m.at_ e.2.1 e.2.2.1 hz7 hk7
    refine ⟨o, g1, ?_⟩
    rw [g2]
    refine ⟨_, rfl, (by show 1 ≤ sizeLine; omega), fun y ny => ?_⟩
    have L8 := L7.go (same_upd ny (.lst [.int e.2.2.2]))
    have hb8 := same_upd ny (.lst [.int e.2.2.2]) _ _ g3
    have hy8 : upd H7 y (.lst [.int e.2.2.2]) y = some (.lst [.int e.2.2.2]) := upd_same
    generalize upd H7 y (.lst [.int e.2.2.2]) = H8 at L8 hb8 hy8 ⊢
    have lt : (tg E e.2.1 e.2.2.1).length ≤ 999 := Nat.le_trans (tg_len _ _ _) lenI
    refine ⟨b, y, _, _, rfl, rfl, hb8, hy8, (by rw [List.length_map]; show _ + 1 ≤ sizeLine; omega), fun x nx => ?_⟩
    have L9 := L8.go (same_upd nx (.lst ((tg E e.2.1 e.2.2.1).map V.int ++ [.int e.2.2.2])))
    have hx9 : upd H8 x (.lst ((tg E e.2.1 e.2.2.1).map V.int ++ [.int e.2.2.2])) x = some (.lst ((tg E e.2.1 e.2.2.1).map V.int ++ [.int e.2.2.2])) := upd_same
    generalize upd H8 x (.lst ((tg E e.2.1 e.2.2.1).map V.int ++ [.int e.2.2.2])) = H9 at L9 hx9 ⊢
    refine ⟨_, rfl, _, rfl, _, rfl, (by show 2 ≤ sizeLine; omega), fun k2 nk2 => ?_⟩
    have L10 := L9.go (same_upd nk2 (.tup [.int e.2.1, .str e.2.2.1]))
    have hx10 := same_upd nk2 (.tup [.int e.2.1, .str e.2.2.1]) _ _ hx9
    have hk10 : upd H9 k2 (.tup [.int e.2.1, .str e.2.2.1]) k2 = some (.tup [.int e.2.1, .str e.2.2.1]) := upd_same
    generalize upd H9 k2 (.tup [.int e.2.1, .str e.2.2.1]) = H10 at L10 hx10 hk10 ⊢
    obtain ⟨H11, put, L11⟩ := L10.putM nm (e := e.2) hx10 hk10 (by omega)
    refine ⟨dm, H11, rfl, put, ?_⟩
    clear L10 L9 L8 L7 L6 hx10 hk10 hx9 hb8 hy8 g1 g2 g3 put hk7 hz7 hk6
    refine ⟨_, rfl, rfl, _, rfl, ?_⟩
    refine ite2 (fun c => ?_) (fun c => ?_)
    · have et : e.2.2.1 = ("tau" : Str) := by
        have z := of_decide_eq_true c
        injection z
      have nt : tg (E ++ [e.2]) e.2.1 ("tau" : Str) = tg E e.2.1 "tau" ++ [e.2.2.2] := by rw [tg_snoc, if_pos ⟨rfl, et⟩]
      have oth : ∀ s, s ≠ e.2.1 → tg (E ++ [e.2]) s ("tau" : Str) = tg E s "tau" := fun s ns => by rw [tg_snoc, if_neg fun z => ns z.1.symm]
      have oths : ∀ s, srtS (acs (E ++ [e.2]) s) = srtS (acs E s) := fun s => by rw [acs_snoc, if_neg fun z => z.2 et]
      obtain ⟨v, d1, b2, rfl, d2⟩ := L11.s.at_ oe.1 oe.2.1
      refine ⟨_, rfl, _, rfl, ds, _, rfl, d1, ?_⟩
      refine ⟨_, rfl, (by show 1 ≤ sizeLine; omega), fun y ny => ?_⟩
      have L12 := L11.go (same_upd ny (.lst [.int e.2.2.2]))
      have hb12 := same_upd ny (.lst [.int e.2.2.2]) _ _ d2
      have hy12 : upd H11 y (.lst [.int e.2.2.2]) y = some (.lst [.int e.2.2.2]) := upd_same
      generalize upd H11 y (.lst [.int e.2.2.2]) = H12 at L12 hb12 hy12 ⊢
      have lt2 : (tg E e.2.1 "tau").length ≤ 999 := Nat.le_trans (tg_len _ _ _) lenI
      refine ⟨b2, y, _, _, rfl, rfl, hb12, hy12, (by rw [List.length_map]; show _ + 1 ≤ sizeLine; omega), fun x nx => ?_⟩
      have L13 := L12.go (same_upd nx (.lst ((tg E e.2.1 "tau").map V.int ++ [.int e.2.2.2])))
      have hx13 : upd H12 x (.lst ((tg E e.2.1 "tau").map V.int ++ [.int e.2.2.2])) x = some (.lst ((tg E e.2.1 "tau").map V.int ++ [.int e.2.2.2])) := upd_same
      generalize upd H12 x (.lst ((tg E e.2.1 "tau").map V.int ++ [.int e.2.2.2])) = H13 at L13 hx13 ⊢
      obtain ⟨H14, put, L14⟩ := L13.putS nS' ne oe.1 oe.2.1 (E4 := E ++ [e.2]) n60 (by rw [nt, List.map_append]; exact hx13) oth
      exact ⟨_, rfl, _, rfl, ds, H14, rfl, put, _, _, _, rfl, L14.cast oths fun _ => rfl⟩
    · have et : ¬ e.2.2.1 = ("tau" : Str) := fun z => c (decide_eq_true (by rw [z]))
      have oths : ∀ s, tg (E ++ [e.2]) s ("tau" : Str) = tg E s "tau" := fun s => by rw [tg_snoc, if_neg fun z => et z.2]
      obtain ⟨v, d1, b2, rfl, d2⟩ := L11.o.at_ oe.1 oe.2.1
      refine ⟨_, rfl, _, rfl, _, rfl, dO, _, rfl, d1, b2, _, rfl, .inr d2, rfl, all_strs _, _, rfl, ?_⟩
      rw [inV_strs]
      refine iteMem (p := e.2.2.1 ∈ srtS (acs E e.2.1)) (fun h => ?_) (fun h => ?_)
      · refine ⟨_, _, _, rfl, L11.cast (fun s => ?_) oths⟩
        rw [acs_snoc]
        by_cases g : e.2.1 = s ∧ ¬ e.2.2.1 = ("tau" : Str)
        · rw [if_pos g, ← g.1, srtS_in h]
        · rw [if_neg g]
      · have nt : srtS (acs (E ++ [e.2]) e.2.1) = (srtS (acs E e.2.1) ++ [e.2.2.1]).mergeSort VS.leS := by rw [acs_snoc, if_pos ⟨rfl, et⟩, srtS_out h]
        have oth : ∀ s, s ≠ e.2.1 → srtS (acs (E ++ [e.2]) s) = srtS (acs E s) := fun s ns => by rw [acs_snoc, if_neg fun z => ns z.1.symm]
        have la : (srtS (acs E e.2.1)).length ≤ 999 := Nat.le_trans (srtAcs_len _ _) lenI
        refine ⟨_, rfl, _, rfl, dO, _, rfl, d1, ?_⟩
        refine ⟨_, rfl, (by show 1 ≤ sizeLine; omega), fun y ny => ?_⟩
        have L12 := L11.go (same_upd ny (.tup [.str e.2.2.1]))
        have hb12 := (Kp.of (same_upd ny (.tup [.str e.2.2.1]))).sqT d2
        have hy12 : upd H11 y (.tup [.str e.2.2.1]) y = some (.tup [.str e.2.2.1]) := upd_same
        generalize upd H11 y (.tup [.str e.2.2.1]) = H12 at L12 hb12 hy12 ⊢
        refine VJ.catA_of hb12 (.inl (.inl hy12)) (by rw [List.length_map]; show _ + 1 ≤ sizeLine; omega) fun x H13 s13 hx13 => ?_
        have L13 := L12.go s13
        have hx : SqT K H13 x ((srtS (acs E e.2.1) ++ [e.2.2.1]).map V.str) := by rw [List.map_append]; exact hx13
        refine ⟨x, _, rfl, hx, (by rw [List.length_append, List.length_singleton]; omega), fun g ng => ?_⟩
        have L14 := L13.go (same_upd ng (.lst (((srtS (acs E e.2.1) ++ [e.2.2.1]).mergeSort VS.leS).map V.str)))
        refine ⟨g, _, rfl, .inl ⟨SqL.of upd_same, fun g2 ng2 => ?_⟩⟩
        have L15 := L14.go (same_upd ng2 (.tup (((srtS (acs E e.2.1) ++ [e.2.2.1]).mergeSort VS.leS).map V.str)))
        obtain ⟨H16, put, L16⟩ := L15.putO nO' ne oe.1 oe.2.1 (b := g2) (E4 := E ++ [e.2]) n60 (by rw [nt]; exact .inl (.inl upd_same)) oth
        exact ⟨_, rfl, _, rfl, dO, H16, rfl, put, _, _, _, rfl, L16.cast (fun _ => rfl) oths⟩
  rintro σ H5 ⟨r6, r7, r8, rfl, LE⟩
  rw [refs_len, List.take_of_length_le (by rw [List.length_map]; exact Nat.le_refl _)] at LE
  clear L0 hE4
  have LE' := LE
  generalize hEd : L.map (·.2) = E at LE LE' okL q
  have lenE : E.length ≤ 1000 := by rw [← hEd, List.length_map]; exact len
  refine fun dc nC => ?_
  have L6 := LE.go (same_upd nC (.dK []))
  have nC' := LE.same.free nC
  have hc6 : upd H5 dc (.dK []) dc = some (.dK []) := upd_same
  have ndc : dO ≠ dc ∧ ds ≠ dc := by
    obtain ⟨_, h1, _⟩ := LE.o
    obtain ⟨_, h2, _⟩ := LE.s
    exact ⟨ne_of_none h1 nC, ne_of_none h2 nC⟩
  generalize upd H5 dc (.dK []) = H6 at L6 hc6 ⊢
  refine ⟨_, rfl, n, rfl, by omega, by omega, for_range (lo := 0) (n := n.toNat)
    (fun i σ H' => ∃ r6 r7 r8 r10 r11 : Option V, σ = [some (.ref t), some (.int n), some (.ref l), some (.ref dm), some (.ref dO), some (.ref ds), r6, r7, r8, some (.ref dc), r10, r11, none] ∧ LQ K H H' dm dO ds n E E E ∧ IR (i : Int) H' dc (cloR H' E))
    ⟨_, _, _, _, _, rfl, L6, [], hc6, by simp, fun s a b => by omega⟩ ?_ ?_⟩
  · rintro i σ H7 hi ⟨r6, r7, r8, r10, r11, rfl, L7, ic⟩
    have e0 : 0 + ((i : Nat) : Int) = (i : Int) := by omega
    have i0 : (0 : Int) ≤ i := by omega
    have i1 : (i : Int) < n := by omega
    rw [e0]
    refine ⟨_, rfl, (by show 1 ≤ sizeLine; omega), fun f0 nf0 => ?_⟩
    have s8 := same_upd nf0 (.lst [.int ((i : Nat) : Int)])
    have hf8 : upd H7 f0 (.lst [.int ((i : Nat) : Int)]) f0 = some (.lst ([((i : Nat) : Int)].map V.int)) := upd_same
    have ic8 := ic.mono (H' := upd H7 f0 (.lst [.int ((i : Nat) : Int)])) (R' := cloR (upd H7 f0 (.lst [.int ((i : Nat) : Int)])) E) (fun o e => s8 _ _ e) fun s v _ _ h => h.kl (.of s8)
    have L8 := L7.go s8
    generalize upd H7 f0 (.lst [.int ((i : Nat) : Int)]) = H8 at s8 hf8 ic8 L8 ⊢
    refine ⟨_, rfl, n, rfl, by omega, by omega, for_range (lo := 0) (n := n.toNat)
      (fun k σ H' => ∃ (r11 : Option V) (fq : Addr) (cs : List Int), σ = [some (.ref t), some (.int n), some (.ref l), some (.ref dm), some (.ref dO), some (.ref ds), some (.int (i : Nat)), r7, r8, some (.ref dc), some (.ref fq), r11, none] ∧ LQ K H H' dm dO ds n E E E ∧ IR (i : Int) H' dc (cloR H' E) ∧
        H' fq = some (.lst (cs.map V.int)) ∧ cs.Nodup ∧ ((i : Nat) : Int) ∈ cs ∧ (∀ y ∈ cs, Rch E [((i : Nat) : Int)] y) ∧ ∀ j, j < k → ∀ x, cs[j]? = some x → ∀ y ∈ tg E x ("tau" : Str), y ∈ cs)
      ⟨_, f0, _, rfl, L8, ic8, hf8, by simp, by simp, fun y hy => .base hy, fun j hj => absurd hj (Nat.not_lt_zero j)⟩ ?_ ?_⟩
    · rintro k σ H9 hk ⟨r11, fq, cs, rfl, L9, ic9, hf9, nd, sin, rch, cl⟩
      have rg : ∀ y ∈ cs, 0 ≤ y ∧ y < n := fun y hy => Rch.range (P := fun x => 0 ≤ x ∧ x < n) (fun e he => ⟨(okL e he).2.2.1, (okL e he).2.2.2.1⟩) (fun y hy => by rw [List.mem_singleton.mp hy]; exact ⟨i0, i1⟩) (rch y hy)
      have lcs := few_of nd rg
      refine ⟨_, rfl, _, rfl, fq, _, rfl, .inl (SqL.of hf9), _, _, rfl, rfl, _, rfl, ?_⟩
      rw [List.length_map]
      refine ite2 (fun c => ?_) (fun c => ?_)
      · have kl : k < cs.length := by have := of_decide_eq_true c; omega
        have hx : cs[k]? = some cs[k] := List.getElem?_eq_getElem kl
        have xin : cs[k] ∈ cs := List.getElem_mem kl
        generalize cs[k] = x at hx xin
        obtain ⟨v, d1, b2, rfl, d2⟩ := L9.s.at_ (rg x xin).1 (rg x xin).2
        have lt : (tg E x "tau").length ≤ 1000 := Nat.le_trans (tg_len _ _ _) lenE
        refine ⟨_, rfl, _, rfl, _, rfl, _, rfl, fq, _, _, _, rfl, rfl, SqL.of hf9, (by rw [show (0 : Int) + (k : Nat) = (k : Nat) by omega]; exact atI_nat (by rw [List.getElem?_map, hx] <;> rfl)), ds, _, rfl, d1, b2, _, rfl, SqL.of d2, (by omega), fun p np => ?_⟩
        have s10 := same_upd np (.lst ((onceG [] (tg E x "tau")).map V.int))
        have hp10 : upd H9 p (.lst ((onceG [] (tg E x "tau")).map V.int)) p = some (.lst ((onceG [] (tg E x "tau")).map V.int)) := upd_same
        have lo : (onceG [] (tg E x "tau")).length ≤ 1000 := by
          have z := onceG_len (tg E x "tau") []
          rw [List.length_nil] at z
          omega
        have bs := bfs_step (x := x) nd rch xin
        generalize onceG [] (tg E x "tau") = ts at s10 hp10 lo bs ⊢
        generalize upd H9 p (.lst (ts.map V.int)) = H10 at s10 hp10 ⊢
        refine ⟨p, rfl, ⟨_, SqL.of hp10⟩, fun D1 nD => ?_⟩
        refine lc_list (K := K) (a := p) (xs := ts.map V.int) (fun j H' => Same H10 H' ∧ H' D1 = some (.lst (((ts.take j).filter fun y => decide (¬ y ∈ cs)).map V.int))) ⟨same_upd nD _, upd_same⟩ (fun j H' _ z => z.1.seq (SqL.of hp10)) ?_ ?_
        · rintro j v H11 hv ⟨s11, hD⟩
          rw [List.getElem?_map] at hv
          obtain ⟨y, hy, rfl⟩ := Option.map_eq_some_iff.mp hv
          have tk : ts.take (j + 1) = ts.take j ++ [y] := by rw [List.take_add_one, hy, Option.toList_some]
          have ltj := (List.getElem?_eq_some_iff.mp hy).1
          refine ⟨rfl, ?_⟩
          refine ⟨_, rfl, _, rfl, fq, _, rfl, .inl (SqL.of ((s10.trans s11) _ _ hf9)), rfl, all_ints _, _, rfl, ?_⟩
          rw [inV_ints]
          refine iteMem (p := y ∈ cs) (fun h => ?_) (fun h => ?_)
          · refine ⟨s11, ?_⟩
            rw [hD, tk, List.filter_append, List.filter_cons_of_neg (by simpa using h), List.filter_nil, List.append_nil]
          · refine ⟨_, rfl, _, hD, ?_, sameIn s11 nD, ?_⟩
            · rw [List.length_map]
              have z := List.length_filter_le (fun y => decide (¬ y ∈ cs)) (ts.take j)
              have z2 := List.length_take_le j ts
              omega
            · rw [upd_same, tk, List.filter_append, List.filter_cons_of_pos (by simpa using h), List.filter_nil, List.map_append] <;> rfl
        · rintro H11 ⟨s11, hD⟩
          rw [List.length_map, List.take_length] at hD
          have s911 := s10.trans s11
          refine ⟨fq, D1, _, _, rfl, rfl, s911 _ _ hf9, hD, ?_, fun g ng => ?_⟩
          · rw [List.length_map, List.length_map]
            have z := List.length_filter_le (fun y => decide (¬ y ∈ cs)) ts
            omega
          have s12 := s911.trans (same_upd ng (.lst (cs.map V.int ++ (ts.filter fun y => decide (¬ y ∈ cs)).map V.int)))
          refine ⟨_, g, cs ++ ts.filter fun y => decide (¬ y ∈ cs), rfl, L9.go s12, ic9.mono (fun o e => s12 _ _ e) fun s v _ _ h => h.kl (.of s12), by rw [upd_same, List.map_append], bs.1, List.mem_append_left _ sin, bs.2.1, fun j hj z hz y hy => ?_⟩
          rcases Nat.lt_succ_iff_lt_or_eq.mp hj with w | w
          · have lj : j < cs.length := by omega
            rw [List.getElem?_append_left lj] at hz
            exact List.mem_append_left _ (cl j w z hz y hy)
          · subst w
            rw [List.getElem?_append_left kl, hx] at hz
            cases hz
            exact bs.2.2 y hy
      · refine ⟨_, fq, cs, rfl, L9, ic9, hf9, nd, sin, rch, fun j hj x hx => ?_⟩
        have z := (List.getElem?_eq_some_iff.mp hx).1
        refine cl j ?_ x hx
        have : ¬ (k : Int) < cs.length := fun y => c (decide_eq_true (by omega))
        omega
    · rintro σ H9 ⟨r11, fq, cs, rfl, L9, ic9, hf9, nd, sin, rch, cl⟩
      have mem := bfs_end okL i0 i1 nd sin rch cl
      obtain ⟨kc, c1, c2, c3⟩ := ic9.snoc (x := (i : Nat)) rfl
      have kl := KL.dK c1 (.dK (putK kc (.inl ((i : Nat) : Int)) (.ref fq)))
      refine ⟨_, rfl, _, rfl, _, rfl, dc, _, rfl, DPut.k (k := .inl ((i : Nat) : Int)) c1 (by omega), _, _, _, _, _, rfl, L9.other c1 nC' ndc.1 ndc.2 _, ?_⟩
      exact c3 _ _ _ upd_same ⟨fq, cs, rfl, kl.1 _ _ hf9, nd, mem⟩ fun s u _ _ h => h.kl kl
  rintro σ H7 ⟨r6, r7, r8, r10, r11, rfl, L7, ic⟩
  rw [Int.toNat_of_nonneg (by omega : 0 ≤ n)] at ic
  refine ⟨_, rfl, n, rfl, RgOk.of_le (by decide) (by omega) (by decide) (by omega), fun f0 nf0 => ?_⟩
  have s8 := same_upd nf0 (.lst (rgV 0 n))
  have hf8 : upd H7 f0 (.lst (rgV 0 n)) f0 = some (.lst ((rng n.toNat).map V.int)) := by rw [upd_same, rgV_rng]
  have s8' := s8
  generalize upd H7 f0 (.lst (rgV 0 n)) = H8 at s8 s8' hf8 ⊢
  refine ⟨_, rfl, n, rfl, by omega, by omega, for_range (lo := 0) (n := n.toNat)
    (fun k σ H' => ∃ (r11 : Option V) (fq : Addr) (fl : List Int), σ = [some (.ref t), some (.int n), some (.ref l), some (.ref dm), some (.ref dO), some (.ref ds), r6, r7, r8, some (.ref dc), r10, r11, some (.ref fq)] ∧ Same H7 H' ∧ H' fq = some (.lst (fl.map V.int)) ∧ fl.Pairwise (· < ·) ∧
      ∀ s, s ∈ fl ↔ (0 ≤ s ∧ s < n) ∧ Ch E k s) ⟨_, f0, rng n.toNat, rfl, s8, hf8, rng_asc _, fun s => by rw [rng_mem]; simp [Ch]; omega⟩ ?_ ?_⟩
  · rintro k σ H9 hk ⟨r11, fq, fl, rfl, s9, hfq, asc, mfl⟩
    have lfl := few_of (ascI_nodup asc) fun x hx => ((mfl x).1 hx).1
    refine ⟨_, rfl, fq, rfl, ⟨_, SqL.of hfq⟩, fun D2 nD2 => ?_⟩
    refine lc_list (K := K) (a := fq) (xs := fl.map V.int) (fun i H' => Same H9 H' ∧ H' D2 = some (.lst (((fl.take i).filter fun s => (tg E s "tau").any fun y => decide (y ∈ fl)).map V.int)))
      ⟨same_upd nD2 _, by rw [upd_same]; simp⟩ (fun i H' _ z => z.1.seq (SqL.of hfq)) ?_ ?_
    · rintro i v H10 hv ⟨s10, hD⟩
      rw [List.getElem?_map] at hv
      obtain ⟨s, hs, rfl⟩ := Option.map_eq_some_iff.mp hv
      have tk : fl.take (i + 1) = fl.take i ++ [s] := by rw [List.take_add_one, hs, Option.toList_some]
      have rs := ((mfl s).1 (List.mem_of_getElem? hs)).1
      have L10 := L7.go (s9.trans s10)
      obtain ⟨v, d1, b, rfl, d2⟩ := L10.s.at_ rs.1 rs.2
      have hfq10 := s10 _ _ hfq
      have ltg : (tg E s "tau").length ≤ 1000 := Nat.le_trans (tg_len _ _ _) lenE
      generalize hts : tg E s "tau" = ts at d2 ltg
      refine ⟨rfl, ?_⟩
      refine ⟨_, rfl, _, rfl, ds, _, rfl, d1, b, rfl, ⟨_, SqL.of d2⟩, fun D3 nD3 => ?_⟩
      refine lc_list (K := K) (a := b) (xs := ts.map V.int) (fun j H' => Same H10 H' ∧ H' D3 = some (.lst (((ts.take j).map fun y => decide (y ∈ fl)).map V.bl)))
        ⟨same_upd nD3 _, upd_same⟩ (fun j H' _ z => z.1.seq (SqL.of d2)) ?_ ?_
      · rintro j v H11 hv2 ⟨s11, hG⟩
        rw [List.getElem?_map] at hv2
        obtain ⟨y, hy, rfl⟩ := Option.map_eq_some_iff.mp hv2
        have tkT : ts.take (j + 1) = ts.take j ++ [y] := by rw [List.take_add_one, hy, Option.toList_some]
        have ltj := (List.getElem?_eq_some_iff.mp hy).1
        refine ⟨rfl, ?_⟩
        unfold tYes
        refine iteT ?_
        refine ⟨_, rfl, _, rfl, fq, _, rfl, .inl (SqL.of (s11 _ _ hfq10)), rfl, all_ints _, _, hG, ?_, sameIn s11 nD3, ?_⟩
        · rw [List.length_map, List.length_map, List.length_take]; omega
        · rw [upd_same, tkT, List.map_append, List.map_append]
          show some (HO.lst (_ ++ [V.bl (inV (.int y) (fl.map V.int))])) = _
          rw [inV_ints] <;> rfl
      · rintro H11 ⟨s11, hG⟩
        rw [List.length_map, List.take_length] at hG
        refine ⟨D3, ts.map fun y => decide (y ∈ fl), rfl, SqL.of hG, _, rfl, ?_⟩
        have eA : (ts.map fun y => decide (y ∈ fl)).any id = ts.any fun y => decide (y ∈ fl) := by rw [List.any_map] <;> rfl
        rw [eA]
        have s911 := s10.trans s11
        refine ite2b (fun c => ?_) (fun c => ?_)
        · refine ⟨_, rfl, _, s11 _ _ hD, ?_, sameIn s911 nD2, ?_⟩
          · rw [List.length_map]
            have z := List.length_filter_le (fun s => (tg E s "tau").any fun y => decide (y ∈ fl)) (fl.take i)
            have z2 := List.length_take_le i fl
            have z3 := (List.getElem?_eq_some_iff.mp hs).1
            omega
          · rw [upd_same, tk, List.filter_append, List.filter_cons_of_pos (by rw [hts]; exact c), List.filter_nil, List.map_append] <;> rfl
        · refine ⟨s911, ?_⟩
          rw [s11 _ _ hD, tk, List.filter_append, List.filter_cons_of_neg (by rw [hts]; simp only [c]; decide), List.filter_nil, List.append_nil]
    · rintro H10 ⟨s10, hD⟩
      rw [List.length_map, List.take_length] at hD
      refine ⟨_, D2, _, rfl, s9.trans s10, hD, asc.sublist List.filter_sublist, fun s => ?_⟩
      rw [List.mem_filter, List.any_eq_true, mfl]
      constructor
      · rintro ⟨⟨h1, h2⟩, y, hy, h3⟩
        exact ⟨h1, y, hy, ((mfl y).1 (of_decide_eq_true h3)).2⟩
      · rintro ⟨h1, y, hy, hc⟩
        have z := okL _ (tg_mem.1 hy)
        exact ⟨⟨h1, ch_pred k ⟨y, hy, hc⟩⟩, y, hy, decide_eq_true ((mfl y).2 ⟨⟨z.2.2.1, z.2.2.2.1⟩, hc⟩)⟩
  · rintro σ H9 ⟨r11, fq, fl, rfl, s9, hfq, asc, mfl⟩
    have L9 := L7.go s9
    have ic9 := ic.mono (H' := H9) (R' := cloR H9 E) (fun o e => s9 _ _ e) fun s v _ _ h => h.kl (.of s9)
    refine fun qd nq => ⟨_, rfl, _, rfl, _, rfl, _, rfl, _, rfl, _, rfl, upd_same, kvQ n dm dO ds dc fq, rfl, (by show 6 ≤ 15; decide), ?_⟩
    rw [upd_upd]
    have sq := same_upd nq (.dK (mergeK [] (kvQ n dm dO ds dc fq)))
    have hq : upd H9 qd (.dK (mergeK [] (kvQ n dm dO ds dc fq))) qd = some (.dK (mergeK [] (kvQ n dm dO ds dc fq))) := upd_same
    obtain ⟨v1, v2, v3, v4, v5⟩ := kvQ_val n dm dO ds dc fq
    have L10 := L9.go sq
    refine q qd _ L10.same ⟨⟨_, dm, dO, ds, dc, fq, fl, hq, v1, v2, v3, v4, v5, L10.m, L10.o, L10.s, ic9.mono (fun o e => sq _ _ e) fun s v _ _ h => h.kl (.of sq), sq _ _ hfq, fun s => ?_⟩, okL, n1, n60, lenE⟩
    rw [mfl]
    constructor
    · rintro ⟨h1, h2⟩
      exact ⟨h1, (ch_halt okL h1.1 h1.2).1 h2⟩
    · rintro ⟨h1, h2⟩
      exact ⟨h1, (ch_halt okL h1.1 h1.2).2 h2⟩
end
end LW

set_option Elab.async false
set_option linter.all false
set_option maxRecDepth 100000
set_option maxHeartbeats 400000
namespace LW
open PySem PySem.Spec PyProof.Rows L2 LamX NdefX VB VM VP VE VX VQ VZ
abbrev s__law_starts : Stmt := top 50
theorem sc__law_starts : FnScope ["q"] ["q"] (defScope s__law_starts) := ⟨rfl, rfl, rfl, by decide +kernel, rfl, by decide +kernel, by decide +kernel⟩
abbrev s__law_go : Stmt := top 51
theorem sc__law_go : FnScope ["q", "states", "action", "found", "state", "target", "near"] ["q", "states", "action"] (defScope s__law_go) := ⟨rfl, rfl, rfl, by decide +kernel, rfl, by decide +kernel, by decide +kernel⟩
section
variable {K : PySem.W.Frag} {H : Hp} {q : Addr} {n : Int} {E : List Ed}
theorem dget_str {kvs : List (Key × V)} {x : Str} {v : V} (hq : H q = some (.dK kvs)) (h : valV kvs (.inr x) = some v) : DGet H q (.str x) (some v) := by
  have z := DGet.k (k := .inr x) hq
  rw [h] at z
  exact z
theorem QAt.move (Q : QAt K H q n E) : ∃ d, DGet H q (.str "move") (some (.ref d)) ∧ MQ H d E := by
  obtain ⟨⟨kvs, dm, dO, ds, dc, ll, cs, hq, v1, v2, v3, v4, v5, a1, a2, a3, a4, a5, a6⟩, _⟩ := Q
  exact ⟨dm, dget_str hq v1, a1⟩
theorem QAt.offers (Q : QAt K H q n E) : ∃ d, DGet H q (.str "offers") (some (.ref d)) ∧ IR n H d (offR K H E) := by
  obtain ⟨⟨kvs, dm, dO, ds, dc, ll, cs, hq, v1, v2, v3, v4, v5, a1, a2, a3, a4, a5, a6⟩, _⟩ := Q
  exact ⟨dO, dget_str hq v2, a2⟩
theorem QAt.silent (Q : QAt K H q n E) : ∃ d, DGet H q (.str "silent") (some (.ref d)) ∧ IR n H d (silR H E) := by
  obtain ⟨⟨kvs, dm, dO, ds, dc, ll, cs, hq, v1, v2, v3, v4, v5, a1, a2, a3, a4, a5, a6⟩, _⟩ := Q
  exact ⟨ds, dget_str hq v3, a3⟩
theorem QAt.close (Q : QAt K H q n E) : ∃ d, DGet H q (.str "close") (some (.ref d)) ∧ IR n H d (cloR H E) := by
  obtain ⟨⟨kvs, dm, dO, ds, dc, ll, cs, hq, v1, v2, v3, v4, v5, a1, a2, a3, a4, a5, a6⟩, _⟩ := Q
  exact ⟨dc, dget_str hq v4, a4⟩
theorem QAt.lost (Q : QAt K H q n E) : ∃ (d : Addr) (cs : List Int), DGet H q (.str "lost") (some (.ref d)) ∧ H d = some (.lst (cs.map V.int)) ∧ ∀ s, s ∈ cs ↔ (0 ≤ s ∧ s < n) ∧ ¬ Halt E s := by
  obtain ⟨⟨kvs, dm, dO, ds, dc, ll, cs, hq, v1, v2, v3, v4, v5, a1, a2, a3, a4, a5, a6⟩, _⟩ := Q
  exact ⟨ll, cs, dget_str hq v5, a5, a6⟩
/-- a dict whose keys are the numbers of a set -/
def FD (H : Hp) (fd : Addr) (S : Int → Prop) : Prop := ∃ (kvs : List (Key × V)) (ks : List Int), H fd = some (.dK kvs) ∧ kvs.map (·.1) = ks.map Sum.inl ∧ ks.Nodup ∧ (∀ y, y ∈ ks ↔ S y) ∧ ∀ y, y ∈ ks ↔ (valV kvs (.inl y)).isSome = true
theorem putK_keys {κ : Type} [DecidableEq κ] {kvs : List (κ × V)} {k : κ} {u v : V} (h : valV kvs k = some u) : (putK kvs k v).map (·.1) = kvs.map (·.1) := by
  unfold putK
  rw [valV_any, h, if_pos (by rfl), List.map_map]
  refine List.map_congr_left fun kv _ => ?_
  show (if kv.1 = k then (kv.1, v) else kv).1 = kv.1
  by_cases c : kv.1 = k
  · rw [if_pos c]
  · rw [if_neg c]
theorem FD.cast {fd : Addr} {S S' : Int → Prop} (h : FD H fd S) (e : ∀ y, S y ↔ S' y) : FD H fd S' := by
  obtain ⟨kvs, ks, h1, h2, h3, h4, h5⟩ := h
  exact ⟨kvs, ks, h1, h2, h3, fun y => (h4 y).trans (e y), h5⟩
theorem FD.same {H' : Hp} {fd : Addr} {S : Int → Prop} (h : FD H fd S) (s : Same H H') : FD H' fd S := by
  obtain ⟨kvs, ks, h1, r⟩ := h
  exact ⟨kvs, ks, s _ _ h1, r⟩
theorem FD.put {fd : Addr} {S : Int → Prop} (h : FD H fd S) (hS : ∀ y, S y → 0 ≤ y ∧ y < n) (n60 : n ≤ 60) (x : Int) (v : V) : ∃ kvs, H fd = some (.dK kvs) ∧ DPut H fd (.int x) v (upd H fd (.dK (putK kvs (.inl x) v))) ∧ FD (upd H fd (.dK (putK kvs (.inl x) v))) fd fun y => S y ∨ y = x := by
  obtain ⟨kvs, ks, h1, h2, h3, h4, h5⟩ := h
  have zl := sizeLine_eq
  have len := few_of h3 fun y hy => hS y ((h4 y).1 hy)
  have lk : kvs.length = ks.length := by
    have z := congrArg List.length h2
    rw [List.length_map, List.length_map] at z
    exact z
  refine ⟨kvs, h1, DPut.k (k := .inl x) h1 (by omega), ?_⟩
  have sm : ∀ y, ((valV (putK kvs (.inl x) v) (.inl y)).isSome = true ↔ (valV kvs (.inl y)).isSome = true ∨ y = x) := fun y => by
    rw [valV_put]
    by_cases c : y = x
    · subst c; simp
    · rw [if_neg (fun z => c (Sum.inl.inj z))]; simp [c]
  by_cases c : x ∈ ks
  · have z := (h5 x).1 c
    obtain ⟨u, hu⟩ := Option.isSome_iff_exists.mp z
    refine ⟨_, ks, upd_same, by rw [putK_keys hu]; exact h2, h3, fun y => ?_, fun y => ?_⟩
    · rw [h4]
      exact ⟨.inl, fun w => w.elim id fun w => by rw [w]; exact (h4 x).1 c⟩
    · rw [sm, ← h5]
      exact ⟨.inl, fun w => w.elim id fun w => by rw [w]; exact c⟩
  · have hu : valV kvs (.inl x) = none := by
      cases e : valV kvs (.inl x) with
      | none => rfl
      | some u => exact absurd ((h5 x).2 (by rw [e] <;> rfl)) c
    refine ⟨_, ks ++ [x], upd_same, by rw [putK_new v hu, List.map_append, h2, List.map_append] <;> rfl, ?_, fun y => ?_, fun y => ?_⟩
    · rw [List.nodup_append]
      exact ⟨h3, by simp, fun a ha b hb => by rw [List.mem_singleton.mp hb]; exact fun z => c (by rw [← z]; exact ha)⟩
    · rw [List.mem_append, List.mem_singleton, h4]
    · rw [List.mem_append, List.mem_singleton, sm, ← h5]
theorem rch_one {S : List Int} {y : Int} : Rch E S y ↔ ∃ t ∈ S, Rch E [t] y := by
  constructor
  · intro h
    induction h with
    | base h => exact ⟨_, h, .base (by simp)⟩
    | step _ g ih =>
      obtain ⟨t, ht, r⟩ := ih
      exact ⟨t, ht, .step r g⟩
  · rintro ⟨t, ht, r⟩
    exact r.imp (fun _ e => e) fun x hx => by rw [List.mem_singleton.mp hx]; exact ht
theorem rch_rg (ok : ∀ e ∈ E, okE n e) {S : List Int} (hS : ∀ y ∈ S, 0 ≤ y ∧ y < n) {y : Int} (h : Rch E S y) : 0 ≤ y ∧ y < n :=
  Rch.range (P := fun x => 0 ≤ x ∧ x < n) (fun e he => ⟨(ok e he).2.2.1, (ok e he).2.2.2.1⟩) hS h
end
section
variable {P : Program} {w : World} {K : PySem.W.Frag} {mg : Str → Option Value} {base : Heap}
def spQSt (K : PySem.W.Frag) : Sp := fun vs H Q _ => ∃ (q : Addr) (n : Int) (E : List Ed), vs = [.ref q] ∧ QAt K H q n E ∧
  ∀ (a : Addr) (H' : Hp) (cs : List Int), Same H H' → H' a = some (.tup (cs.map V.int)) → IsClo E [0] cs → (∀ x ∈ cs, 0 ≤ x ∧ x < n) → cs.length ≤ 60 → Q (.ref a) H'
theorem c_qst (D : Df K mg "_law_starts" s__law_starts) (z_sorted : mg "sorted" = none) (z_tuple : mg "tuple" = none) : C8.Cal P w K mg base 1 "_law_starts" (spQSt K) [] := by
  refine D.cal sc__law_starts (fun _ _ _ _ _ _ us hl => match us, hl with | [_], _ => rfl) (fun vs H Q E h => ?_) (fun f cdv A outer s0 H vs Q E hr h => ?_)
  · obtain ⟨q, n, E0, rfl, _⟩ := h
    rfl
  obtain ⟨q, n, E0, rfl, QA, k⟩ := h
  refine ⟨_, (pss_one (ps_ret (pe_callTy (VK.tupQ (K := K) rfl) (by rfl) z_tuple (by decide +kernel) (pa_cons (pe_callB (VQ.sortedI (K := K) rfl hr) (by rfl) z_sorted (by decide +kernel) (pa_cons (pe_dget (hu_of hr) (pe_dget (hu_of hr) (pv 0) pe_str (fun _ _ => rfl)) pe_int (fun _ _ => rfl)) pa_nil)) pa_nil)))), ?_⟩
  obtain ⟨d, d1, d2⟩ := QA.close
  obtain ⟨v, d3, b, cs, rfl, hb, nd, mem⟩ := d2.at_ (x := 0) (Int.le_refl 0) (by have := QA.n1; omega)
  have cl : IsClo E0 [0] (srtI cs) := ⟨srtI_asc nd, fun x => by rw [srtI_mem, mem]⟩
  have rg := clo_range QA.ok cl fun x hx => by rw [List.mem_singleton.mp hx]; have := QA.n1; omega
  have n60 := QA.n60
  have lc := few_of (ascI_nodup cl.asc) rg
  refine ⟨_, rfl, q, _, rfl, d1, d, _, rfl, d3, b, cs, rfl, SqL.of hb, fun p np => ?_⟩
  have s1 := same_upd np (.lst ((srtI cs).map V.int))
  exact ⟨p, _, rfl, .inl ⟨SqL.of upd_same, fun c nc => k c _ (srtI cs) (s1.trans (same_upd nc _)) upd_same cl rg (by omega)⟩⟩
def spQGo (K : PySem.W.Frag) : Sp := fun vs H Q _ => ∃ (q a : Addr) (n : Int) (E : List Ed) (ss : List Int) (x : Str), vs = [.ref q, .ref a, .str x] ∧ QAt K H q n E ∧ SqT K H a (ss.map V.int) ∧ (∀ x ∈ ss, 0 ≤ x ∧ x < n) ∧ ss.length ≤ 60 ∧
  ∀ (a : Addr) (H' : Hp) (cs : List Int), Same H H' → H' a = some (.tup (cs.map V.int)) → IsClo E (aft E ss x) cs → (∀ x ∈ cs, 0 ≤ x ∧ x < n) → cs.length ≤ 60 → Q (.ref a) H'
theorem c_qgo (D : Df K mg "_law_go" s__law_go) (z_sorted : mg "sorted" = none) (z_tuple : mg "tuple" = none) : C8.Cal P w K mg base 1 "_law_go" (spQGo K) [] := by
  refine D.cal sc__law_go (fun _ _ _ _ _ _ us hl => match us, hl with | [_, _, _], _ => rfl) (fun vs H Q E h => ?_) (fun f cdv A outer s0 H vs Q E hr h => ?_)
  · obtain ⟨q, a, n, E0, ss, x, rfl, _⟩ := h
    rfl
  obtain ⟨q, a, n, E0, ss, x, rfl, QA, hT, hss, lens, k⟩ := h
  refine ⟨_, (pss_cons (ps_set (i := 3) sc__law_go.nd rfl (Or.inl rfl) pe_dnewK)
    (pss_cons (ps_for PassesOwn.never rfl (pi_tup (pv 1)) (pg_name (i := 4) sc__law_go.nd rfl (Or.inl rfl))
      (pss_one (ps_for PassesOwn.never rfl (pi_list (pe_dget2 (hu_of hr) (pe_dget (hu_of hr) (pv 0) pe_str (fun _ _ => rfl)) (pe_tup (pa_cons (pv 4) (pa_cons (pv 2) pa_nil))) (pe_lst pa_nil) ⟨rfl, rfl, rfl, rfl⟩)) (pg_name (i := 5) sc__law_go.nd rfl (Or.inl rfl))
        (pss_one (ps_for PassesOwn.never rfl (pi_list (pe_dget (hu_of hr) (pe_dget (hu_of hr) (pv 0) pe_str (fun _ _ => rfl)) (pv 5) (fun _ _ => rfl))) (pg_name (i := 6) sc__law_go.nd rfl (Or.inl rfl))
          (pss_one (ps_dput (hu_of hr) (pv 3) (pv 6) pe_bl rfl)))))))
    (pss_one (ps_ret (pe_callTy (VK.tupQ (K := K) rfl) (by rfl) z_tuple (by decide +kernel) (pa_cons (pe_callB (call_sortedDI rfl) (by rfl) z_sorted (by decide +kernel) (pa_cons (pv 3) pa_nil)) pa_nil)))))), ?_⟩
  have ok := QA.ok
  have n60 := QA.n60
  have lenE := QA.len
  refine fun fd nf => ?_
  have s1 := same_upd nf (.dK [])
  have F1 : FD (upd H fd (.dK [])) fd (fun y => ∃ t ∈ aft E0 (ss.take 0) x, Rch E0 [t] y) := ⟨[], [], upd_same, rfl, List.nodup_nil, fun y => ⟨fun z => (by cases z), fun ⟨t, z, _⟩ => (by cases z)⟩, fun y => ⟨fun z => (by cases z), fun z => (by cases z)⟩⟩
  generalize upd H fd (.dK []) = H1 at s1 F1 ⊢
  refine ⟨_, rfl, a, rfl, ⟨_, VB.Same.sqT s1 hT⟩, for_tup (K := K) (a := a) (xs := ss.map V.int)
    (fun i σ H' => ∃ r4 r5 r6 : Option V, σ = [some (.ref q), some (.ref a), some (.str x), some (.ref fd), r4, r5, r6] ∧ Same H H' ∧ FD H' fd fun y => ∃ t ∈ aft E0 (ss.take i) x, Rch E0 [t] y)
    ⟨none, none, none, rfl, s1, F1⟩ (fun i σ H' _ ⟨_, _, _, _, s, _⟩ => VB.Same.sqT s hT) ?_ ?_⟩
  · rintro i v σ H2 hv ⟨r4, r5, r6, rfl, s2, F2⟩
    rw [List.getElem?_map] at hv
    obtain ⟨s, hs, rfl⟩ := Option.map_eq_some_iff.mp hv
    have tk : ss.take (i + 1) = ss.take i ++ [s] := by rw [List.take_add_one, hs, Option.toList_some]
    rw [tk, aft_snoc]
    have rA : ∀ t ∈ aft E0 (ss.take i) x, 0 ≤ t ∧ t < n := aft_range ok
    generalize aft E0 (ss.take i) x = T at F2 rA ⊢
    have rT : ∀ t ∈ tg E0 s x, 0 ≤ t ∧ t < n := fun t ht => by
      have z := ok _ (tg_mem.1 ht)
      exact ⟨z.2.2.1, z.2.2.2.1⟩
    have lT : (tg E0 s x).length ≤ 1000 := Nat.le_trans (tg_len _ _ _) lenE
    have Q2 := QA.same s2
    obtain ⟨dm, m1, m2⟩ := Q2.move
    refine ⟨_, rfl, q, _, rfl, m1, dm, rfl, (by obtain ⟨kvs, h1, _⟩ := m2; exact .inr ⟨_, .inl h1⟩), _, rfl, _, rfl, (by show 2 ≤ sizeLine; decide), fun p np => ⟨Nat.zero_le _, fun z nz => ?_⟩⟩
    have s3 := same_upd np (.tup [.int s, .str x])
    have hp3 : upd H2 p (.tup [.int s, .str x]) p = some (.tup [.int s, .str x]) := upd_same
    generalize upd H2 p (.tup [.int s, .str x]) = H3 at s3 hp3 nz ⊢
    have s4 := same_upd nz (.lst [])
    have hz4 : upd H3 z (.lst []) z = some (.lst []) := upd_same
    generalize upd H3 z (.lst []) = H4 at s4 hz4 ⊢
    have s34 := s3.trans s4
    obtain ⟨o, b, g1, g2, hb⟩ := (m2.mono (fun o e => s34 _ _ e) (.of s34)).at_ s x hz4 (s4 _ _ hp3)
    refine ⟨o, g1, ?_⟩
    rw [g2]
    have s14 := s2.trans s34
    have F4 := F2.same s34
    refine ⟨b, rfl, ⟨_, SqL.of hb⟩, for_list (K := K) (a := b) (xs := (tg E0 s x).map V.int)
      (fun j σ H' => ∃ r5 r6 : Option V, σ = [some (.ref q), some (.ref a), some (.str x), some (.ref fd), some (.int s), r5, r6] ∧ Same H H' ∧ H' b = some (.lst ((tg E0 s x).map V.int)) ∧ FD H' fd fun y => ∃ t ∈ T ++ (tg E0 s x).take j, Rch E0 [t] y)
      ⟨_, _, rfl, s14, hb, F4.cast fun y => by rw [List.take_zero, List.append_nil]⟩ (fun j σ H' _ ⟨_, _, _, _, z, _⟩ => SqL.of z) ?_ ?_⟩
    · rintro j v H5 H6 hv2 ⟨r5, r6, rfl, s5, hb5, F5⟩
      rw [List.getElem?_map] at hv2
      obtain ⟨t, ht, rfl⟩ := Option.map_eq_some_iff.mp hv2
      have tin := List.mem_of_getElem? ht
      have tkT : (tg E0 s x).take (j + 1) = (tg E0 s x).take j ++ [t] := by rw [List.take_add_one, ht, Option.toList_some]
      have rU : ∀ u ∈ T ++ (tg E0 s x).take j, 0 ≤ u ∧ u < n := fun u hu => (List.mem_append.mp hu).elim (rA u) fun hu => rT u (List.mem_of_mem_take hu)
      rw [tkT, ← List.append_assoc]
      generalize T ++ (tg E0 s x).take j = U at F5 rU ⊢
      obtain ⟨dc, c1, c2⟩ := (QA.same s5).close
      obtain ⟨v, c3, g, cs, rfl, hg, nd, mem⟩ := c2.at_ (rT t tin).1 (rT t tin).2
      refine ⟨_, rfl, q, _, rfl, c1, _, rfl, dc, _, rfl, c3, g, rfl, ⟨_, SqL.of hg⟩, for_list (K := K) (a := g) (xs := cs.map V.int)
        (fun m σ H' => ∃ r6 : Option V, σ = [some (.ref q), some (.ref a), some (.str x), some (.ref fd), some (.int s), some (.int t), r6] ∧ Same H H' ∧ H' b = some (.lst ((tg E0 s x).map V.int)) ∧ H' g = some (.lst (cs.map V.int)) ∧ FD H' fd fun y => (∃ t ∈ U, Rch E0 [t] y) ∨ y ∈ cs.take m)
        ⟨_, rfl, s5, hb5, hg, F5.cast fun y => by simp⟩ (fun j σ H' _ ⟨_, _, _, _, z, _⟩ => SqL.of z) ?_ ?_⟩
      · rintro m v H7 H8 hv3 ⟨r6, rfl, s7, hb7, hg7, F7⟩
        rw [List.getElem?_map] at hv3
        obtain ⟨y, hy, rfl⟩ := Option.map_eq_some_iff.mp hv3
        have tkC : cs.take (m + 1) = cs.take m ++ [y] := by rw [List.take_add_one, hy, Option.toList_some]
        obtain ⟨kvs, k1, k2, k3⟩ := F7.put (n := n) (fun y hy => hy.elim (fun ⟨t, ht, r⟩ => rch_rg ok (fun z hz => by rw [List.mem_singleton.mp hz]; exact rU t ht) r) fun hy => rch_rg ok (fun z hz => by rw [List.mem_singleton.mp hz]; exact rT t tin) ((mem y).1 (List.mem_of_mem_take hy))) n60 y (.bl true)
        have kl := KL.dK k1 (.dK (putK kvs (.inl y) (.bl true)))
        refine ⟨_, rfl, _, rfl, fd, _, rfl, k2, _, rfl, sameIn s7 nf, kl.1 _ _ hb7, kl.1 _ _ hg7, k3.cast fun z => ?_⟩
        rw [tkC, List.mem_append, List.mem_singleton, or_assoc]
      · rintro σ H7 ⟨r6, rfl, s7, hb7, hg7, F7⟩
        rw [List.length_map, List.take_length] at F7
        refine ⟨_, _, rfl, s7, hb7, F7.cast fun y => ?_⟩
        rw [mem]
        constructor
        · rintro (⟨u, hu, r⟩ | r)
          · exact ⟨u, List.mem_append_left _ hu, r⟩
          · exact ⟨t, List.mem_append_right _ (by simp), r⟩
        · rintro ⟨u, hu, r⟩
          rcases List.mem_append.mp hu with z | z
          · exact .inl ⟨u, z, r⟩
          · rw [List.mem_singleton.mp z] at r
            exact .inr r
    · rintro σ H5 ⟨r5, r6, rfl, s5, hb5, F5⟩
      rw [List.length_map, List.take_length] at F5
      exact ⟨_, _, _, rfl, s5, F5⟩
  · rintro σ H2 ⟨r4, r5, r6, rfl, s2, F2⟩
    rw [List.length_map, List.take_length] at F2
    obtain ⟨kvs, ks, h1, h2, h3, h4, h5⟩ := F2
    have cl : ∀ y, y ∈ ks ↔ Rch E0 (aft E0 ss x) y := fun y => (h4 y).trans rch_one.symm
    have rg : ∀ y ∈ ks, 0 ≤ y ∧ y < n := fun y hy => rch_rg ok (aft_range ok) ((cl y).1 hy)
    have lk := few_of h3 rg
    refine ⟨_, rfl, fd, kvs, ks, rfl, .of h1, h2, by omega, fun ys p pm asc np => ?_⟩
    have s3 := same_upd np (.lst (ys.map V.int))
    refine ⟨p, _, rfl, .inl ⟨SqL.of upd_same, fun c nc => k c _ ys ((s2.trans s3).trans (same_upd nc _)) upd_same ⟨?_, fun y => by rw [pm.mem_iff, cl]⟩ (fun y hy => rg y (pm.mem_iff.1 hy)) (by rw [pm.length_eq]; omega)⟩⟩
    exact (asc.and (pm.nodup_iff.2 h3)).imp fun ⟨a, b⟩ => by omega
end
end LW

set_option Elab.async false
set_option linter.all false
set_option maxRecDepth 100000
set_option maxHeartbeats 400000
namespace LW
open PySem PySem.Spec PyProof.Rows L2 LamX NdefX VB VM VP VE VX VQ VZ
abbrev s__law_along : Stmt := top 52
theorem sc__law_along : FnScope ["q", "trace", "states", "action"] ["q", "trace"] (defScope s__law_along) := ⟨rfl, rfl, rfl, by decide +kernel, rfl, by decide +kernel, by decide +kernel⟩
abbrev s__law_shown : Stmt := top 53
theorem sc__law_shown : FnScope ["q", "states", "state"] ["q", "states"] (defScope s__law_shown) := ⟨rfl, rfl, rfl, by decide +kernel, rfl, by decide +kernel, by decide +kernel⟩
abbrev s__law_does : Stmt := top 54
theorem sc__law_does : FnScope ["q", "states", "found", "state", "action"] ["q", "states"] (defScope s__law_does) := ⟨rfl, rfl, rfl, by decide +kernel, rfl, by decide +kernel, by decide +kernel⟩
abbrev s__law_part_of : Stmt := top 55
theorem sc__law_part_of : FnScope ["small", "large", "action"] ["small", "large"] (defScope s__law_part_of) := ⟨rfl, rfl, rfl, by decide +kernel, rfl, by decide +kernel, by decide +kernel⟩
abbrev s__law_any_lost : Stmt := top 56
theorem sc__law_any_lost : FnScope ["q", "states", "state"] ["q", "states"] (defScope s__law_any_lost) := ⟨rfl, rfl, rfl, by decide +kernel, rfl, by decide +kernel, by decide +kernel⟩
abbrev s__law_hangs : Stmt := top 57
theorem sc__law_hangs : FnScope ["q", "trace", "states", "action"] ["q", "trace"] (defScope s__law_hangs) := ⟨rfl, rfl, rfl, by decide +kernel, rfl, by decide +kernel, by decide +kernel⟩
section
variable {P : Program} {w : World} {K : PySem.W.Frag} {mg : Str → Option Value} {base : Heap}
def spQAl (K : PySem.W.Frag) : Sp := fun vs H Q _ => ∃ (q a : Addr) (n : Int) (E : List Ed) (xs : List Str), vs = [.ref q, .ref a] ∧ QAt K H q n E ∧ SqT K H a (xs.map V.str) ∧
  ∀ (a : Addr) (H' : Hp) (c0 cs : List Int), Same H H' → H' a = some (.tup (cs.map V.int)) → IsClo E [0] c0 → Runs E c0 xs cs → (∀ x ∈ cs, 0 ≤ x ∧ x < n) → cs.length ≤ 60 → Q (.ref a) H'
theorem c_qal (D : Df K mg "_law_along" s__law_along) (c__law_starts : C8.Cal P w K mg base 1 "_law_starts" (spQSt K) []) (c__law_go : C8.Cal P w K mg base 1 "_law_go" (spQGo K) []) : C8.Cal P w K mg base 2 "_law_along" (spQAl K) [] := by
  refine D.cal sc__law_along (fun _ _ _ _ _ _ us hl => match us, hl with | [_, _], _ => rfl) (fun vs H Q E h => ?_) (fun f cdv A outer s0 H vs Q E hr h => ?_)
  · obtain ⟨q, a, n, E0, xs, rfl, _⟩ := h
    rfl
  obtain ⟨q, a, n, E0, xs, rfl, QA, hT, k⟩ := h
  refine ⟨_, (pss_cons (ps_set (i := 2) sc__law_along.nd rfl (Or.inl rfl) (C8.pe_c c__law_starts hr (by first | decide | omega) rfl (pa_cons (pv 0) pa_nil)))
    (pss_cons (ps_for PassesOwn.never rfl (pi_tup (pv 1)) (pg_name (i := 3) sc__law_along.nd rfl (Or.inl rfl))
      (pss_one (ps_set (i := 2) sc__law_along.nd rfl (Or.inl rfl) (C8.pe_c c__law_go hr (by first | decide | omega) rfl (pa_cons (pv 0) (pa_cons (pv 2) (pa_cons (pv 3) pa_nil)))))))
    (pss_one (ps_ret (pv 2))))), ?_⟩
  refine ⟨_, rfl, q, n, E0, rfl, QA, fun q0 H1 c0 s1 hq0 hc0 rg0 lc0 => ?_⟩
  refine ⟨_, rfl, a, rfl, ⟨_, VB.Same.sqT s1 hT⟩, for_tup (K := K) (a := a) (xs := xs.map V.str)
    (fun i σ H' => ∃ (qi : Addr) (ci : List Int) (r3 : Option V), σ = [some (.ref q), some (.ref a), some (.ref qi), r3] ∧ Same H H' ∧ H' qi = some (.tup (ci.map V.int)) ∧ Runs E0 c0 (xs.take i) ci ∧ (∀ x ∈ ci, 0 ≤ x ∧ x < n) ∧ ci.length ≤ 60)
    ⟨q0, c0, none, rfl, s1, hq0, rfl, rg0, lc0⟩ (fun i σ H' _ ⟨_, _, _, _, s, _⟩ => VB.Same.sqT s hT) ?_ ?_⟩
  · rintro i v σ H2 hv ⟨qi, ci, r3, rfl, sH, hqi, hr1, hrng, hlen⟩
    rw [List.getElem?_map] at hv
    obtain ⟨x, hx, rfl⟩ := Option.map_eq_some_iff.mp hv
    refine ⟨_, rfl, _, rfl, _, rfl, q, qi, n, E0, ci, x, rfl, QA.same sH, .inl (.inl hqi), hrng, hlen, fun qn H3 cn s3 hqn hcn rgn lcn => ?_⟩
    refine ⟨qn, cn, _, rfl, sH.trans s3, hqn, ?_, rgn, lcn⟩
    rw [List.take_add_one, hx, Option.toList_some]
    exact runs_snoc.2 ⟨ci, hr1, hcn⟩
  · rintro σ H2 ⟨qi, ci, r3, rfl, sH, hqi, hr1, hrng, hlen⟩
    rw [List.length_map, List.take_length] at hr1
    exact ⟨_, rfl, k qi H2 c0 ci sH hqi hc0 hr1 hrng hlen⟩
def spQAny (K : PySem.W.Frag) : Sp := fun vs H Q _ => ∃ (q a : Addr) (n : Int) (E : List Ed) (ss : List Int), vs = [.ref q, .ref a] ∧ QAt K H q n E ∧ SqT K H a (ss.map V.int) ∧ (∀ x ∈ ss, 0 ≤ x ∧ x < n) ∧ ss.length ≤ 60 ∧
  ∀ (b : Bool) (H' : Hp), Same H H' → (b = true ↔ ∃ s ∈ ss, ¬ Halt E s) → Q (.bl b) H'
theorem c_qany (D : Df K mg "_law_any_lost" s__law_any_lost) (z_any : mg "any" = none) : C8.Cal P w K mg base 1 "_law_any_lost" (spQAny K) [] := by
  refine D.cal sc__law_any_lost (fun _ _ _ _ _ _ us hl => match us, hl with | [_, _], _ => rfl) (fun vs H Q E h => ?_) (fun f cdv A outer s0 H vs Q E hr h => ?_)
  · obtain ⟨q, a, n, E0, ss, rfl, _⟩ := h
    rfl
  obtain ⟨q, a, n, E0, ss, rfl, QA, hT, hss, lens, k⟩ := h
  refine ⟨_, (pss_one (ps_ret (pe_callB (VKA.anyL (K := K) rfl rfl) (by rfl) z_any (by decide +kernel) (pa_cons (pe_lc (own := [("state", 2)]) (tt := tYes) rfl sc__law_any_lost.nd (pi_tup (pv 1)) (blkOk_by (N := ["q", "states", "state"]) (sc := defScope s__law_any_lost) (by decide +kernel)) (fun _ _ _ _ _ => (pg_name (i := 2) sc__law_any_lost.nd rfl (Or.inl rfl) (hf := Or.inr rfl))) (fun _ _ _ _ _ => pts_nil) (fun _ _ _ _ _ => (pe_cmpR (VK.inQ (K := K) rfl) (pv 2) (pe_dget (hu_of hr) (pv 0) pe_str (fun _ _ => rfl)) rfl))) pa_nil)))), ?_⟩
  have zl := sizeLine_eq
  refine ⟨_, rfl, a, rfl, ⟨_, hT⟩, fun D1 nD => ?_⟩
  obtain ⟨ll, cs, l1, l2, l3⟩ := QA.lost
  refine lc_tup (K := K) (a := a) (xs := ss.map V.int) (fun i H2 => Same H H2 ∧ H2 D1 = some (.lst (((ss.take i).map fun y => decide (y ∈ cs)).map V.bl)))
    ⟨same_upd nD _, upd_same⟩ (fun i H2 _ z => VB.Same.sqT z.1 hT) ?_ ?_
  · rintro i v H2 hv ⟨s2, hD⟩
    rw [List.getElem?_map] at hv
    obtain ⟨y, hy, rfl⟩ := Option.map_eq_some_iff.mp hv
    have tk : ss.take (i + 1) = ss.take i ++ [y] := by rw [List.take_add_one, hy, Option.toList_some]
    have lti := (List.getElem?_eq_some_iff.mp hy).1
    obtain ⟨l', cs', m1, m2, m3⟩ := (QA.same s2).lost
    refine ⟨rfl, ?_⟩
    unfold tYes
    refine iteT ?_
    refine ⟨_, rfl, _, rfl, q, _, rfl, m1, l', _, rfl, .inl (SqL.of m2), rfl, all_ints _, _, hD, ?_, sameIn s2 nD, ?_⟩
    · rw [List.length_map, List.length_map, List.length_take]; omega
    · rw [upd_same, tk, List.map_append, List.map_append]
      show some (HO.lst (_ ++ [V.bl (inV (.int y) (cs'.map V.int))])) = _
      rw [inV_ints, show decide (y ∈ cs') = decide (y ∈ cs) from decide_eq_decide.mpr ((m3 y).trans (l3 y).symm)] <;> rfl
  · rintro H2 ⟨s2, hD⟩
    rw [List.length_map, List.take_length] at hD
    refine ⟨D1, ss.map fun y => decide (y ∈ cs), rfl, SqL.of hD, k _ H2 s2 ?_⟩
    rw [List.any_map, List.any_eq_true]
    constructor
    · rintro ⟨s, h1, h2⟩
      exact ⟨s, h1, ((l3 s).1 (of_decide_eq_true h2)).2⟩
    · rintro ⟨s, h1, h2⟩
      exact ⟨s, h1, decide_eq_true ((l3 s).2 ⟨hss s h1, h2⟩)⟩
/-- a trace with a beginning that may go on for ever without an action -/
def HangP (E : List Ed) (xs : List Str) : Prop := ∃ (i : Nat) (c0 cs : List Int), i ≤ xs.length ∧ IsClo E [0] c0 ∧ Runs E c0 (xs.take i) cs ∧ ∃ s ∈ cs, ¬ Halt E s
def spQHa (K : PySem.W.Frag) : Sp := fun vs H Q _ => ∃ (q a : Addr) (n : Int) (E : List Ed) (xs : List Str), vs = [.ref q, .ref a] ∧ QAt K H q n E ∧ SqT K H a (xs.map V.str) ∧
  ∀ (b : Bool) (H' : Hp), Same H H' → (b = true ↔ HangP E xs) → Q (.bl b) H'
theorem c_qha (D : Df K mg "_law_hangs" s__law_hangs) (c__law_starts : C8.Cal P w K mg base 1 "_law_starts" (spQSt K) []) (c__law_go : C8.Cal P w K mg base 1 "_law_go" (spQGo K) []) (c__law_any_lost : C8.Cal P w K mg base 1 "_law_any_lost" (spQAny K) []) : C8.Cal P w K mg base 2 "_law_hangs" (spQHa K) [] := by
  refine D.cal sc__law_hangs (fun _ _ _ _ _ _ us hl => match us, hl with | [_, _], _ => rfl) (fun vs H Q E h => ?_) (fun f cdv A outer s0 H vs Q E hr h => ?_)
  · obtain ⟨q, a, n, E0, xs, rfl, _⟩ := h
    rfl
  obtain ⟨q, a, n, E0, xs, rfl, QA, hT, k⟩ := h
  refine ⟨_, (pss_cons (ps_set (i := 2) sc__law_hangs.nd rfl (Or.inl rfl) (C8.pe_c c__law_starts hr (by first | decide | omega) rfl (pa_cons (pv 0) pa_nil)))
    (pss_cons (ps_if (pt_val (C8.pe_c c__law_any_lost hr (by first | decide | omega) rfl (pa_cons (pv 0) (pa_cons (pv 2) pa_nil))))
      (pss_one (ps_ret pe_bl))
      pss_nil)
    (pss_cons (ps_for PassesOwn.never rfl (pi_tup (pv 1)) (pg_name (i := 3) sc__law_hangs.nd rfl (Or.inl rfl))
      (pss_cons (ps_set (i := 2) sc__law_hangs.nd rfl (Or.inl rfl) (C8.pe_c c__law_go hr (by first | decide | omega) rfl (pa_cons (pv 0) (pa_cons (pv 2) (pa_cons (pv 3) pa_nil)))))
      (pss_one (ps_if (pt_val (C8.pe_c c__law_any_lost hr (by first | decide | omega) rfl (pa_cons (pv 0) (pa_cons (pv 2) pa_nil))))
        (pss_one (ps_ret pe_bl))
        pss_nil))))
    (pss_one (ps_ret pe_bl))))), ?_⟩
  refine ⟨_, rfl, q, n, E0, rfl, QA, fun q0 H1 c0 s1 hq0 hc0 rg0 lc0 => ?_⟩
  refine ⟨_, rfl, _, rfl, q, q0, n, E0, c0, rfl, QA.same s1, .inl (.inl hq0), rg0, lc0, fun b H2 s2 hb => ?_⟩
  refine ⟨_, rfl, ?_⟩
  have s12 := s1.trans s2
  refine ite2b (fun e => k true H2 s12 ⟨fun _ => ⟨0, c0, c0, Nat.zero_le _, hc0, rfl, hb.1 e⟩, fun _ => rfl⟩) (fun e => ?_)
  refine ⟨_, rfl, a, rfl, ⟨_, VB.Same.sqT s12 hT⟩, for_tup (K := K) (a := a) (xs := xs.map V.str)
    (fun i σ H' => ∃ (qi : Addr) (ci : List Int) (r3 : Option V), σ = [some (.ref q), some (.ref a), some (.ref qi), r3] ∧ Same H H' ∧ H' qi = some (.tup (ci.map V.int)) ∧ Runs E0 c0 (xs.take i) ci ∧ (∀ x ∈ ci, 0 ≤ x ∧ x < n) ∧ ci.length ≤ 60 ∧ ∀ j cs, j ≤ i → Runs E0 c0 (xs.take j) cs → ¬ ∃ s ∈ cs, ¬ Halt E0 s)
    ⟨q0, c0, none, rfl, s12, s2 _ _ hq0, rfl, rg0, lc0, fun j cs hj hr1 => ?_⟩ (fun i σ H' _ ⟨_, _, _, _, s, _⟩ => VB.Same.sqT s hT) ?_ ?_⟩
  · obtain rfl : j = 0 := by omega
    rw [List.take_zero] at hr1
    rw [show cs = c0 from hr1, ← hb, e]
    decide
  · rintro i v σ H3 hv ⟨qi, ci, r3, rfl, sH, hqi, hr1, hrng, hlen, no⟩
    rw [List.getElem?_map] at hv
    obtain ⟨x, hx, rfl⟩ := Option.map_eq_some_iff.mp hv
    have lti := (List.getElem?_eq_some_iff.mp hx).1
    refine ⟨_, rfl, _, rfl, _, rfl, q, qi, n, E0, ci, x, rfl, QA.same sH, .inl (.inl hqi), hrng, hlen, fun qn H4 cn s4 hqn hcn rgn lcn => ?_⟩
    have sH4 := sH.trans s4
    have hrn : Runs E0 c0 (xs.take (i + 1)) cn := by
      rw [List.take_add_one, hx, Option.toList_some]
      exact runs_snoc.2 ⟨ci, hr1, hcn⟩
    refine ⟨_, rfl, _, rfl, q, qn, n, E0, cn, rfl, QA.same sH4, .inl (.inl hqn), rgn, lcn, fun b2 H5 s5 hb2 => ?_⟩
    refine ⟨_, rfl, ?_⟩
    have sH5 := sH4.trans s5
    refine ite2b (fun e2 => k true H5 sH5 ⟨fun _ => ⟨i + 1, c0, cn, lti, hc0, hrn, hb2.1 e2⟩, fun _ => rfl⟩) (fun e2 => ?_)
    refine ⟨qn, cn, _, rfl, sH5, s5 _ _ hqn, hrn, rgn, lcn, fun j cs hj hr2 => ?_⟩
    rcases Nat.lt_succ_iff_lt_or_eq.mp (Nat.lt_succ_of_le hj) with z | z
    · exact no j cs (by omega) hr2
    · subst z
      rw [runs_uniq hr2 hrn, ← hb2, e2]
      decide
  · rintro σ H3 ⟨qi, ci, r3, rfl, sH, hqi, hr1, hrng, hlen, no⟩
    rw [List.length_map] at no
    refine k false H3 sH ⟨fun z => (by cases z), fun ⟨i, d0, cs, hi, hd0, hr2, z⟩ => ?_⟩
    rw [hd0.uniq hc0] at hr2
    exact absurd z (no i cs hi hr2)
end
end LW

set_option Elab.async false
set_option linter.all false
set_option maxRecDepth 100000
set_option maxHeartbeats 400000
namespace LW
open PySem PySem.Spec PyProof.Rows L2 LamX NdefX VB VM VP VE VX VQ VZ
section
variable {P : Program} {w : World} {K : PySem.W.Frag} {mg : Str → Option Value} {base : Heap}
def spQSh (K : PySem.W.Frag) : Sp := fun vs H Q _ => ∃ (q b : Addr) (n : Int) (E : List Ed) (ss : List Int), vs = [.ref q, .ref b] ∧ QAt K H q n E ∧ SqT K H b (ss.map V.int) ∧ (∀ x ∈ ss, 0 ≤ x ∧ x < n) ∧ ss.length ≤ 60 ∧
  ∀ (p : Addr) (H' : Hp) (RL : List (Addr × List Str)), Same H H' → H' p = some (.lst (refs RL)) → Rows K H' RL → (RL.map (·.2)).Pairwise ltR → (∀ x, x ∈ RL.map (·.2) ↔ ∃ s ∈ ss, tg E s "tau" = [] ∧ x = srtS (acs E s)) → RL.length ≤ 60 → Q (.ref p) H'
theorem c_qsh (D : Df K mg "_law_shown" s__law_shown) (z_sorted : mg "sorted" = none) (z_len : mg "len" = none) (c__law_once : C8.Cal P w K mg base 1 "_law_once" (spOnceR K) []) : C8.Cal P w K mg base 2 "_law_shown" (spQSh K) [] := by
  refine D.cal sc__law_shown (fun _ _ _ _ _ _ us hl => match us, hl with | [_, _], _ => rfl) (fun vs H Q E h => ?_) (fun f cdv A outer s0 H vs Q E hr h => ?_)
  · obtain ⟨q, b, n, E0, ss, rfl, _⟩ := h
    rfl
  obtain ⟨q, b, n, E0, ss, rfl, QA, hT, hss, lens, k⟩ := h
  refine ⟨_, (pss_one (ps_ret (pe_callB (VD.sortedU (K := K) rfl LW.embR LW.encR hr) (by rfl) z_sorted (by decide +kernel) (pa_cons (C8.pe_c c__law_once hr (by first | decide | omega) rfl (pa_cons (pe_lc (own := [("state", 2)]) rfl sc__law_shown.nd (pi_tup (pv 1)) (blkOk_by (N := ["q", "states", "state"]) (sc := defScope s__law_shown) (by decide +kernel)) (fun _ _ _ _ _ => (pg_name (i := 2) sc__law_shown.nd rfl (Or.inl rfl) (hf := Or.inr rfl))) (fun _ _ _ _ _ => (pts_one (pt_cmpR op_eq (pe_callB (VK.lenQ (K := K) rfl) (by rfl) z_len PySem.boot_len (pa_cons (pe_dget (hu_of hr) (pe_dget (hu_of hr) (pv 0) pe_str (fun _ _ => rfl)) (pv 2) (fun _ _ => rfl)) pa_nil)) pe_int (nomark _)))) (fun _ _ _ _ _ => (pe_dget (hu_of hr) (pe_dget (hu_of hr) (pv 0) pe_str (fun _ _ => rfl)) (pv 2) (fun _ _ => rfl)))) pa_nil)) pa_nil)))), ?_⟩
  have zl := sizeLine_eq
  refine ⟨_, rfl, b, rfl, ⟨_, hT⟩, fun D1 nD => ?_⟩
  refine lc_tup (K := K) (a := b) (xs := ss.map V.int) (fun i H2 => ∃ ML : List (Addr × List Str), Same H H2 ∧ H2 D1 = some (.lst (refs ML)) ∧ Rows K H2 ML ∧ ML.map (·.2) = ((ss.take i).filter fun s => decide (tg E0 s "tau" = [])).map fun s => srtS (acs E0 s))
    ⟨[], same_upd nD _, upd_same, fun p hp => absurd hp List.not_mem_nil, by simp⟩ (fun i H2 _ ⟨_, z, _⟩ => VB.Same.sqT z hT) ?_ ?_
  · rintro i v H2 hv ⟨ML, s2, hD, hM, eM⟩
    rw [List.getElem?_map] at hv
    obtain ⟨s, hs, rfl⟩ := Option.map_eq_some_iff.mp hv
    have tk : ss.take (i + 1) = ss.take i ++ [s] := by rw [List.take_add_one, hs, Option.toList_some]
    have lM : ML.length ≤ i := by
      have z := congrArg List.length eM
      rw [List.length_map, List.length_map] at z
      rw [z]
      exact Nat.le_trans (List.length_filter_le _ _) (List.length_take_le _ _)
    have lti := (List.getElem?_eq_some_iff.mp hs).1
    have rs := hss s (List.mem_of_getElem? hs)
    obtain ⟨ds, m1, m2⟩ := (QA.same s2).silent
    obtain ⟨v, m3, g, rfl, hg⟩ := m2.at_ rs.1 rs.2
    obtain ⟨dO, o1, o2⟩ := (QA.same s2).offers
    obtain ⟨v, o3, c, rfl, hc⟩ := o2.at_ rs.1 rs.2
    refine ⟨rfl, ?_⟩
    refine ⟨_, rfl, q, _, rfl, m1, _, rfl, ds, _, rfl, m3, g, _, rfl, .inl (SqL.of hg), rfl, _, rfl, ?_⟩
    refine ite2 (fun e => ?_) (fun e => ?_)
    · have e' : tg E0 s "tau" = [] := by
        have z := of_decide_eq_true e
        injection z with z
        rw [List.length_map] at z
        exact List.eq_nil_of_length_eq_zero (by omega)
      have k5 := Kp.updL hD (.lst (refs ML ++ [.ref c]))
      refine ⟨_, rfl, q, _, rfl, o1, _, rfl, dO, _, rfl, o3, _, hD, by rw [refs_len]; omega, ML ++ [(c, srtS (acs E0 s))], sameIn s2 nD, by rw [upd_same, refs_snoc], fun y hy => ?_, ?_⟩
      · rcases List.mem_append.mp hy with z | z
        · exact (hM.kp k5) y z
        · rw [List.mem_singleton.mp z]
          exact k5.sqT hc
      · rw [List.map_append, eM, tk, List.filter_append, List.filter_cons_of_pos (by simpa using e'), List.filter_nil, List.map_append] <;> rfl
    · have e' : ¬ tg E0 s "tau" = [] := fun z => e (decide_eq_true (by rw [z] <;> rfl))
      refine ⟨ML, s2, hD, hM, ?_⟩
      rw [eM, tk, List.filter_append, List.filter_cons_of_neg (by simpa using e'), List.filter_nil, List.append_nil]
  · rintro H2 ⟨ML, s2, hD, hM, eM⟩
    rw [List.length_map, List.take_length] at eM
    have lM : ML.length ≤ 60 := by
      have z := congrArg List.length eM
      rw [List.length_map, List.length_map] at z
      rw [z]
      exact Nat.le_trans (List.length_filter_le _ _) lens
    have memM : ∀ x, x ∈ ML.map (·.2) ↔ ∃ s ∈ ss, tg E0 s "tau" = [] ∧ x = srtS (acs E0 s) := fun x => by
      rw [eM, List.mem_map]
      constructor
      · rintro ⟨s, hs, rfl⟩
        obtain ⟨h1, h2⟩ := List.mem_filter.mp hs
        exact ⟨s, h1, of_decide_eq_true h2, rfl⟩
      · rintro ⟨s, h1, h2, rfl⟩
        exact ⟨s, List.mem_filter.mpr ⟨h1, decide_eq_true h2⟩, rfl⟩
    refine ⟨D1, ML, rfl, SqL.of hD, hM, by omega, fun p hp => ?_, fun p1 L1 np1 sub1 eL1 => ?_⟩
    · obtain ⟨s, _, _, e⟩ := (memM p.2).1 (List.mem_map_of_mem hp)
      rw [e]
      exact off_ok QA.ok s
    have s3 := same_upd np1 (.lst (refs L1))
    have hR3 : Rows K (upd H2 p1 (.lst (refs L1))) L1 := fun x hx => (hM.kp (Kp.of s3)) x (sub1 x hx)
    have nd1 : (L1.map (·.2)).Nodup := by rw [eL1]; exact onceG_nodup _ _ List.nodup_nil
    have l1 : L1.length ≤ 60 := by
      have z := onceG_len (ML.map (·.2)) []
      rw [← eL1, List.length_map, List.length_map, List.length_nil] at z
      omega
    refine ⟨p1, L1, rfl, SqL.of upd_same, fun b hb => row_dp (hR3 b hb), fun d hd d' hd' => ?_, fun d hd => ?_, fun b hb => by show (rowD b.2).depth ≤ 8; rw [row_depth]; decide, fun p2 np2 => ?_⟩
    · obtain ⟨x, _, rfl⟩ := List.mem_map.mp hd
      obtain ⟨y, _, rfl⟩ := List.mem_map.mp hd'
      exact row_alike _ _
    · obtain ⟨x, _, rfl⟩ := List.mem_map.mp hd
      exact ⟨_, rfl⟩
    have s4 := same_upd np2 (.lst (refs (L1.mergeSort (PySem.W.dataLe false encR))))
    refine k p2 _ (L1.mergeSort (PySem.W.dataLe false encR)) ((s2.trans s3).trans s4) upd_same (fun x hx => (hR3.kp (Kp.of s4)) x (List.mem_mergeSort.mp hx)) (srtR (fun a b => ?_) nd1) (fun x => ?_) (by rw [List.length_mergeSort]; exact l1)
    · show (!PySem.W.dataLt (rowD b.2) (rowD a.2)) = _
      unfold ltR
      exact congrArg (fun b => !b) (Bool.eq_iff_iff.mpr decide_eq_true_iff).symm
    · rw [((List.mergeSort_perm L1 _).map _).mem_iff, eL1, onceG_mem, memM]
      simp
theorem off_acts {n : Int} {E : List Ed} (ok : ∀ e ∈ E, okE n e) {s : Int} {x : Str} (h : x ∈ srtS (acs E s)) : x ∈ acts := by
  obtain ⟨e, he, rfl⟩ := acs_mem (srtS_mem.1 h)
  exact (ok e he).2.2.2.2
def spQDo (K : PySem.W.Frag) : Sp := fun vs H Q _ => ∃ (q b : Addr) (n : Int) (E : List Ed) (ss : List Int), vs = [.ref q, .ref b] ∧ QAt K H q n E ∧ SqT K H b (ss.map V.int) ∧ (∀ x ∈ ss, 0 ≤ x ∧ x < n) ∧ ss.length ≤ 60 ∧
  ∀ (p : Addr) (H' : Hp) (ys : List Str), Same H H' → H' p = some (.lst (ys.map V.str)) → (∀ x ∈ ys, x ∈ acts) → ys.length ≤ 10 → Q (.ref p) H'
theorem c_qdo (D : Df K mg "_law_does" s__law_does) (z_sorted : mg "sorted" = none) : C8.Cal P w K mg base 1 "_law_does" (spQDo K) [] := by
  refine D.cal sc__law_does (fun _ _ _ _ _ _ us hl => match us, hl with | [_, _], _ => rfl) (fun vs H Q E h => ?_) (fun f cdv A outer s0 H vs Q E hr h => ?_)
  · obtain ⟨q, b, n, E0, ss, rfl, _⟩ := h
    rfl
  obtain ⟨q, b, n, E0, ss, rfl, QA, hT, hss, lens, k⟩ := h
  refine ⟨_, (pss_cons (ps_set (i := 2) sc__law_does.nd rfl (Or.inr rfl) (pe_lst pa_nil))
    (pss_cons (ps_for PassesOwn.never rfl (pi_tup (pv 1)) (pg_name (i := 3) sc__law_does.nd rfl (Or.inl rfl))
      (pss_one (ps_set (i := 2) sc__law_does.nd rfl (Or.inr rfl) (pe_op op_cat (pv 2) (pe_lc (own := [("action", 4)]) rfl sc__law_does.nd (pi_tup (pe_dget (hu_of hr) (pe_dget (hu_of hr) (pv 0) pe_str (fun _ _ => rfl)) (pv 3) (fun _ _ => rfl))) (blkOk_by (N := ["q", "states", "found", "state", "action"]) (sc := defScope s__law_does) (by decide +kernel)) (fun _ _ _ _ _ => (pg_name (i := 4) sc__law_does.nd rfl (Or.inl rfl) (hf := Or.inr rfl))) (fun _ _ _ _ _ => (pts_one (pt_cmpR (VK.notInQ (K := K) rfl) (pv 4) (pv 2) rfl))) (fun _ _ _ _ _ => (pv 4)))))))
    (pss_one (ps_ret (pe_callB (VK.sortedS (K := K) rfl hr) (by rfl) z_sorted (by decide +kernel) (pa_cons (pv 2) pa_nil)))))), ?_⟩
  have zl := sizeLine_eq
  have ten : ∀ l : List Str, l.Nodup → (∀ x ∈ l, x ∈ acts) → l.length ≤ 10 := fun l nd h => Nat.le_trans (nd_le l acts nd h) (by decide)
  refine ⟨Nat.zero_le _, fun f0 nf0 => ?_⟩
  have s1 := same_upd nf0 (.lst [])
  refine ⟨_, rfl, b, rfl, ⟨_, VB.Same.sqT s1 hT⟩, for_tup (K := K) (a := b) (xs := ss.map V.int)
    (fun i σ H' => ∃ (fq : Addr) (fl : List Str) (r3 r4 : Option V), σ = [some (.ref q), some (.ref b), some (.ref fq), r3, r4] ∧ Same H H' ∧ H' fq = some (.lst (fl.map V.str)) ∧ fl.Nodup ∧ ∀ x ∈ fl, x ∈ acts)
    ⟨f0, [], none, none, rfl, s1, upd_same, List.nodup_nil, fun x hx => absurd hx List.not_mem_nil⟩ (fun i σ H' _ ⟨_, _, _, _, _, s, _⟩ => VB.Same.sqT s hT) ?_ ?_⟩
  · rintro i v σ H2 hv ⟨fq, fl, r3, r4, rfl, s2, hf2, nd, sub⟩
    rw [List.getElem?_map] at hv
    obtain ⟨s, hs, rfl⟩ := Option.map_eq_some_iff.mp hv
    have rs := hss s (List.mem_of_getElem? hs)
    have lf := ten fl nd sub
    obtain ⟨dO, o1, o2⟩ := (QA.same s2).offers
    obtain ⟨v, o3, c, rfl, hc⟩ := o2.at_ rs.1 rs.2
    have ndo := srtS_ndq (acs E0 s)
    have sbo : ∀ x ∈ srtS (acs E0 s), x ∈ acts := fun x hx => off_acts QA.ok hx
    have lo := ten _ ndo sbo
    generalize srtS (acs E0 s) = os at hc ndo sbo lo
    refine ⟨_, rfl, _, rfl, q, _, rfl, o1, _, rfl, dO, _, rfl, o3, c, rfl, ⟨_, hc⟩, fun D1 nD => ?_⟩
    refine lc_tup (K := K) (a := c) (xs := os.map V.str) (fun j H3 => Same H2 H3 ∧ H3 D1 = some (.lst (((os.take j).filter fun x => decide (¬ x ∈ fl)).map V.str))) ⟨same_upd nD _, upd_same⟩ (fun j H3 _ z => VB.Same.sqT z.1 hc) ?_ ?_
    · rintro j v H3 hv2 ⟨s3, hD⟩
      rw [List.getElem?_map] at hv2
      obtain ⟨y, hy, rfl⟩ := Option.map_eq_some_iff.mp hv2
      have tk : os.take (j + 1) = os.take j ++ [y] := by rw [List.take_add_one, hy, Option.toList_some]
      have ltj := (List.getElem?_eq_some_iff.mp hy).1
      refine ⟨rfl, ?_⟩
      refine ⟨_, rfl, _, rfl, fq, _, rfl, .inl (SqL.of (s3 _ _ hf2)), rfl, all_strs _, _, rfl, ?_⟩
      rw [inV_strs]
      refine iteMem (p := y ∈ fl) (fun h => ?_) (fun h => ?_)
      · refine ⟨s3, ?_⟩
        rw [hD, tk, List.filter_append, List.filter_cons_of_neg (by simpa using h), List.filter_nil, List.append_nil]
      · refine ⟨_, rfl, _, hD, ?_, sameIn s3 nD, ?_⟩
        · rw [List.length_map]
          have z := List.length_filter_le (fun x => decide (¬ x ∈ fl)) (os.take j)
          have z2 := List.length_take_le j os
          omega
        · rw [upd_same, tk, List.filter_append, List.filter_cons_of_pos (by simpa using h), List.filter_nil, List.map_append] <;> rfl
    · rintro H3 ⟨s3, hD⟩
      rw [List.length_map, List.take_length] at hD
      have lfo := List.length_filter_le (fun x => decide (¬ x ∈ fl)) os
      refine ⟨fq, D1, _, _, rfl, rfl, s3 _ _ hf2, hD, by rw [List.length_map, List.length_map]; omega, fun g ng => ?_⟩
      refine ⟨g, fl ++ os.filter fun x => decide (¬ x ∈ fl), _, _, rfl, (s2.trans s3).trans (same_upd ng _), by rw [upd_same, List.map_append], ?_, fun x hx => ?_⟩
      · rw [List.nodup_append]
        refine ⟨nd, List.Nodup.sublist List.filter_sublist ndo, fun a ha b hb e => ?_⟩
        have z := of_decide_eq_true (List.mem_filter.mp hb).2
        exact z (by rw [← e]; exact ha)
      · rcases List.mem_append.mp hx with z | z
        · exact sub x z
        · exact sbo x (List.mem_filter.mp z).1
  · rintro σ H2 ⟨fq, fl, r3, r4, rfl, s2, hf2, nd, sub⟩
    refine ⟨_, rfl, fq, fl, rfl, SqL.of hf2, fun p np => k p _ (fl.mergeSort VS.leS) (s2.trans (same_upd np _)) upd_same (fun x hx => sub x (List.mem_mergeSort.mp hx)) (by rw [List.length_mergeSort]; exact ten fl nd sub)⟩
def spPart (K : PySem.W.Frag) : Sp := fun vs H Q _ => ∃ (a b : Addr) (xs ys : List Str), vs = [.ref a, .ref b] ∧ SqT K H a (xs.map V.str) ∧ SqT K H b (ys.map V.str) ∧ xs.length ≤ 1000 ∧
  ∀ H', Same H H' → Q (.bl (decide (∀ x ∈ xs, x ∈ ys))) H'
theorem c_part (D : Df K mg "_law_part_of" s__law_part_of) (z_all : mg "all" = none) : C8.Cal P w K mg base 1 "_law_part_of" (spPart K) [] := by
  refine D.cal sc__law_part_of (fun _ _ _ _ _ _ us hl => match us, hl with | [_, _], _ => rfl) (fun vs H Q E h => ?_) (fun f cdv A outer s0 H vs Q E hr h => ?_)
  · obtain ⟨a, b, xs, ys, rfl, _⟩ := h
    rfl
  obtain ⟨a, b, xs, ys, rfl, hA, hB, len, k⟩ := h
  refine ⟨_, (pss_one (ps_ret (pe_callB (VK.allL (K := K) rfl rfl) (by rfl) z_all (by decide +kernel) (pa_cons (pe_lc (own := [("action", 2)]) (tt := tYes) rfl sc__law_part_of.nd (pi_tup (pv 0)) (blkOk_by (N := ["small", "large", "action"]) (sc := defScope s__law_part_of) (by decide +kernel)) (fun _ _ _ _ _ => (pg_name (i := 2) sc__law_part_of.nd rfl (Or.inl rfl) (hf := Or.inr rfl))) (fun _ _ _ _ _ => pts_nil) (fun _ _ _ _ _ => (pe_cmpR (VK.inQ (K := K) rfl) (pv 2) (pv 1) rfl))) pa_nil)))), ?_⟩
  have zl := sizeLine_eq
  refine ⟨_, rfl, a, rfl, ⟨_, hA⟩, fun D1 nD => ?_⟩
  refine lc_tup (K := K) (a := a) (xs := xs.map V.str) (fun i H2 => Same H H2 ∧ H2 D1 = some (.lst (((xs.take i).map fun y => decide (y ∈ ys)).map V.bl)))
    ⟨same_upd nD _, upd_same⟩ (fun i H2 _ z => VB.Same.sqT z.1 hA) ?_ ?_
  · rintro i v H2 hv ⟨s2, hD⟩
    rw [List.getElem?_map] at hv
    obtain ⟨y, hy, rfl⟩ := Option.map_eq_some_iff.mp hv
    have tk : xs.take (i + 1) = xs.take i ++ [y] := by rw [List.take_add_one, hy, Option.toList_some]
    have lti := (List.getElem?_eq_some_iff.mp hy).1
    refine ⟨rfl, ?_⟩
    unfold tYes
    refine iteT ?_
    refine ⟨_, rfl, _, rfl, b, _, rfl, .inr (VB.Same.sqT s2 hB), rfl, all_strs _, _, hD, ?_, sameIn s2 nD, ?_⟩
    · rw [List.length_map, List.length_map, List.length_take]; omega
    · rw [upd_same, tk, List.map_append, List.map_append]
      show some (HO.lst (_ ++ [V.bl (inV (.str y) (ys.map V.str))])) = _
      rw [inV_strs] <;> rfl
  · rintro H2 ⟨s2, hD⟩
    rw [List.length_map, List.take_length] at hD
    refine ⟨D1, xs.map fun y => decide (y ∈ ys), rfl, SqL.of hD, ?_⟩
    rw [show (xs.map fun y => decide (y ∈ ys)).all id = decide (∀ x ∈ xs, x ∈ ys) by rw [List.all_map, Bool.eq_iff_iff, List.all_eq_true, decide_eq_true_eq]; exact forall_congr' fun x => forall_congr' fun _ => by simp]
    exact k H2 s2
end
end LW

set_option Elab.async false
set_option linter.all false
set_option maxRecDepth 100000
set_option maxHeartbeats 400000
namespace LW
open PySem PySem.Spec PyProof.Rows L2 LamX NdefX VB VM VP VE VX VQ VZ
abbrev s__law_has : Stmt := top 58
theorem sc__law_has : FnScope ["q", "behaviour", "states"] ["q", "behaviour"] (defScope s__law_has) := ⟨rfl, rfl, rfl, by decide +kernel, rfl, by decide +kernel, by decide +kernel⟩
abbrev s__law_allows : Stmt := top 59
theorem sc__law_allows : FnScope ["q", "behaviour", "model", "own"] ["q", "behaviour", "model"] (defScope s__law_allows) := ⟨rfl, rfl, rfl, by decide +kernel, rfl, by decide +kernel, by decide +kernel⟩
abbrev s__law_looks : Stmt := top 60
theorem sc__law_looks : FnScope ["model", "kind"] ["model", "kind"] (defScope s__law_looks) := ⟨rfl, rfl, rfl, by decide +kernel, rfl, by decide +kernel, by decide +kernel⟩
/-- whether a behaviour is allowed -/
def AllowP (E : List Ed) (xs : List Str) (k : Nat) (os : List Str) (md : Str) : Prop :=
  (md = ("divergences" : Str) ∧ HangP E xs) ∨ (k = 0 ∧ ∃ c0 cs, IsClo E [0] c0 ∧ Runs E c0 xs cs ∧ cs ≠ []) ∨ (k = 2 ∧ ∃ c0 cs, IsClo E [0] c0 ∧ Runs E c0 xs cs ∧ ∃ s ∈ cs, tg E s ("tau" : Str) = [] ∧ ∀ x ∈ srtS (acs E s), x ∈ os)
def kdN (k : Nat) : Str := match k with
  | 0 => "trace"
  | 1 => "divergence"
  | _ => "failure"
theorem BhS.at_ {K : PySem.W.Frag} {H : Hp} {b t : Addr} {k : Nat} {os : List Str} (h : BhS K H b t k os) : ∃ ys, SqT K H b ys ∧ atI ys 0 = some (.str (kdN k)) ∧ atI ys 1 = some (.ref t) := by
  rcases h with ⟨rfl, h⟩ | ⟨rfl, h⟩ | ⟨rfl, o, h, _⟩
  · exact ⟨_, h, rfl, rfl⟩
  · exact ⟨_, h, rfl, rfl⟩
  · exact ⟨_, h, rfl, rfl⟩
theorem BhS.same {K : PySem.W.Frag} {H H' : Hp} {b t : Addr} {k : Nat} {os : List Str} (h : BhS K H b t k os) (s : Same H H') : BhS K H' b t k os := by
  rcases h with ⟨e, h⟩ | ⟨e, h⟩ | ⟨e, o, h, g⟩
  · exact .inl ⟨e, VB.Same.sqT s h⟩
  · exact .inr (.inl ⟨e, VB.Same.sqT s h⟩)
  · exact .inr (.inr ⟨e, o, VB.Same.sqT s h, VB.Same.sqT s g⟩)
theorem decS {a b : Str} : decide (V.str a = V.str b) = decide (a = b) := decide_eq_decide.mpr ⟨fun z => by injection z, fun z => by rw [z]⟩
section
variable {P : Program} {w : World} {K : PySem.W.Frag} {mg : Str → Option Value} {base : Heap}
def spQHas (K : PySem.W.Frag) : Sp := fun vs H Q _ => ∃ (q b t : Addr) (n : Int) (E : List Ed) (xs os : List Str) (k : Nat), vs = [.ref q, .ref b] ∧ QAt K H q n E ∧ SqT K H t (xs.map V.str) ∧ BhS K H b t k os ∧ OkR os ∧
  ∀ (r : Bool) (H' : Hp) (c0 cs : List Int), Same H H' → IsClo E [0] c0 → Runs E c0 xs cs → (r = true ↔ BehP E cs k os) → Q (.bl r) H'
theorem c_qhas (D : Df K mg "_law_has" s__law_has) (z_len : mg "len" = none) (c__law_along : C8.Cal P w K mg base 2 "_law_along" (spQAl K) []) (c__law_any_lost : C8.Cal P w K mg base 1 "_law_any_lost" (spQAny K) []) (c__law_shown : C8.Cal P w K mg base 2 "_law_shown" (spQSh K) []) :
    C8.Cal P w K mg base 3 "_law_has" (spQHas K) [] := by
  refine D.cal sc__law_has (fun _ _ _ _ _ _ us hl => match us, hl with | [_, _], _ => rfl) (fun vs H Q E h => ?_) (fun f cdv A outer s0 H vs Q E hr h => ?_)
  · obtain ⟨q, b, t, n, E0, xs, os, k, rfl, _⟩ := h
    rfl
  obtain ⟨q, b, t, n, E0, xs, os, k, rfl, QA, hT, hb, oko, kk⟩ := h
  refine ⟨_, (pss_cons (ps_set (i := 2) sc__law_has.nd rfl (Or.inl rfl) (C8.pe_c c__law_along hr (by first | decide | omega) rfl (pa_cons (pv 0) (pa_cons (pe_ix (VK.ixT (K := K) rfl) (pv 1) pe_int (fun _ _ => rfl)) pa_nil))))
    (pss_cons (ps_if (pt_cmpR op_eq (pe_ix (VK.ixT (K := K) rfl) (pv 1) pe_int (fun _ _ => rfl)) pe_str (nomark _))
      (pss_one (ps_ret (pe_cmpR op_gt (pe_callB (VK.lenQ (K := K) rfl) (by rfl) z_len PySem.boot_len (pa_cons (pv 2) pa_nil)) pe_int (nomark _))))
      pss_nil)
    (pss_cons (ps_if (pt_cmpR op_eq (pe_ix (VK.ixT (K := K) rfl) (pv 1) pe_int (fun _ _ => rfl)) pe_str (nomark _))
      (pss_one (ps_ret (C8.pe_c c__law_any_lost hr (by first | decide | omega) rfl (pa_cons (pv 0) (pa_cons (pv 2) pa_nil)))))
      pss_nil)
    (pss_one (ps_ret (pe_cmpR (VP.inD (K := K) rfl (VP.un65 hr)) (pe_ix (VK.ixT (K := K) rfl) (pv 1) pe_int (fun _ _ => rfl)) (C8.pe_c c__law_shown hr (by first | decide | omega) rfl (pa_cons (pv 0) (pa_cons (pv 2) pa_nil))) rfl)))))), ?_⟩
  rcases hb with ⟨rfl, hb⟩ | ⟨rfl, hb⟩ | ⟨rfl, o, hb, ho⟩
  · refine ⟨_, rfl, _, rfl, b, _, _, _, rfl, rfl, hb, rfl, q, t, n, E0, xs, rfl, QA, hT, fun a H1 c0 cs s1 ha hc0 hr1 rg lc => ?_⟩
    refine ⟨_, rfl, b, _, _, _, rfl, rfl, VB.Same.sqT s1 hb, rfl, rfl, _, rfl, iteT ?_⟩
    refine ⟨_, rfl, a, _, rfl, .inr (.inl (.inl ha)), _, _, rfl, rfl, kk _ H1 c0 cs s1 hc0 hr1 ?_⟩
    rw [decide_eq_true_eq, List.length_map]
    show (0 : Int) < _ ↔ cs ≠ []
    rw [← List.length_pos_iff]
    omega
  · refine ⟨_, rfl, _, rfl, b, _, _, _, rfl, rfl, hb, rfl, q, t, n, E0, xs, rfl, QA, hT, fun a H1 c0 cs s1 ha hc0 hr1 rg lc => ?_⟩
    refine ⟨_, rfl, b, _, _, _, rfl, rfl, VB.Same.sqT s1 hb, rfl, rfl, _, rfl, iteF ?_⟩
    refine ⟨_, rfl, b, _, _, _, rfl, rfl, VB.Same.sqT s1 hb, rfl, rfl, _, rfl, iteT ?_⟩
    exact ⟨_, rfl, _, rfl, q, a, n, E0, cs, rfl, QA.same s1, .inl (.inl ha), rg, lc, fun r H2 s2 hr2 => kk r H2 c0 cs (s1.trans s2) hc0 hr1 hr2⟩
  · refine ⟨_, rfl, _, rfl, b, _, _, _, rfl, rfl, hb, rfl, q, t, n, E0, xs, rfl, QA, hT, fun a H1 c0 cs s1 ha hc0 hr1 rg lc => ?_⟩
    have hb1 := VB.Same.sqT s1 hb
    refine ⟨_, rfl, b, _, _, _, rfl, rfl, hb1, rfl, rfl, _, rfl, iteF ?_⟩
    refine ⟨_, rfl, b, _, _, _, rfl, rfl, hb1, rfl, rfl, _, rfl, iteF ?_⟩
    refine ⟨_, rfl, b, _, _, _, rfl, rfl, hb1, rfl, _, rfl, _, rfl, q, a, n, E0, cs, rfl, QA.same s1, .inl (.inl ha), rg, lc, fun p H2 RL s2 hp hR asc mem lR => ?_⟩
    refine ⟨_, _, row_dp (VB.Same.sqT (s1.trans s2) ho), rows_dp hp hR, row_shaped oko, rows_shaped (fun a ha => ?_), ?_⟩
    · obtain ⟨s, _, _, rfl⟩ := (mem a).1 ha
      exact off_ok QA.ok s
    · rw [any_row]
      refine kk _ H2 c0 cs (s1.trans s2) hc0 hr1 ?_
      rw [decide_eq_true_eq, mem]
      rfl
def spQAll (K : PySem.W.Frag) : Sp := fun vs H Q _ => ∃ (q b t : Addr) (n : Int) (E : List Ed) (xs os : List Str) (k : Nat) (md : Str), vs = [.ref q, .ref b, .str md] ∧ QAt K H q n E ∧ SqT K H t (xs.map V.str) ∧ BhS K H b t k os ∧ OkR os ∧
  ∀ (r : Bool) (H' : Hp), Same H H' → (r = true ↔ AllowP E xs k os md) → Q (.bl r) H'
theorem c_qall (D : Df K mg "_law_allows" s__law_allows) (z_any : mg "any" = none) (c__law_hangs : C8.Cal P w K mg base 2 "_law_hangs" (spQHa K) []) (c__law_has : C8.Cal P w K mg base 3 "_law_has" (spQHas K) []) (c__law_along : C8.Cal P w K mg base 2 "_law_along" (spQAl K) [])
    (c__law_shown : C8.Cal P w K mg base 2 "_law_shown" (spQSh K) []) (c__law_part_of : C8.Cal P w K mg base 1 "_law_part_of" (spPart K) []) : C8.Cal P w K mg base 4 "_law_allows" (spQAll K) [] := by
  refine D.cal sc__law_allows (fun _ _ _ _ _ _ us hl => match us, hl with | [_, _, _], _ => rfl) (fun vs H Q E h => ?_) (fun f cdv A outer s0 H vs Q E hr h => ?_)
  · obtain ⟨q, b, t, n, E0, xs, os, k, md, rfl, _⟩ := h
    rfl
  obtain ⟨q, b, t, n, E0, xs, os, k, md, rfl, QA, hT, hb, oko, kk⟩ := h
  refine ⟨_, (pss_cons (ps_if (PW.pt (pw_and (pt_cmpR op_eq (pv 2) pe_str (nomark _)) (pw_and1 (pt_val (C8.pe_c c__law_hangs hr (by first | decide | omega) rfl (pa_cons (pv 0) (pa_cons (pe_ix (VK.ixT (K := K) rfl) (pv 1) pe_int (fun _ _ => rfl)) pa_nil)))))))
      (pss_one (ps_ret pe_bl))
      pss_nil)
    (pss_cons (ps_if (pt_cmpR op_eq (pe_ix (VK.ixT (K := K) rfl) (pv 1) pe_int (fun _ _ => rfl)) pe_str (nomark _))
      (pss_one (ps_ret (C8.pe_c c__law_has hr (by first | decide | omega) rfl (pa_cons (pv 0) (pa_cons (pv 1) pa_nil)))))
      pss_nil)
    (pss_cons (ps_if (pt_cmpR op_eq (pe_ix (VK.ixT (K := K) rfl) (pv 1) pe_int (fun _ _ => rfl)) pe_str (nomark _))
      (pss_one (ps_ret pe_bl))
      pss_nil)
    (pss_one (ps_ret (pe_callB (VKA.anyL (K := K) rfl rfl) (by rfl) z_any (by decide +kernel) (pa_cons (pe_lc (own := [("own", 3)]) (tt := tYes) rfl sc__law_allows.nd (pi_list (C8.pe_c c__law_shown hr (by first | decide | omega) rfl (pa_cons (pv 0) (pa_cons (C8.pe_c c__law_along hr (by first | decide | omega) rfl (pa_cons (pv 0) (pa_cons (pe_ix (VK.ixT (K := K) rfl) (pv 1) pe_int (fun _ _ => rfl)) pa_nil))) pa_nil)))) (blkOk_by (N := ["q", "behaviour", "model", "own"]) (sc := defScope s__law_allows) (by decide +kernel)) (fun _ _ _ _ _ => (pg_name (i := 3) sc__law_allows.nd rfl (Or.inl rfl) (hf := Or.inr rfl))) (fun _ _ _ _ _ => pts_nil) (fun _ _ _ _ _ => (C8.pe_c c__law_part_of hr (by first | decide | omega) rfl (pa_cons (pv 3) (pa_cons (pe_ix (VK.ixT (K := K) rfl) (pv 1) pe_int (fun _ _ => rfl)) pa_nil))))) pa_nil))))))), ?_⟩
  have zl := sizeLine_eq
  obtain ⟨ys, hY, y0, y1⟩ := hb.at_
  refine VJ.ifJ (fun c H' => Same H H' ∧ (c = true ↔ md = ("divergences" : Str) ∧ HangP E0 xs)) (fun Q' fin => ?_) fun c H1 ⟨s1, hc⟩ => ?_
  · refine ⟨_, rfl, rfl, _, rfl, ?_⟩
    rw [decS]
    refine ite2 (fun e => ?_) (fun e => ?_)
    · have e' := of_decide_eq_true e
      exact ⟨_, rfl, _, rfl, b, _, _, _, rfl, rfl, hY, y1, q, t, n, E0, xs, rfl, QA, hT, fun r H1 s1 hr1 => ⟨_, rfl, fin r H1 ⟨s1, hr1.trans ⟨fun z => ⟨e', z⟩, fun z => z.2⟩⟩⟩⟩
    · exact fin false H ⟨Same.refl H, ⟨fun z => (by cases z), fun z => absurd (decide_eq_true z.1) e⟩⟩
  refine ite2b (fun e => kk true H1 s1 ⟨fun _ => .inl (hc.1 e), fun _ => rfl⟩) (fun e => ?_)
  have nh : ¬ (md = ("divergences" : Str) ∧ HangP E0 xs) := fun z => by
    have := hc.2 z
    rw [e] at this
    cases this
  clear hc e
  have hb1 := hb.same s1
  clear y0 y1 hY
  rcases hb1 with ⟨rfl, hb2⟩ | ⟨rfl, hb2⟩ | ⟨rfl, o, hb2, ho⟩
  · refine ⟨_, rfl, b, _, _, _, rfl, rfl, hb2, rfl, rfl, _, rfl, iteT ?_⟩
    refine ⟨_, rfl, _, rfl, q, b, t, n, E0, xs, os, 0, rfl, QA.same s1, VB.Same.sqT s1 hT, hb.same s1, oko, fun r H2 c0 cs s2 hc0 hr1 hr2 => kk r H2 (s1.trans s2) (hr2.trans ⟨fun z => .inr (.inl ⟨rfl, c0, cs, hc0, hr1, z⟩), fun z => ?_⟩)⟩
    rcases z with z | ⟨_, d0, ds, hd0, hr3, z⟩ | z
    · exact absurd z nh
    · rw [hd0.uniq hc0] at hr3
      rw [runs_uniq hr3 hr1] at z
      exact z
    · exact absurd z.1 (by decide)
  · refine ⟨_, rfl, b, _, _, _, rfl, rfl, hb2, rfl, rfl, _, rfl, iteF ?_⟩
    refine ⟨_, rfl, b, _, _, _, rfl, rfl, hb2, rfl, rfl, _, rfl, iteT ?_⟩
    refine kk false H1 s1 ⟨fun z => (by cases z), fun z => ?_⟩
    rcases z with z | z | z
    · exact absurd z nh
    · exact absurd z.1 (by decide)
    · exact absurd z.1 (by decide)
  · refine ⟨_, rfl, b, _, _, _, rfl, rfl, hb2, rfl, rfl, _, rfl, iteF ?_⟩
    refine ⟨_, rfl, b, _, _, _, rfl, rfl, hb2, rfl, rfl, _, rfl, iteF ?_⟩
    refine ⟨_, rfl, _, rfl, _, rfl, b, _, _, _, rfl, rfl, hb2, rfl, q, t, n, E0, xs, rfl, QA.same s1, VB.Same.sqT s1 hT, fun a H2 c0 cs s2 ha hc0 hr1 rg lc => ?_⟩
    have s12 := s1.trans s2
    refine ⟨q, a, n, E0, cs, rfl, QA.same s12, .inl (.inl ha), rg, lc, fun p H3 RL s3 hp hR asc mem lR => ?_⟩
    have s13 := s12.trans s3
    refine ⟨p, rfl, ⟨_, SqL.of hp⟩, fun D1 nD => ?_⟩
    refine lc_list (K := K) (a := p) (xs := refs RL) (fun i H4 => Same H3 H4 ∧ H4 D1 = some (.lst ((((RL.map (·.2)).take i).map fun r => decide (∀ x ∈ r, x ∈ os)).map V.bl))) ⟨same_upd nD _, upd_same⟩ (fun i H4 _ z => z.1.seq (SqL.of hp)) ?_ ?_
    · rintro i v H4 hv ⟨s4, hD⟩
      obtain ⟨r, hr2, rfl⟩ := refs_at hv
      have rin := List.mem_of_getElem? hr2
      have lti := (List.getElem?_eq_some_iff.mp hr2).1
      have tk : (RL.map (·.2)).take (i + 1) = (RL.map (·.2)).take i ++ [r.2] := by rw [List.take_succ, List.getElem?_map, hr2] <;> rfl
      have lr : r.2.length ≤ 1000 := by
        obtain ⟨s, _, _, e⟩ := (mem r.2).1 (List.mem_map_of_mem rin)
        rw [e]
        exact Nat.le_trans (srtAcs_len _ _) QA.len
      refine ⟨rfl, ?_⟩
      unfold tYes
      refine iteT ?_
      refine ⟨_, rfl, _, rfl, b, _, _, _, rfl, rfl, VB.Same.sqT ((s2.trans s3).trans s4) hb2, rfl, r.1, o, r.2, os, rfl, VB.Same.sqT s4 (hR r rin), VB.Same.sqT ((s2.trans s3).trans s4) ho, lr, fun H5 s5 => ?_⟩
      refine ⟨_, s5 _ _ hD, ?_, sameIn (s4.trans s5) nD, ?_⟩
      · rw [List.length_map, List.length_map, List.length_take, List.length_map]; omega
      · rw [upd_same, tk, List.map_append, List.map_append] <;> rfl
    · rintro H4 ⟨s4, hD⟩
      rw [refs_len, List.take_of_length_le (by rw [List.length_map]; exact Nat.le_refl _)] at hD
      refine ⟨D1, _, rfl, SqL.of hD, kk _ H4 (s13.trans s4) ?_⟩
      rw [List.any_map, List.any_eq_true]
      constructor
      · rintro ⟨r, hr2, h2⟩
        obtain ⟨s, h3, h4, rfl⟩ := (mem r).1 hr2
        exact .inr (.inr ⟨rfl, c0, cs, hc0, hr1, s, h3, h4, of_decide_eq_true h2⟩)
      · rintro (z | z | ⟨_, d0, ds, hd0, hr3, s, h3, h4, h5⟩)
        · exact absurd z nh
        · exact absurd z.1 (by decide)
        · rw [hd0.uniq hc0] at hr3
          rw [runs_uniq hr3 hr1] at h3
          exact ⟨_, (mem _).2 ⟨s, h3, h4, rfl⟩, decide_eq_true h5⟩
def looksB (md kd : Str) : Bool := if md = ("traces" : Str) then decide (kd = ("trace" : Str)) else (decide (md = ("divergences" : Str)) || !decide (kd = ("divergence" : Str)))
def spLooks : Sp := fun vs H Q _ => ∃ (md kd : Str), vs = [.str md, .str kd] ∧ Q (.bl (looksB md kd)) H
theorem c_looks (D : Df K mg "_law_looks" s__law_looks) : C8.Cal P w K mg base 1 "_law_looks" spLooks [] := by
  refine D.cal sc__law_looks (fun _ _ _ _ _ _ us hl => match us, hl with | [_, _], _ => rfl) (fun vs H Q E h => ?_) (fun f cdv A outer s0 H vs Q E hr h => ?_)
  · obtain ⟨md, kd, rfl, _⟩ := h
    rfl
  obtain ⟨md, kd, rfl, q⟩ := h
  refine ⟨_, (pss_cons (ps_if (pt_cmpR op_eq (pv 0) pe_str (nomark _))
      (pss_one (ps_ret (pe_cmpR op_eq (pv 1) pe_str (nomark _))))
      pss_nil)
    (pss_one (ps_ret (pe_or (pe_cmpR op_eq (pv 0) pe_str (nomark _)) (pe_one (pe_cmpR op_ne (pv 1) pe_str (nomark _))))))), ?_⟩
  unfold looksB at q
  refine ⟨_, rfl, rfl, _, rfl, ?_⟩
  refine ite2 (fun c => ?_) (fun c => ?_)
  · have e : md = ("traces" : Str) := by
      have z := of_decide_eq_true c
      injection z
    rw [if_pos e, ← decS] at q
    exact ⟨_, rfl, rfl, q⟩
  · have e : ¬ md = ("traces" : Str) := fun z => c (decide_eq_true (by rw [z]))
    rw [if_neg e] at q
    refine ⟨_, rfl, rfl, _, rfl, ?_⟩
    rw [decS]
    refine ite2b (fun e2 => ?_) (fun e2 => ?_)
    · rw [e2] at q
      exact q
    · rw [e2, Bool.false_or, ← decS] at q
      exact ⟨_, rfl, rfl, q⟩
end
end LW

set_option Elab.async false
set_option linter.all false
set_option maxRecDepth 100000
set_option maxHeartbeats 400000
namespace VL
open PySem PySem.Spec PyProof.Rows L2 LamX NdefX VB VM VI
/-! enumerate of a list, from a start -/
/-- pairs of a number and an item of the list at a, the numbers from c on -/
def Itm (K : PySem.W.Frag) (c : Int) (a : Addr) : It where
  go := fun i H => ∃ (xs : List V) (x : V), SqL K H a xs ∧ xs[i]? = some x
  yld := fun i H v H' => ∃ T x, v = .ref T ∧ H T = none ∧ H' = upd H T (.tup [.int (c + (i : Nat)), x]) ∧ ∀ xs, SqL K H a xs → xs[i]? = some x
  stop := fun i H => ∃ xs : List V, SqL K H a xs ∧ xs.length ≤ i
theorem turnM {P : Program} {w : World} {K : PySem.W.Frag} {elts : List Expr} {kk : Nat} {tpos : Pos} (c : Int) {a e it : Addr} (eit : e ≠ it) (ea : e ≠ a) (ait : a ≠ it) :
    Turn P w K (.Tuple elts kk tpos) (Itm K c a) [e, it] e (fun i h => (∃ old, IsEnum h e it (c + ((i : Nat) : Int)) old) ∧ h.IsListIter it a i) where
  mem := List.mem_cons_self
  obj := fun i h ⟨⟨old, he⟩, o, ho, oc, od⟩ b hb => by
    rcases List.mem_cons.mp hb with z | z
    · exact ⟨_, z ▸ he, fun v q => by cases q⟩
    · exact ⟨o, List.mem_singleton.mp z ▸ ho, fun v q => by rw [od] at q; cases q⟩
  keep := fun i h h' ⟨⟨old, he⟩, st⟩ k => ⟨⟨old, k e List.mem_cons_self _ he⟩, st.at fun o q => k it (List.mem_cons_of_mem _ List.mem_cons_self) o q⟩
  item := by
    rintro X rfl rfl rfl hc i pins s σ H E I hf ⟨⟨old, he⟩, hit⟩ ⟨xs, x, hq, hx⟩
    obtain ⟨its, rv, pT, hz⟩ := I.list hq
    obtain ⟨u, hu, ru⟩ := rv.get hx
    have lt : i < its.toArray.size := by
      rw [List.size_toArray]
      exact (List.getElem?_eq_some_iff.mp hu).1
    have pT' : s.heap.IsList a its.toArray := pT.isList
    have lte := Heap.lt_size he
    have ltit : it < s.heap.objs.size := let ⟨_, q, _⟩ := hit; Heap.lt_size q
    refine wpAny_pyNext_enum_itemC (D := Draws.list (prog := X.prog) (w := X.w) (A := X.A.in1) (I.ok.hd hc) it a ait its.toArray) he ⟨hit, pT'⟩ lt eit (by simp [eit, ea]) fun y h1 tk py ho st1 hT hsz hk => ?_
    obtain rfl : u = y := by
      have z : its.toArray[i]? = some y := py
      rw [List.getElem?_toArray, hu] at z
      exact Option.some.inj z
    refine ⟨_, rfl, wpAny_letOwnedTupleGo_enum (s := { s with heap := h1, toks := tk + 1 }) ho fun h2 he2 sb => ?_⟩
    have hT2 := (sb.2 _ (Nat.ne_of_gt lte)).trans hT
    have new : ObjOk X.prog X.w (upd H s.heap.objs.size (.tup [.int (c + (i : Nat)), x])) h2 s.heap.objs.size (.tup [.int (c + (i : Nat)), x]) :=
      ⟨by show 2 ≤ sizeLine; decide, [.int (c + (i : Nat)) tk, u], .cons ⟨_, rfl⟩ (.cons ru .nil), ⟨_, hT2, rfl, _, rfl⟩⟩
    have I1 : Inv X pins σ (upd H s.heap.objs.size (.tup [.int (c + (i : Nat)), x])) { s with heap := h2, toks := tk + 1 } := by
      refine I.turnedNew (ch := [e, it]) (fun b ob hb q => ?_) hf (Nat.le_refl _) new
      have n1 : b ≠ e := fun z => hb (z ▸ List.mem_cons_self)
      have n2 : b ≠ it := fun z => hb (z ▸ List.mem_cons_of_mem _ List.mem_cons_self)
      exact (sb.2 b n1).trans (hk b ob n1 n2 q)
    refine ⟨.ref s.heap.objs.size, _, I1, rfl, ⟨_, x, rfl, I.hok.fresh (Nat.le_refl _), rfl, fun ys hy => by rw [I.list_inj hy hq]; exact hx⟩, ⟨⟨u, ?_⟩, st1.1.at fun o q => (sb.2 it (Ne.symm eit)).trans q⟩, fun b hb => ?_⟩
    · rw [show c + ((i + 1 : Nat) : Int) = c + (i : Int) + 1 by omega]
      exact he2
    · have lb : b < s.heap.objs.size := by
        rcases List.mem_cons.mp hb with z | z
        · rw [z]; exact lte
        · rw [List.mem_singleton.mp z]; exact ltit
      rw [upd_ne (Nat.ne_of_lt lb)]
      exact (hf b hb).1
  done := by
    rintro X rfl rfl rfl hc i pins s σ H E I hf ⟨⟨old, he⟩, hit⟩ ⟨xs, hq, hx⟩
    obtain ⟨its, rv, pT, hz⟩ := I.list hq
    obtain ⟨f0, f1, f2, f3, f4, f5⟩ := hf it (List.mem_cons_of_mem _ List.mem_cons_self)
    have hl := rv.length
    have pT' : s.heap.IsList a its.toArray := pT.isList
    have D := Draws.list (prog := X.prog) (w := X.w) (A := X.A.in1) (I.ok.hd hc) it a ait its.toArray
    have hst : s.heap.IsListIter it a its.toArray.size → s.heap.IsListIter it a its.toArray.size ∧ s.heap.IsList a its.toArray := fun z => ⟨z, pT'⟩
    have hT : s.TypeIs (.ref e) "enumerate" := ⟨_, he, rfl⟩
    unfold pyNext
    refine wpAny_bind (wpAny_attempt (wpAny_callSpecial?_slot (name := Str.ofString "__next__") hT F.slot_enumerate_next
      (wpAny_call_entry F.slot_enumerate_next hT F.entry_enumerate_next ?_ (F.args_enumerate_next_1 _))))
    refine wpAny_bind (m := field (.ref e) 2) (wpAny_field he rfl (x := .ref it) rfl ?_)
    refine wpAny_bind (wpAny_nextOf_list_end (I.ok.hd hc) hit pT' (by rw [List.getElem?_toArray]; exact List.getElem?_eq_none (by omega)) fun h' y eb hy => ?_)
    obtain ⟨o, ho, hcl⟩ := hy
    refine wpAny_bind (wpAny_isInstance (T := "StopIteration") (b := true) ⟨o, ho, hcl⟩ isSubtype_stop ?_)
    exact wpAny_pure ⟨rfl, I.turned (t' := s.toks) (fun b o hb q => eb b o hb q) f0 f1 f3 f4 f5⟩
  self := fun A i s Q E ⟨⟨_, he⟩, _⟩ h => wpAny_pyIter_enum he h
theorem tyKw {M : Model} {A : Around} {E : Value → Shared → Prop} {s : Shared} {pos : Pos} {T : String} {ags : List (Bool × Sem Value)} {kws : List (Option Str × Sem Value)} {Q : Value → Shared → Prop} (h1 : ags.any (·.1) = false) (h2 : kws.any (·.1.isNone) = false)
    (h : wpAny M A (evalArgs (.type T) true ags kws) (fun z t => wpAny M A (call (.type T) z.pos z.kw) Q E t) E s) : wpAny M A (callWith pos (.type T) [] ags kws) Q E s := by
  unfold callWith
  refine wpAny_bind (wpAny_holding (wpAny_mono h (fun z t hz => ?_) fun _ _ y => y))
  refine wpAny_bind (wpAny_standAt ?_)
  simp only [h1, h2, Bool.or_false]
  refine wpAny_bind (wpAny_pure (wpAny_bind (wpAny_mono hz (fun r t2 hr => ?_) fun _ _ y => y)))
  exact wpAny_bind (wpAny_holding (wpAny_point (wpAny_pure hr)))
def iEnS (K : PySem.W.Frag) (ta tk : TA) : TI := fun σ H R => ta σ H fun vs H1 => tk σ H1 fun zs H2 => ∃ a xs c, vs = [.ref a] ∧ zs = [.int c] ∧ -(2 ^ 62) ≤ c ∧ c < 2 ^ 62 ∧ SqL K H2 a xs ∧ R (Itm K c a) H2
theorem pi_enS {X : Cx} {K : PySem.W.Frag} (hK : X.K = K) {e : Expr} {kws : List Keyword} {ta tk : TA} {p pos tpos : Pos} {elts : List Expr} {kk : Nat} (hg : Gl X "enumerate") (hm : X.mg "enumerate" = none) (ha : PA X [e] ta) (hk : PK X kws tk)
    (he : backTo pos (starEach [e] X.env) = (false, eval e X.env) :: backTo pos (starEach [] X.env) := by rfl) (hpl : (backTo pos (starEach [e] X.env)).any (·.1) = false := by rfl)
    (hall : (backToKw pos (keywordEach kws X.env)).all (·.1.isSome) = true := by rfl) (hnone : (backToKw pos (keywordEach kws X.env)).any (·.1.isNone) = false := by rfl) (hks : (backToKw pos (keywordEach kws X.env)).filterMap (·.1) = [("start" : Str)] := by rfl) :
    PI X (.Tuple elts kk tpos) (.Call (.Name "enumerate" p) [e] kws pos) (iEnS K ta tk) := by
  subst hK
  refine ⟨fun pins s σ H R I h => ?_⟩
  refine wpAny_Call_Name_kw (ld_blt I hg hm boot_enumerate ?_ (by decide) (by decide))
  refine tyKw hpl hnone ?_
  have hA := fun (t : Shared) (J : Inv X pins σ H t) => ha.run pos pins t σ H _ J h
  rw [he] at hA ⊢
  refine evalArgs_kwB hall (thn (hA _ (I.tok _)) fun us s1 ⟨vs, H1, I1, r1, q1⟩ => thn (hk.run pos pins s1 σ H1 _ I1 q1) fun ws s2 ⟨zs, H2, I2, r2, a, xs, c, ex, ez, c0, c1, hq, q⟩ => ?_)
  rw [hks]
  subst ex ez
  obtain ⟨u, rfl, ru⟩ := r1.one
  cases ru
  obtain ⟨z, rfl, rz⟩ := r2.one
  obtain ⟨t, rfl⟩ := rz
  obtain ⟨its, rv, pT, hz⟩ := I2.list hq
  have pT' : s2.heap.IsList a its.toArray := pT.isList
  have la : a < s2.heap.objs.size := let ⟨_, z, _⟩ := pT'; Heap.lt_size z
  refine enum_begins_start (begins_list a its.toArray) pT' (by omega) (by omega) fun h' he' hit hsz hk' => wpAny_pyIter_enum he' ?_
  have I3 : Inv X pins σ H2 { s2 with heap := h' } := I2.kept (t' := s2.toks) hk'
  refine ⟨s2.heap.objs.size + 1, [s2.heap.objs.size + 1, s2.heap.objs.size], _, _, H2, rfl, I3, turnM c (a := a) (e := s2.heap.objs.size + 1) (it := s2.heap.objs.size) (Nat.succ_ne_self _) (Nat.ne_of_gt (Nat.lt_succ_of_lt la)) (Nat.ne_of_lt la), ⟨⟨.none, by rw [Int.ofNat_zero, Int.add_zero]; exact he'⟩, ⟨_, hit, rfl, rfl⟩⟩, fun b hb => ?_, q⟩
  have le : s2.heap.objs.size ≤ b := by
    rcases List.mem_cons.mp hb with z | z
    · rw [z]; omega
    · rw [List.mem_singleton.mp z]; exact Nat.le_refl _
  exact I2.fpOk le (I2.hok.fresh le)
/-- a walk over enumerate of a list -/
theorem for_el {K : PySem.W.Frag} {c : Int} {a : Addr} {xs : List V} {g : TG} {tb : TS} {D : Ends} {σ : L2.St} {H : Hp} (Pv : Nat → L2.St → Hp → Prop) (h0 : Pv 0 σ H) (hl : ∀ i σ H, i ≤ xs.length → Pv i σ H → SqL K H a xs)
    (hs : ∀ i x σ H, xs[i]? = some x → Pv i σ H → ∀ T, H T = none → g (.ref T) σ (upd H T (.tup [.int (c + (i : Nat)), x])) fun s2 H2 => tb { D with nx := Pv (i + 1), ct := Pv (i + 1), bk := D.nx } s2 H2) (hd : ∀ σ H, Pv xs.length σ H → D.nx σ H) :
    ∃ W : Nat → Nat → L2.St → Hp → Prop, (∃ m, W 0 m σ H) ∧ ∀ i m σ H, W i m σ H → ((Itm K c a).stop i H ∧ D.nx σ H) ∨
      ((Itm K c a).go i H ∧ ∃ N : L2.St → Hp → Prop, (∀ s' H', N s' H' → ∃ m', m' < m ∧ W (i + 1) m' s' H') ∧ ∀ x H', (Itm K c a).yld i H x H' → g x σ H' fun s2 H2 => tb { D with nx := N, ct := N, bk := D.nx } s2 H2) := by
  refine ⟨fun i m σ H => m + i = xs.length ∧ Pv i σ H, ⟨xs.length, rfl, h0⟩, fun i m σ H ⟨e, p⟩ => ?_⟩
  have q := hl i σ H (by omega) p
  cases m with
  | zero =>
    have e2 : i = xs.length := by omega
    subst e2
    exact .inl ⟨⟨xs, q, Nat.le_refl _⟩, hd _ _ p⟩
  | succ m =>
    have lt : i < xs.length := by omega
    refine .inr ⟨⟨xs, xs[i], q, List.getElem?_eq_getElem lt⟩, Pv (i + 1), fun s' H' p' => ⟨m, Nat.lt_succ_self _, by omega, p'⟩, fun x H' y => ?_⟩
    obtain ⟨T, z, rfl, nT, rfl, g1⟩ := y
    exact hs i z σ H (g1 xs q) p T nT
/-! a dict of the written part: its keys in order -/
def KList (K : PySem.W.Frag) (w : World) (d : Addr) (ks : List Str) : Prop := ∃ es n, KDict K w d es n ∧ es.toList.map He.keyOf = He.keysIn w.params ks
theorem klist_of {K : PySem.W.Frag} {w : World} {d : Addr} {ks : List Str} (h : He.dicW K d = some (He.keysIn w.params ks)) : KList K w d ks := by
  obtain ⟨es, n, kd⟩ := He.dicW_ok h
  refine ⟨es, n, kd, ?_⟩
  unfold He.dicW at h
  rw [kd.at_] at h
  have z : (decide (("dict" : String) = "dict") && ((#[] : Array (Option Value)).isEmpty && !(d == sysModules))) = true := by rw [kd.low] <;> rfl
  have y : (match decide (("dict" : String) = "dict") && ((#[] : Array (Option Value)).isEmpty && !(d == sysModules)) with | true => some (es.toList.map He.keyOf) | false => none) = some (He.keysIn w.params ks) := h
  rw [z] at y
  exact Option.some.inj y
theorem KList.get {P : Params} {es : List DictEntry} : ∀ {ks : List Str}, es.map He.keyOf = He.keysIn P ks → ∀ {i : Nat} {e : DictEntry}, es[i]? = some e → ∃ x t, ks[i]? = some x ∧ e.key = .str x t := by
  intro ks h i e he
  have h1 : (es.map He.keyOf)[i]? = some (He.keyOf e) := by rw [List.getElem?_map, he] <;> rfl
  rw [h] at h1
  unfold He.keysIn at h1
  rw [List.getElem?_map] at h1
  obtain ⟨x, hx, ex⟩ := Option.map_eq_some_iff.mp h1
  unfold He.keyOf at ex
  split at ex
  · rename_i y t q
    have z := (Prod.mk.inj (Option.some.inj ex)).1
    exact ⟨x, t, hx, by rw [q, z]⟩
  · cases ex
def Itkd (ks : List Str) : It where
  go := fun i _ => i < ks.length
  yld := fun i H v H' => H' = H ∧ ∃ x, ks[i]? = some x ∧ v = .str x
  stop := fun i _ => ks.length ≤ i
theorem turn_kd {P : Program} {w : World} {K : PySem.W.Frag} {tg : Expr} {d it : Addr} {ks : List Str} {es : Array DictEntry} {n : Nat} (D : KDict K w d es n) (hk : es.toList.map He.keyOf = He.keysIn w.params ks) :
    Turn P w K tg (Itkd ks) [it] it (fun i h => h.IsKeyIter it d i es.size n) where
  mem := List.mem_cons_self
  obj := fun i h ⟨o, e, c, dd⟩ b hb => ⟨o, List.mem_singleton.mp hb ▸ e, fun v z => by rw [dd] at z; cases z⟩
  keep := fun i h h' ⟨o, e, r⟩ k => ⟨o, k it List.mem_cons_self o e, r⟩
  item := by
    rintro X rfl rfl rfl hc i pins s σ H E I hf st hg
    obtain ⟨f0, f1, f2, f3, f4, f5⟩ := hf it List.mem_cons_self
    have hl : es.size = ks.length := by
      have z := congrArg List.length hk
      unfold He.keysIn at z
      rw [List.length_map, List.length_map, Array.length_toList] at z
      exact z
    have hlt : i < es.size := by rw [hl]; exact hg
    have raw : s.heap.DictRaw d es n := ⟨_, I.kIn _ _ D.at_, ⟨rfl, rfl, rfl⟩, rfl⟩
    refine PySem.wpAny_pyNext_keys_item_raw st raw hlt fun h' st' sb => ?_
    have I1 : Inv X pins σ H { s with heap := h' } := I.turned (t' := s.toks) (fun b ob hb e => (sb.2 b hb).trans e) f0 f1 f3 f4 f5
    obtain ⟨x, t, hx, ex⟩ := KList.get hk (i := i) (e := es[i]) (by rw [Array.getElem?_toList, Array.getElem?_eq_getElem hlt])
    obtain ⟨oi, e, c, dd⟩ := id st'
    refine ⟨es[i].key, rfl, go_of (s := { s with heap := h' }) e c dd (by decide) ⟨.str x, H, I1, ⟨t, ex⟩, ⟨rfl, x, hx, rfl⟩, st', fun b hb => (hf b hb).1⟩⟩
  done := by
    rintro X rfl rfl rfl hc i pins s σ H E I hf st hg
    obtain ⟨f0, f1, f2, f3, f4, f5⟩ := hf it List.mem_cons_self
    have hl : es.size = ks.length := by
      have z := congrArg List.length hk
      unfold He.keysIn at z
      rw [List.length_map, List.length_map, Array.length_toList] at z
      exact z
    have raw : s.heap.DictRaw d es n := ⟨_, I.kIn _ _ D.at_, ⟨rfl, rfl, rfl⟩, rfl⟩
    exact PySem.wpAny_pyNext_keys_end_raw (I.ok.hd hc) st raw (by rw [hl]; exact hg) fun h' eb => ⟨rfl, I.turned (t' := s.toks) (fun b o hb e => eb b o hb e) f0 f1 f3 f4 f5⟩
  self := fun A i s Q E st h => wpAny_pyIter_keyiter st h
def iKd (K : PySem.W.Frag) (w : World) (te : TE) : TI := fun σ H R => te σ H fun x H1 => ∃ d ks, x = .ref d ∧ KList K w d ks ∧ R (Itkd ks) H1
theorem pi_kd {X : Cx} {K : PySem.W.Frag} {w : World} (hK : X.K = K) (hw : X.w = w) {tg e : Expr} {te : TE} (he : PE X e te) : PI X tg e (iKd K w te) := by
  subst hK hw
  refine ⟨fun pins s σ H R I h => ?_⟩
  refine thn (he.run pins s σ H _ I h) fun u s1 ⟨x, H1, I1, rx, d, ks, ex, ⟨es, n, D, hk⟩, q⟩ => ?_
  subst ex
  obtain rfl : u = Value.ref d := rx
  have raw : s1.heap.DictRaw d es n := ⟨_, I1.kIn _ _ D.at_, ⟨rfl, rfl, rfl⟩, rfl⟩
  exact PySem.wpAny_pyIter_dict_raw D.low raw (pi_one (tk := s1.toks) I1 _ (turn_kd D hk) ⟨_, Heap.get?_push_size _ rfl, rfl, rfl⟩ q)
/-- a walk over it -/
theorem for_kd {ks : List Str} {g : TG} {tb : TS} {D : Ends} {σ : L2.St} {H : Hp} (Pv : Nat → L2.St → Hp → Prop) (h0 : Pv 0 σ H)
    (hs : ∀ i x σ H, ks[i]? = some x → Pv i σ H → g (.str x) σ H fun s2 H2 => tb { D with nx := Pv (i + 1), ct := Pv (i + 1), bk := D.nx } s2 H2) (hd : ∀ σ H, Pv ks.length σ H → D.nx σ H) :
    ∃ W : Nat → Nat → L2.St → Hp → Prop, (∃ m, W 0 m σ H) ∧ ∀ i m σ H, W i m σ H → ((Itkd ks).stop i H ∧ D.nx σ H) ∨
      ((Itkd ks).go i H ∧ ∃ N : L2.St → Hp → Prop, (∀ s' H', N s' H' → ∃ m', m' < m ∧ W (i + 1) m' s' H') ∧ ∀ x H', (Itkd ks).yld i H x H' → g x σ H' fun s2 H2 => tb { D with nx := N, ct := N, bk := D.nx } s2 H2) := by
  refine ⟨fun i m σ H => m + i = ks.length ∧ Pv i σ H, ⟨ks.length, rfl, h0⟩, fun i m σ H ⟨e, p⟩ => ?_⟩
  cases m with
  | zero =>
    have e2 : i = ks.length := by omega
    subst e2
    exact .inl ⟨Nat.le_refl _, hd _ _ p⟩
  | succ m =>
    have lt : i < ks.length := by omega
    refine .inr ⟨lt, Pv (i + 1), fun s' H' p' => ⟨m, Nat.lt_succ_self _, by omega, p'⟩, fun x H' y => ?_⟩
    obtain ⟨rfl, z, hz, rfl⟩ := y
    exact hs i z σ _ hz p
/-- x in d, d[x] for such a dict -/
def rInK (K : PySem.W.Frag) (w : World) : R2 := fun x y H Q => ∃ (d : Addr) (z : Str) (r : Option Value) (es : Array DictEntry) (n : Nat), x = .str z ∧ y = .ref d ∧ KDict K w d es n ∧ PySem.W.nsIn K d z = some r ∧ Q (.bl r.isSome) H
theorem op_inK {X : Cx} {K : PySem.W.Frag} {w : World} (hK : X.K = K) (hw : X.w = w) : OpR X (compareOp .In) (rInK K w) := by
  subst hK hw
  intro pins s σ H x y v u Q I rx ry h
  obtain ⟨d, z, r, es, n, ex, ey, D, e, q⟩ := h
  exact op_in_kd D pins s σ H x y v u Q I rx ry ⟨z, r, ex, ey, e, q⟩
theorem keys_find {P : Params} {name : Str} : ∀ {es : List DictEntry} {ks : List Str}, es.map He.keyOf = He.keysIn P ks →
    (es.find? fun x => x.key.isStr name).isSome = decide (name ∈ ks) ∧ (es.any fun x => x.refKey) = false
  | [], [], _ => ⟨rfl, rfl⟩
  | [], k :: ks, h => by cases h
  | e :: es, [], h => by cases h
  | e :: es, k :: ks, h => by
    have h2 : He.keyOf e :: es.map He.keyOf = some (k, PyData.keyHash P k) :: He.keysIn P ks := h
    obtain ⟨h0, h1⟩ := List.cons.inj h2
    obtain ⟨i1, i2⟩ := keys_find (name := name) h1
    obtain ⟨t, ek⟩ : ∃ t, e.key = .str k t := by
      unfold He.keyOf at h0
      split at h0
      · rename_i y t q
        have z := (Prod.mk.inj (Option.some.inj h0)).1
        exact ⟨t, by rw [q, z]⟩
      · cases h0
    have b : e.key.isStr name = (k == name) := by rw [ek] <;> rfl
    refine ⟨?_, ?_⟩
    · rw [List.find?_cons, b]
      by_cases q : k = name
      · subst q
        simp
      · have q2 : (k == name) = false := beq_eq_false_iff_ne.mpr q
        have q3 : ¬ name = k := fun z => q z.symm
        rw [q2]
        simp only [i1, List.mem_cons]
        simp [q3]
    · rw [List.any_cons, i2, Bool.or_false]
      unfold DictEntry.refKey
      rw [ek]
theorem KList.has {K : PySem.W.Frag} {w : World} {d : Addr} {ks : List Str} (h : KList K w d ks) (z : Str) : ∃ es n r, KDict K w d es n ∧ PySem.W.nsIn K d z = some r ∧ r.isSome = decide (z ∈ ks) := by
  obtain ⟨es, n, D, hk⟩ := h
  obtain ⟨h1, h2⟩ := keys_find (name := z) hk
  unfold PySem.W.nsIn
  rw [D.at_]
  cases e : es.toList.find? fun x => x.key.isStr z with
  | some q =>
    rw [e] at h1
    exact ⟨es, n, some q.val, D, by simp only [e], h1⟩
  | none =>
    rw [e] at h1
    exact ⟨es, n, none, D, by simp only [e, h2]; rfl, h1⟩
/-- x in d -/
theorem inK_of {K : PySem.W.Frag} {w : World} {d : Addr} {ks : List Str} {z : Str} {H : Hp} {Q : VK} (h : KList K w d ks) (q : Q (.bl (decide (z ∈ ks))) H) : rInK K w (.str z) (.ref d) H Q := by
  obtain ⟨es, n, r, D, e, hr⟩ := h.has z
  exact ⟨d, z, r, es, n, rfl, rfl, D, e, by rw [hr]; exact q⟩
/-- join, where the written part is to be named -/
def rJoinK (K : PySem.W.Frag) : V → List V → Hp → VK → Prop := fun x xs H Q => ∃ a p, ∃ ys : List Str, x = .str a ∧ xs = [.ref p] ∧ (SqL K H p (ys.map V.str) ∨ SqT K H p (ys.map V.str)) ∧ (ys.map (·.length)).sum + ys.length * a.length ≤ 16777216 ∧ Q (.str (Txt.join a ys)) H
theorem pe_joinK {X : Cx} {K : PySem.W.Frag} (hK : X.K = K) {o e : Expr} {to te : TE} {apos pos : Pos} (ho : PE X o to) (he : PE X e te) (h1 : starEach [e] X.env = [(false, eval e X.env)] := by rfl)
    (h2 : attributeBase o (Str.ofString "join") X.env (eval o X.env) = eval o X.env := by rfl) (h3 : (apos.endLine == pos.line) = true := by rfl) : PE X (.Call (.Attribute o (Str.ofString "join") apos) [e] [] pos) (tM1 (rJoinK K) to te) := by
  subst hK
  exact pe_join ho he h1 h2 h3
end VL

set_option Elab.async false
set_option linter.all false
set_option maxRecDepth 100000
set_option maxHeartbeats 400000
namespace LW
open PySem PySem.Spec PyProof.Rows L2 LamX NdefX VB VM VP VJ
abbrev MODS : List Str := ["traces", "failures", "divergences"]
abbrev s_is_model : Stmt := top 19
theorem sc_is_model : FnScope ["word"] ["word"] (defScope s_is_model) := ⟨rfl, rfl, rfl, by decide +kernel, rfl, by decide +kernel, by decide +kernel⟩
section
variable {P : Program} {w : World} {K : PySem.W.Frag} {mg : Str → Option Value} {base : Heap}
theorem c_model {dm : Addr} (D : Df K mg "is_model" s_is_model) (g_KINDS_IN_MODELS : ∃ u, mg "KINDS_IN_MODELS" = some u ∧ RelV (.ref dm) u) (kM : VL.KList K w dm MODS) :
    C8.Cal P w K mg base 1 "is_model" (spTest fun x => decide (x ∈ MODS)) [] := by
  refine D.cal sc_is_model (fun _ _ _ _ _ _ us hl => match us, hl with | [_], _ => rfl) (fun vs H Q E h => ?_) (fun f cdv A outer s H vs Q E hr h => ?_)
  · obtain ⟨x, rfl, _⟩ := h
    rfl
  obtain ⟨x, rfl, hx, q⟩ := h
  refine ⟨_, (pss_one (ps_ret (pe_cmpR (VL.op_inK (K := K) (w := w) rfl rfl) (pv 0) (C8.pe_gc rfl g_KINDS_IN_MODELS) rfl))), ?_⟩
  exact ⟨_, rfl, VL.inK_of kM (q H (Same.refl H))⟩
end
end LW

set_option Elab.async false
set_option linter.all false
set_option maxRecDepth 100000
set_option maxHeartbeats 4000000
namespace VY
open PySem PySem.Spec PyProof.Rows L2 LamX NdefX VB VC
/-! what leaves by an exception, cells locked and opened -/
section
variable {P : Program} {w : World} {H H1 H' : Hp} {h B h' : Heap} {cl : List (Str × Addr)} {fr : List Str} {ws : List (Option V)} {fs : List Addr}
theorem shut_exc (L : Locked H cl fr ws) (ok0 : HOk P w H h) (ub : UB fs (open_ cl H) H' h B h') (nf : ∀ b ∈ fs, H b = none) (ok : HOk P w H' B) : HOk P w (shut cl H H') B ∧ UB fs H (shut cl H H') h B h' := by
  have keepC : ∀ b, In cl b → ∀ o, h.get? b = some o → B.get? b = some o := fun b i o e => by
    refine ub.keep b o e (open_in i) fun z => ?_
    obtain ⟨o', v, q, _⟩ := L.frz i
    rw [nf b z] at q; cases q
  have freeC : ∀ b, In cl b → H' b = none := fun b i => by
    obtain ⟨o, v, q, _⟩ := L.frz i
    exact ub.free b o (ok0 b _ q).1 (open_in i)
  have nin : ∀ {b}, H b = none → ¬ In cl b := fun {b} n i => by obtain ⟨o', v, q, _⟩ := L.frz i; rw [n] at q; cases q
  refine ⟨fun b u e => ?_, fun b o e n hb => ?_, fun b o e hb => ub.slot b o e hb, fun b o e n => ?_, fun b o e hb => ub.there b o e hb, fun b xs e => ?_, fun b o u e => ?_, fun b ps e => ?_⟩
  · by_cases i : In cl b
    · rw [shut_in i] at e
      obtain ⟨o, v, q, _⟩ := L.frz i
      rw [q] at e
      cases e
      exact lockO_ok (keepC b i o (ok0 b _ q).1)
    · rw [shut_out i] at e
      refine (ok b u e).stay (fun _ _ _ z => z) (fun c z => ?_) fun c xs z => ?_
      · rw [shut_out fun j => ?_]; exact z
        rw [freeC c j] at z; cases z
      · rw [shut_out fun j => ?_]; exact z
        rw [freeC c j] at z; cases z
  · exact ub.keep b o e (by rw [open_out (nin n)]; exact n) hb
  · rw [shut_out (nin n)]
    exact ub.free b o e (by rw [open_out (nin n)]; exact n)
  · have i : ¬ In cl b := fun i => by obtain ⟨o', v, q, _⟩ := L.frz i; rw [e] at q; cases q
    rw [shut_out i]
    exact ub.tups b xs (by rw [open_out i]; exact e)
  · by_cases i : In cl b
    · rw [shut_in i]; exact e
    · rw [shut_out i]; exact ub.frzs b o u (by rw [open_out i]; exact e)
  · have i : ¬ In cl b := fun i => by obtain ⟨o', v, q, _⟩ := L.frz i; rw [e] at q; cases q
    rw [shut_out i]
    exact ub.tbls b ps (by rw [open_out i]; exact e)
theorem open_exc {H2 : Hp} (lk : Lock cl fr ws H1 H2) (ok2 : HOk P w H2 h) (ub : UB fs H2 H' h B h') (nf : ∀ b ∈ fs, ¬ In cl b) (hok : HOk P w H' B) : HOk P w (open_ cl H') B ∧ UB fs H1 (open_ cl H') h B h' := by
  have lockH : ∀ b, In cl b → ∃ o, H2 b = some (lockO b o) ∧ H' b = some (lockO b o) := fun b i => by
    obtain ⟨o', v', z, _⟩ := lk.lk.frz i
    exact ⟨o', z, ub.frzs b o' _ z⟩
  refine ⟨fun b u eo => ?_, fun b o eo n hb => ?_, fun b o eo hb => ub.slot b o eo hb, fun b o eo n => ?_, fun b o eo hb => ub.there b o eo hb, fun b xs z => ?_, fun b o u z => ?_, fun b ps z => ?_⟩
  · by_cases i : In cl b
    · rw [open_in i] at eo; cases eo
    · rw [open_out i] at eo
      refine (hok b u eo).stay (fun _ _ _ z => z) (fun c z => ?_) fun c xs z => ?_
      · rw [open_out fun j => ?_]; exact z
        obtain ⟨o', _, w⟩ := lockH c j
        rw [w] at z; cases z
      · rw [open_out fun j => ?_]; exact z
        obtain ⟨o', _, w⟩ := lockH c j
        rw [w] at z; cases z
  · by_cases i : In cl b
    · obtain ⟨o', z1, z2⟩ := lockH b i
      have g1 := (ok2 b _ z1).1
      rw [eo] at g1
      rw [Option.some.inj g1]
      exact (hok b _ z2).1
    · exact ub.keep b o eo (by rw [lk.out b i]; exact n) hb
  · by_cases i : In cl b
    · exact open_in i
    · rw [open_out i]; exact ub.free b o eo (by rw [lk.out b i]; exact n)
  · have i : ¬ In cl b := fun i => by rw [lk.free b i] at z; cases z
    rw [open_out i]; exact ub.tups b xs (by rw [lk.out b i]; exact z)
  · have i : ¬ In cl b := fun i => by rw [lk.free b i] at z; cases z
    rw [open_out i]; exact ub.frzs b o u (by rw [lk.out b i]; exact z)
  · have i : ¬ In cl b := fun i => by rw [lk.free b i] at z; cases z
    rw [open_out i]; exact ub.tbls b ps (by rw [lk.out b i]; exact z)
end
/-! a value that may be called and may raise -/
structure VCallX (P : Program) (w : World) (K : PySem.W.Frag) (mg : Str → Option Value) (base : Heap) (k : Nat) (f : Addr) (φ : Hp → Prop) (sp : Sp) : Prop where
  fn : ∀ (h : Heap) (H : Hp), HOk P w H h → K.In h → φ H → PySem.W.FnAt f h
  run : ∀ (A : Around) (outer : List Env) (s : Shared) (H : Hp) (us : List Value) (vs : List V) (Q : VK) (E : XK), Room k A →
    Env0 P w K mg base A outer s H → φ H → Vals vs us → sp vs H Q E →
    codeAny (model P w) A (.call (.ref f) ⟨us, []⟩) (CR (L2.CX P w) outer P w H s Q E) s
section
variable {P : Program} {w : World} {K : PySem.W.Frag} {mg : Str → Option Value} {base : Heap} {N ps fr : List Str} {F : NF} {b : Expr} {f : Addr} {k : Nat} {sp : Sp} {ws : List (Option V)}
/-- what does not raise -/
theorem VCallX.of {φ : Hp → Prop} (c : VA.VCall P w K mg base k f φ sp) : VCallX P w K mg base k f φ sp :=
  ⟨c.fn, fun A outer s H us vs Q E hr e0 hf r q => codeAny_mono (c.run A outer s H us vs Q E hr e0 hf r q) fun r s' z => by
    cases r with
    | error e => exact z.elim
    | ok fl => cases fl <;> exact z⟩
theorem lam_lockedX (S : NScope N ps fr F.scope)
    (hb : ∀ (pm ctv : Value) (us : List Value), us.length = ps.length → bindArgs (PySem.W.kla_fn F.name F.qual F.params b F.scope F.cl pm (.ref F.c) ctv) ⟨us, []⟩ = pure (ps.zip us))
    (len : ∀ vs H Q E, sp vs H Q E → vs.length = ps.length)
    (hbody : ∀ (A : Around) (outer : List Env) (s : Shared) (H : Hp) (vs : List V) (Q : VK) (E : XK), Room k (A.deeper (envF F f s.heap.objs.size)) → lamLk f F b fr ws H → sp vs H Q E →
      ∃ t, PE (ncx (L2.CX P w) P w K mg base N F f A outer s (open_ F.cl H) fun cls d H' => (∀ b, In F.cl b → H' b = none) → E cls d (shut F.cl H H')) b t ∧ t (startF N vs ws) (open_ F.cl H) fun v H' => (∀ b, In F.cl b → H' b = none) → Q v (shut F.cl H H')) :
    VCallX P w K mg base (k + 1) f (lamLk f F b fr ws) sp := by
  refine ⟨fun h H hok _ hf => ?_, fun A outer s H us vs Q E hr e0 hf r hsp => ?_⟩
  · obtain ⟨od, sl, pm, ctv, z⟩ := VA.lamO_at hok hf.1
    exact ⟨_, od, _, sl, z⟩
  · have hl := len _ _ _ _ hsp
    obtain ⟨h1, h2, L⟩ := hf
    have lim : s.heap.NoLimit := e0.mod.nolimit.keeps fun b o e => (e0.bs b o e).1
    obtain ⟨od, sl, pm, ctv, ho⟩ := VA.lamO_at e0.hok h1
    have C := open_cells L e0.hok
    have e1 : Env0 P w K mg base A outer s (open_ F.cl H) := ⟨e0.frames, e0.mod, fun b o e => ⟨(e0.bs b o e).1, by
      by_cases i : In F.cl b
      · exact open_in i
      · rw [open_out i]; exact (e0.bs b o e).2⟩, e0.bsz, e0.funs, fun b hb => by
      by_cases i : In F.cl b
      · exact open_in i
      · rw [open_out i]; exact e0.frf b hb, open_ok L e0.hok, e0.bare⟩
    refine PySem.W.kla_callFunE hr.depth ho rfl S.co S.gen rfl (codeO_at e0.hok h2) ?_
    rw [hb pm ctv us (by rw [← r.length]; exact hl)]
    refine wpAny_pure (wpAny_newFunctionEnv S.nocell (fun ⟨n, _⟩ hy => S.par n (List.of_mem_zip hy).1) (fun h₁ hns hsb => ⟨lim.fresh _ hsb, ?_⟩) S.kind)
    show codeAny _ _ (.expr b (envF F f s.heap.objs.size)) _ _
    have kp : ∀ b o, s.heap.get? b = some o → h₁.get? b = some o := fun b o e =>
      hsb.extBut b o (Nat.ne_of_lt (Heap.lt_size e)) (Heap.get?_push_of_some _ e)
    obtain ⟨t, ht, hq⟩ := hbody A outer s H vs Q E (hr.deeper _) ⟨h1, h2, L⟩ hsp
    have J : Inv (ncx (L2.CX P w) P w K mg base N F f A outer s (open_ F.cl H) fun cls d H' => (∀ b, In F.cl b → H' b = none) → E cls d (shut F.cl H H')) [] (startF N vs ws) (open_ F.cl H) { s with heap := h₁, toks := s.toks + (ps.zip us).length } := inv_startN S hr.hd e1 hl r C hns kp
    have conv : ∀ e s', L2.CX P w outer (open_ F.cl H) s (fun cls d H' => (∀ b, In F.cl b → H' b = none) → E cls d (shut F.cl H H')) e s' → L2.CX P w outer H s E e s' := fun e s' z => by
      obtain ⟨a, B, H', cls, d, rfl, fl, hok, ub, na, os, ag, hE⟩ := z
      obtain ⟨ok2, ub2⟩ := shut_exc L e0.hok ub e0.frf hok
      have freeC : ∀ b, In F.cl b → H' b = none := fun b i => by
        obtain ⟨o, v, q, _⟩ := L.frz i
        exact ub.free b o (e0.hok b _ q).1 (open_in i)
      refine ⟨a, B, _, cls, d, rfl, fl, ok2, ub2, ?_, os, ag, hE freeC⟩
      by_cases i : In F.cl a
      · obtain ⟨o, v, q, _⟩ := L.frz i
        have z1 : B.get? a = some o := by
          refine ub.keep a o (e0.hok a _ q).1 (open_in i) fun z => ?_
          rw [e0.frf a z] at q; cases q
        have z2 : B.get? a = none := fl.2.1
        rw [z1] at z2; cases z2
      · rw [shut_out i]; exact na
    refine PySem.W.kla_codeExpr (wpAny_mono (ht.run [] _ (startF N vs ws) (open_ F.cl H) _ J hq) (fun v s' z => ?_) fun e s' z => wpAny_mono z (fun _ s2 c => conv e s2 c) fun e' s2 c => conv e' s2 c)
    obtain ⟨w', H', J', rv, q⟩ := z
    obtain ⟨ok2, un2⟩ := shut_ok L e0.hok J'.base e0.frf J'.hok
    have un : Un _ [] (open_ F.cl H) H' s.heap s'.heap := J'.base
    have freeC : ∀ b, In F.cl b → H' b = none := fun b i => by
      obtain ⟨o, v, q, _⟩ := L.frz i
      exact un.free b o (e0.hok b _ q).1 (open_in i) (by simp)
    exact ⟨w', shut F.cl H H', J'.os, J'.bare, un2, ok2, rv, q freeC⟩
end
section
variable {X : Cx} {k j i : Nat} {x : Str} {sp : Sp} {W : WX} {p pos : Pos} {e : Expr} {es : List Expr} {t : TA} {cl : List (Str × Addr)} {fr : List Str} {js : List Nat}
/-- x(..), x a name that holds a function value; it may raise -/
def tCallValX (P : Program) (w : World) (K : PySem.W.Frag) (mg : Str → Option Value) (base : Heap) (k i : Nat) (W : WX) (t : TA) : TE := fun σ H Q =>
  ∃ (f : Addr) (φ : Hp → Prop) (sp : Sp), σ[i]? = some (some (.ref f)) ∧ VCallX P w K mg base k f φ sp ∧ φ H ∧ t σ H fun vs H1 => φ H1 ∧ sp vs H1 Q (WE W σ)
theorem pe_callValX (hr : Room j X.A) (hk : k ≤ j) (hN : X.N[i]? = some x) (hv : Vis X.env.scope x) (tk : L2.Takes X W) (ha : PA X (e :: es) t)
    (hdb : (x == ("__debug__" : Str)) = false := by decide) (hcd : (x == ("__classdict__" : Str)) = false := by decide)
    (he : starEach (e :: es) X.env = (false, eval e X.env) :: starEach es X.env := by rfl) (hpl : (backTo pos (starEach es X.env)).any (·.1) = false := by rfl) :
    PE X (.Call (.Name x p) (e :: es) [] pos) (tCallValX X.prog X.w X.K X.mg X.base k i W t) := by
  refine ⟨fun pins s σ H Q I h => ?_⟩
  obtain ⟨f, φ, sp, hs, c, hf, ht⟩ := h
  refine wpAny_Call_Name_kw (thn ((pe_var (pos := p) hN hv hdb hcd).run pins s σ H (fun v H1 => v = .ref f ∧ H1 = H) I ⟨.ref f, hs, rfl, rfl⟩) fun u s1 ⟨v, H1, I1, r1, q1⟩ => ?_)
  obtain ⟨ev, eH⟩ := q1
  subst ev
  subst eH
  obtain rfl : u = Value.ref f := r1
  refine PySem.W.callWith_F (first := []) (c.fn _ _ I1.hok I1.kIn hf) (thn (ha.run pos pins s1 σ _ _ I1 ht) fun us s2 ⟨vs, H2, I2, r, h2, q⟩ => ⟨c.fn _ _ I2.hok I2.kIn h2, ?_⟩) he hpl
  show wpAny _ _ (call (.ref f) us) _ _ _
  refine wpAny_call (codeAny_mono (c.run X.A X.stack s2 H2 us vs Q (WE W σ) (hr.mono hk) I2.env0 h2 r q) fun r s' hq => ?_)
  cases r with
  | error e => exact passAt tk σ pins _ _ e s' I2 hq
  | ok fl =>
    cases fl with
    | ret u => exact I2.after hq
    | next => exact hq.elim
    | brk => exact hq.elim
    | cont => exact hq.elim
/-- g(..), cells locked while it runs; it may raise -/
def tCallLkX (cl : List (Str × Addr)) (fr : List Str) (js : List Nat) (sp : Sp) (W : WX) (t : TA) : TE := fun σ H Q => t σ H fun vs H1 => ∀ H2, Lock cl fr (js.map (slotAt σ)) H1 H2 → sp vs H2 (fun v H' => Q v (open_ cl H')) fun cls d H' => W cls d σ (open_ cl H')
theorem pe_cLkX (c : VE.CalX X.prog X.w X.K X.mg X.base k x sp) (hr : Room j X.A) (hk : k ≤ j) (hg : Gl X x) (cpo : X.Ok → Caps X cl fr js) (hfn : ∀ y, X.fn y = true) (tk : L2.Takes X W) (ha : PA X (e :: es) t)
    (hdb : (x == ("__debug__" : Str)) = false := by decide) (he : starEach (e :: es) X.env = (false, eval e X.env) :: starEach es X.env := by rfl) (hpl : (backTo pos (starEach es X.env)).any (·.1) = false := by rfl) :
    PE X (.Call (.Name x p) (e :: es) [] pos) (tCallLkX cl fr js sp W t) := by
  obtain ⟨f, fd, ps, F, hm, kp, bnd⟩ := c.ex
  refine ⟨fun pins s σ H Q I h => ?_⟩
  have cp := cpo I.ok
  refine wpAny_Call_Name_kw (ld_glob I hg hm ?_ hdb)
  refine PySem.W.callWith_K (h₀ := X.base) I.ok.mod.kin kp (thn (ha.run pos pins s σ H _ I h) fun us s1 ⟨vs, H1, I1, r, q⟩ => ⟨I1.kIn, ?_⟩) he hpl
  obtain ⟨H2, lk, ok2⟩ := lock_of I1 cp
  have q2 := q H2 lk
  have C := cells_of I1 cp
  have young : ∀ b, In cl b → X.s_0.heap.objs.size ≤ b := fun b ⟨y, ey⟩ => I1.ok.cab y b (hfn y) (cp.sub y b ey)
  have noBase : ∀ b, In cl b → X.base.get? b = none := fun b i => Heap.get?_none_of_le (Nat.le_trans I1.ok.bsz (young b i))
  have noFrame : ∀ b ∈ frs X.stack, ¬ In cl b := fun b hb i => by
    rcases List.mem_cons.mp (I1.stkSub b hb) with z | z
    · obtain ⟨y, ey⟩ := i
      obtain ⟨_, v, o, ho, hdd⟩ := C.all y b ey
      obtain ⟨m, ⟨o', es', ep', ho', hdd', _⟩, _⟩ := I1.loc
      rw [← z, ho] at ho'
      rw [← Option.some.inj ho', hdd] at hdd'
      cases hdd'
    · obtain ⟨_, o, ho, _⟩ := I1.ok.funs.mem z
      exact absurd (Heap.lt_size ho) (Nat.not_lt.mpr (young b i))
  have e0 := I1.env0
  have e2 : Env0 X.prog X.w X.K X.mg X.base X.A X.stack s1 H2 := ⟨e0.frames, e0.mod, fun b o eb => ⟨(e0.bs b o eb).1, by
    rw [lk.out b fun i => by rw [noBase b i] at eb; cases eb]
    exact (e0.bs b o eb).2⟩, e0.bsz, e0.funs, fun b hb => by rw [lk.out b (noFrame b hb)]; exact e0.frf b hb, ok2, e0.bare⟩
  have hl := F.len _ _ _ _ q2
  have hb2 := bnd s1 us I1.kIn (by rw [List.append_nil, ← r.length]; exact hl)
  rw [List.append_nil] at hb2
  show wpAny _ _ (call (.ref f) us) _ _ _
  refine wpAny_call (codeAny_mono (F.run X.A X.stack s1 H2 ⟨us, []⟩ us vs _ (fun cls d H' => W cls d σ (open_ cl H')) (hr.mono hk) e2 hb2 r q2) fun res s' hq => ?_)
  cases res with
  | error e =>
    obtain ⟨a, B, H', cls, d, rfl, fl, hok, ub, na, os, ag, hE⟩ := hq
    obtain ⟨ok3, ub3⟩ := open_exc lk ok2 ub noFrame hok
    refine passAt tk σ pins H1 s1 _ s' I1 ⟨a, B, open_ cl H', cls, d, rfl, fl, ok3, ub3, ?_, os, ag, hE⟩
    by_cases i : In cl a
    · exact open_in i
    · rw [open_out i]; exact na
  | ok fl =>
    cases fl with
    | next => exact hq.elim
    | brk => exact hq.elim
    | cont => exact hq.elim
    | ret u =>
      obtain ⟨v, H', os, bare, un, hok, rv, qv⟩ := hq
      have hold : ∀ b, In cl b → ∀ o, s1.heap.get? b = some o → s'.heap.get? b = some o := fun b i o eo => by
        obtain ⟨o', v', z, _⟩ := lk.lk.frz i
        have g1 := (ok2 b _ z).1
        rw [eo] at g1
        rw [Option.some.inj g1]
        exact (hok b _ (un.frzs b o' _ z)).1
      have lockH : ∀ b, In cl b → ∃ o, H' b = some (lockO b o) := fun b i => by
        obtain ⟨o', v', z, _⟩ := lk.lk.frz i
        exact ⟨o', un.frzs b o' _ z⟩
      refine I1.after ⟨v, open_ cl H', os, bare, ⟨fun b o eo n hb hx => ?_, fun b o eo n hb hx => ?_, fun b o eo n hx => ?_, fun b o eo hx => un.there b o eo hx, fun b xs z => ?_, fun b o u z => ?_, fun b ps z => ?_⟩, fun b u eo => ?_, rv, qv⟩
      · by_cases i : In cl b
        · exact hold b i o eo
        · exact un.keep b o eo (by rw [lk.out b i]; exact n) hb hx
      · exact un.slot b o eo (by rw [lk.out b (noFrame b hb)]; exact n) hb hx
      · by_cases i : In cl b
        · exact open_in i
        · rw [open_out i]; exact un.free b o eo (by rw [lk.out b i]; exact n) hx
      · have i : ¬ In cl b := fun i => by rw [lk.free b i] at z; cases z
        rw [open_out i]; exact un.tups b xs (by rw [lk.out b i]; exact z)
      · have i : ¬ In cl b := fun i => by rw [lk.free b i] at z; cases z
        rw [open_out i]; exact un.frzs b o u (by rw [lk.out b i]; exact z)
      · have i : ¬ In cl b := fun i => by rw [lk.free b i] at z; cases z
        rw [open_out i]; exact un.tbls b ps (by rw [lk.out b i]; exact z)
      · by_cases i : In cl b
        · rw [open_in i] at eo; cases eo
        · rw [open_out i] at eo
          refine (hok b u eo).stay (fun _ _ _ z => z) (fun c z => ?_) fun c xs z => ?_
          · rw [open_out fun j => ?_]; exact z
            obtain ⟨o', w⟩ := lockH c j
            rw [w] at z; cases z
          · rw [open_out fun j => ?_]; exact z
            obtain ⟨o', w⟩ := lockH c j
            rw [w] at z; cases z
end
/-! own exceptions with one field: class X(Base): def __init__(self, f): Base.__init__(self, ..); self.f = f -/
/-- the base class as a name of the text -/
structure BaseX (K : PySem.W.Frag) (mg : Str → Option Value) (x : Str) (C : Addr) : Prop where
  at_ : mg x = some (.ref C)
  rd : PySem.W.readsIn K C (.type "type") = true
  ga : PySem.W.specialIn K (.ref C) "__getattribute__" = some (some (.builtin "type.__getattribute__"))
  ini : PySem.W.findCls K (.ref C) (.type "type") "__init__" = some (.val (.builtin "ValueError.__init__"))
section
variable {X : Cx} {x : Str} {C : Addr} {e : Expr} {es : List Expr} {ta : TA} {p1 p2 pos : Pos} {pl : Sem Bool}
theorem pe_baseinit (b : BaseX X.K X.mg x C) (hg : Gl X x) (ha : PA X (e :: es) ta)
    (hc : eval (.Call (.Attribute (.Name x p1) "__init__" p2) (e :: es) [] pos) X.env = (do
      let ov ← eval (.Name x p1) X.env
      standAt p2.atName
      let (f, first) ← holding [ov] (getMethod ov "__init__" pl)
      callWith pos f first (backTo pos (starEach (e :: es) X.env)) (backToKw pos (keywordEach [] X.env))) := by rfl)
    (hdb : (x == ("__debug__" : Str)) = false := by decide)
    (he : starEach (e :: es) X.env = (false, eval e X.env) :: starEach es X.env := by rfl) (hpl : (backTo pos (starEach es X.env)).any (·.1) = false := by rfl) :
    PE X (.Call (.Attribute (.Name x p1) "__init__" p2) (e :: es) [] pos) (tVeI X.K ta) := by
  refine ⟨fun pins s σ H Q I h => ?_⟩
  refine PySem.W.methodCall_KW (ld_glob I hg b.at_ ?_ hdb) hc
  refine PySem.W.method_cls (I.tok _).kIn b.ga (PySem.W.cls_value (I.tok _).kIn b.rd b.ini (by rfl) ?_)
  show wpAny _ _ (callWith pos (Value.builtin "ValueError.__init__") [] (backTo pos (starEach (e :: es) X.env)) []) _ _ _
  refine PyProof.Rows.callWith_method1 (thn (ha.run pos pins _ σ H _ (I.tok _) h) fun us s1 ⟨vs, H1, I1, r1, q1⟩ => ?_) he hpl
  obtain ⟨a, C', ws, ev, hl, T, ea, q⟩ := q1
  subst ev
  cases r1 with
  | @cons _ u0 _ ur ra rw' =>
    obtain rfl : u0 = Value.ref a := ra
    have hlen : ur.length ≤ sizeLine := by
      rw [← Paired.length rw', sizeLine_eq]
      omega
    exact oinit_ok T I1 ea hlen fun s' J => ⟨.non, H1, J, rfl, q⟩
end
/-- what such a field may be: a text or a number -/
def OkF (v : V) : Prop := (∃ y : Str, v = .str y ∧ y.length ≤ 100000) ∨ ∃ i : Int, v = .int i ∧ i.natAbs < 2 ^ 64
/-- the promise of such an __init__ -/
def spXini (K : PySem.W.Frag) (C : Addr) (f : Str) : Sp := fun vs H Q _ => ∃ (a : Addr) (v : V), vs = [.ref a, v] ∧ OkF v ∧ H a = some (exo a C none) ∧ ∀ d, H d = none → d ≠ a → Q .non (upd (upd H d (exd d [(f, v)])) a (exo a C (some d)))
/-- an own class with an __init__ of its own, under its name -/
structure OwnI (K : PySem.W.Frag) (mg : Str → Option Value) (x : Str) (C : Addr) : Prop where
  at_ : mg x = some (.ref C)
  te : PySem.W.exmOne K (.ref C) (.ref C) = some true
/-- the class under its name -/
structure OwnF (P : Program) (w : World) (K : PySem.W.Frag) (mg : Str → Option Value) (base : Heap) (x : Str) (C : Addr) (f : Str) : Prop where
  own : OwnI K mg x C
  o : OexC K C
  xf : XfC K C
  no : PySem.W.findIn K (.ref C) f = some none
  ini : ∃ (fI : Addr) (fd : FuncData) (ps : List Str), PySem.W.findIn K (.ref C) "__init__" = some (some (.ref fI)) ∧ PySem.W.typeIn K (.ref fI) = some (.type "function") ∧ FnOk P w K mg base CX0 1 fI fd ps (spXini K C f) ∧ Binds K fd ps []
def tRaiseF (C : Addr) (f : Str) (W : WX) (ta : TA) : TS := fun _ σ H => ta σ H fun vs H1 => ∃ v, vs = [v] ∧ OkF v ∧ ∀ d, H1 d = none → W (.ref C) (some d) σ (upd H1 d (.xd [(f, v)]))
theorem ps_raiseF {X : Cx} {j : Nat} {W : WX} {x f : Str} {C : Addr} {e : Expr} {ta : TA} {p pos pos2 : Pos} (c : OwnF X.prog X.w X.K X.mg X.base x C f) (hc : X.calm = true) (tk : L2.Takes X W) (hr : Room j X.A) (hk : 2 ≤ j) (hg : Gl X x) (ha : PA X [e] ta)
    (hdb : (x == ("__debug__" : Str)) = false := by decide) (he : starEach [e] X.env = (false, eval e X.env) :: starEach [] X.env := by rfl) (hpl : (backTo pos (starEach [] X.env)).any (·.1) = false := by rfl) :
    PS X (.Raise (some (.Call (.Name x p) [e] [] pos)) none pos2) (tRaiseF C f W ta) := by
  obtain ⟨fI, fd, ps, i1, i2, F1, b⟩ := c.ini
  have ha' : PA X [e] (fun σ H Q => ∃ Q0 : List V → Hp → Prop, ta σ H Q0 ∧ ∀ vs H1, Q0 vs H1 → Q vs H1) := ⟨fun pos pins s σ H Q I ⟨Q0, h, k⟩ => thn (ha.run pos pins s σ H Q0 I h) fun us s1 ⟨vs, H1, I1, r, q⟩ => ⟨vs, H1, I1, r, k _ _ q⟩⟩
  have z := ps_raise (pos := pos2) hc tk (pmk_oex (p := p) (pos := pos) c.o i1 i2 F1 (hr.mono hk) b .nil pass0 hg c.own.at_ ha' hdb he hpl)
  refine ⟨fun pins s σ H D I h => z.run pins s σ H D I ⟨_, h, fun vs H1 q => ?_⟩⟩
  obtain ⟨v, rfl, hv, q⟩ := q
  refine ⟨by show 1 ≤ 1000; decide, fun a na => ⟨a, v, rfl, hv, upd_same, fun d nd nda => ⟨rfl, d, [(f, v)], upd_same, by rw [upd_ne nda, upd_same], ?_, ?_⟩⟩⟩
  · rw [upd_ne nda] at nd
    exact nd
  · have nd' : H1 d = none := by rw [upd_ne nda] at nd; exact nd
    have e2 : upd (del (upd (upd (upd H1 a (exo a C none)) d (exd d [(f, v)])) a (exo a C (some d))) a) d (.xd [(f, v)]) = upd H1 d (.xd [(f, v)]) := by
      funext b
      by_cases hb : b = d
      · subst hb
        rw [upd_same, upd_same]
      · rw [upd_ne hb, upd_ne hb]
        by_cases h2 : b = a
        · subst h2
          rw [del_same, na]
        · rw [del_ne h2, upd_ne h2, upd_ne hb, upd_ne h2]
    rw [e2]
    exact q d nd'
end VY

set_option Elab.async false
set_option linter.all false
set_option maxRecDepth 100000
set_option maxHeartbeats 4000000
namespace VF
open PySem PySem.Spec PyProof.Rows L2 LamX NdefX VB VM
/-! try with several clauses, some of them with a name -/
def asD (o : Option Nat) (D : Ends) : Ends := match o with
  | none => D
  | some i => ⟨fun t G => D.nx (t.set i none) G, D.rt, fun t G => D.bk (t.set i none) G, fun t G => D.ct (t.set i none) G⟩
def asS (o : Option Nat) (σ : L2.St) (a : Addr) : L2.St := match o with
  | none => σ
  | some i => σ.set i (some (.ref a))
abbrev Cl := Value × Option Nat × (Addr → Value → Option Addr → TS)
/-- what the clauses ask of an exception, one after the other -/
def wMix (K : PySem.W.Frag) (Wout : WX) (D : Ends) : List Cl → WX
  | [] => Wout
  | (c, o, ts) :: r => fun cls d σ H => ∃ b, PySem.W.exmOne K cls c = some b ∧ (b = true → ∀ a, H a = none → ts a cls d (asD o D) (asS o σ a) H) ∧ (b = false → wMix K Wout D r cls d σ H)
inductive ClsOk (X : Cx) : List ExceptHandler → List Cl → Prop
  | nil : ClsOk X [] []
  | cons {x : Str} {nm : Option Str} {c : Value} {o : Option Nat} {ts : Addr → Value → Option Addr → TS} {b0 : Stmt} {bs : List Stmt} {np q : Pos} {hs : List ExceptHandler} {l : List Cl} (hc : Names X x c)
      (hn : (nm = none ∧ o = none) ∨ ∃ n i, nm = some n ∧ o = some i ∧ X.N.Nodup ∧ X.N[i]? = some n ∧ X.env.kindOf n = some .local)
      (hb : ∀ (a : Addr) (ob : Obj) (cls : Value) (d : Option Addr) (pn : List (Addr × Obj)), L2.Zc cls d ob → (∃ fs, ob.data = .fields fs) → PSs (X.suite a ((a, ob) :: pn)) (b0 :: bs) (ts a cls d)) (r : ClsOk X hs l) :
      ClsOk X (.ExceptHandler (some (.Name x np)) nm (b0 :: bs) q :: hs) ((c, o, ts) :: l)
theorem ps_mix {X : Cx} {K : PySem.W.Frag} (hK : X.K = K) {body : List Stmt} {h0 : ExceptHandler} {hds : List ExceptHandler} {l : List Cl} {pos : Pos} {tb : WX → TS} {Wout : WX} (hst : X.stack = X.env :: X.outer) (hf : X.env.frame = some X.env.locals) (tk : L2.Takes X Wout)
    (hb : ∀ (W : WX) (pn : List (Addr × Obj)) (xe : Value → Shared → Prop), L2.Takes (X.tr pn xe) W → PassesOwn (model X.prog X.w) X.A X.env xe → PSs (X.tr pn xe) body (tb W))
    (hh : ClsOk X (h0 :: hds) l) : PS X (.Try body (h0 :: hds) [] [] pos) (fun D σ H => tb (wMix K Wout D l) D σ H) := by
  subst hK
  refine ⟨fun pins s σ H D I h => ?_⟩
  have ok := I.ok
  have fr : X.A.frames = some (X.env :: X.outer) := by rw [ok.frames, hst]
  refine wpAny_Try_except (wpAny_mono ((hb (wMix X.K Wout D l) (X.pn ++ pins) (fun e t1 => wpAny (model X.prog X.w) X.A (noteFrame e X.env) (fun _ t2 => wpAny (model X.prog X.w) X.A (setFlight e none) (fun _ t3 =>
    wpAny (model X.prog X.w) X.A (handleBy e X.env (h0 :: hds)) (SP X pins D) X.xe t3) X.xe t2) X.xe t1) (fun u z xx => ?_) PassesOwn.looking).run [] s σ H D (I.toTry _) h) (fun fl t1 q => ?_) (fun e t1 q => q))
  · obtain ⟨a, B, sI, pins2, σ2, H2, cls, d, rfl, J0, nb, up, sky, na, os, ag, w⟩ := xx
    have J := J0.ofTry ok
    rw [hst] at sky
    show wpAny _ X.A (noteFrame (.ref a) X.env) _ _ _
    refine Sky.land Zc.steady fr hf sky fun g1 fl1 up1 => ?_
    have J1 : Inv X pins σ2 H2 { z with heap := g1 } := J.landed nb fl1.1 (up.trans up1) os ag
    obtain ⟨ob1, fs1, e1, z1, d1⟩ := fl1.there
    have away : a ∉ frs (X.env :: X.outer) := fun hm => by
      obtain ⟨_, ob', e', hn'⟩ := fl1.2.2.1.mem hm
      rw [e1] at e'
      cases e'
      exact hn' _ d1
    have aL : a ≠ X.env.locals := fun e => away (List.mem_filterMap.mpr ⟨X.env, List.mem_cons_self, by rw [hf, e]⟩)
    have aF : a ∉ X.fs := fun hm => by
      obtain ⟨y, hy, e⟩ := List.mem_filterMap.mp hm
      exact away (List.mem_filterMap.mpr ⟨y, List.mem_cons_of_mem _ hy, e⟩)
    have S1 := J1.suite e1 d1 na aL aF
    have go : ∀ {hs : List ExceptHandler} {l' : List Cl}, ClsOk X hs l' → wMix X.K Wout D l' cls d σ2 H2 → wpAny (model X.prog X.w) X.A (handleBy (.ref a) X.env hs) (SP X pins D) X.xe { z with heap := g1 } := by
      intro hs l' hk
      induction hk with
      | nil =>
        refine fun w => wpAny_handleBy_nil ?_
        obtain ⟨_, _, _, ob, fs, T1, oT1, ts1, he, hz, hd, k1, hr⟩ := id fl1
        unfold PySem.passOn
        refine wpAny_bind (wpAny_field he hd k1 ?_)
        rw [if_neg (show ¬ ((Value.ref T1 == Value.none) = true) by simp)]
        have last : wpAny (model X.prog X.w) X.A (setFlight (.ref a) X.env.frame) (fun _ t4 => wpAny (model X.prog X.w) X.A (throw (.ref a) : Sem Flow) (SP X pins D) X.xe t4) X.xe { z with heap := g1 } := by
          rw [hf]
          exact HandSPX.setFlight_upZ fl1 fun g2 hg2 up2 => wpAny_throw (tk _ _ ⟨a, B, sI, pins, σ2, H2, cls, d, rfl, J, nb, (up.trans up1).trans up2, .inr (.inr (by rw [hst]; exact hg2)), na, os, ag, w⟩)
        first
          | exact wpAny_bind (wpAny_pure (wpAny_bind last))
          | exact wpAny_bind last
      | @cons x nm c o ts b0 bs np q hs2 l2 hc hn hb2 r ih =>
        rintro ⟨b, hb1, yes, no⟩
        refine wpAny_handleBy_cons (codeAny_handlers_test ?_) (by intro y; cases y)
        have ty : PySem.W.Looks (model X.prog X.w) g1 (typeOf (.ref a)) cls := fun A2 Q2 E2 s2 k2 q2 => wpAny_typeOf_ref (k2 _ _ e1) (by rw [z1.1]; exact q2)
        have LM := PySem.W.exm_one (M := model X.prog X.w) J1.kIn ty hb1
        have test : ∀ {Q2 E2 : Value → Shared → Prop}, Q2 c { z with heap := g1 } → wpAny (model X.prog X.w) (X.A.mark (some (.ref a))) (eval (.Name x np) X.env) Q2 E2 { z with heap := g1 } := by
          intro Q2 E2 q2
          obtain ⟨hg, hdbg, hm | ⟨hm, hv, hnn⟩⟩ := hc
          · exact ld_glob (X := X.suite a ((a, ob1) :: (X.pn ++ pins))) S1 hg hm q2 hdbg
          · exact ld_blt (X := X.suite a ((a, ob1) :: (X.pn ++ pins))) S1 hg hm hv q2 hnn hdbg
        refine test (LM.here ?_)
        cases b with
        | false =>
          show wpAny _ X.A (handleBy (.ref a) X.env hs2) _ _ _
          exact ih (no rfl)
        | true =>
          have y1 := yes rfl a na
          rcases hn with ⟨rfl, rfl⟩ | ⟨n, i, rfl, rfl, nd, hi, loc⟩
          · refine codeAny_handlers_suite (HandSPX.lands_againZ fl1 fun g2 fl2 up2 => ?_)
            have J2 : Inv X pins σ2 H2 { z with heap := g2 } := J.landed nb fl2.1 ((up.trans up1).trans up2) os ag
            obtain ⟨ob2, fs2, e2, z2, d2⟩ := fl2.there
            refine wpAny_mono ((hb2 a ob2 cls d (X.pn ++ pins) z2 ⟨_, d2⟩).run [] _ _ H2 _ (J2.suite e2 d2 na aL aF) y1) (fun fl t6 q6 => ?_) (fun _ _ y => False.elim y)
            cases fl with
            | ret u =>
              obtain ⟨v6, σ6, H6, S6, r6, q6⟩ := q6
              exact ⟨_, _, _, S6.unsuite ok, r6, q6⟩
            | next => obtain ⟨σ6, H6, S6, q6⟩ := q6; exact ⟨_, _, S6.unsuite ok, q6⟩
            | brk => obtain ⟨σ6, H6, S6, q6⟩ := q6; exact ⟨_, _, S6.unsuite ok, q6⟩
            | cont => obtain ⟨σ6, H6, S6, q6⟩ := q6; exact ⟨_, _, S6.unsuite ok, q6⟩
          · refine codeAny_handlers_suite_as (HandSPX.lands_againZ fl1 fun g2 fl2 up2 => ?_)
            have J2 : Inv X pins σ2 H2 { z with heap := g2 } := J.landed nb fl2.1 ((up.trans up1).trans up2) os ag
            obtain ⟨ob2, fs2, e2, z2, d2⟩ := fl2.there
            refine store_ok (X := X.suite a ((a, ob2) :: (X.pn ++ pins))) (v := .ref a) (J2.suite e2 d2 na aL aF) nd hi (.inl loc) rfl (fun t5 S5 => ?_) (.inr loc)
            refine wpAny_mono ((hb2 a ob2 cls d (X.pn ++ pins) z2 ⟨_, d2⟩).run [] t5 _ H2 _ S5 y1) (fun fl t6 q6 => ?_) (fun _ _ y => False.elim y)
            have away2 : ∀ {σ6 : L2.St} {H6 : Hp} {Q : Shared → Prop}, Inv (X.suite a ((a, ob2) :: (X.pn ++ pins))) [] σ6 H6 t6 → (∀ t7, Inv X pins (σ6.set i none) H6 t7 → Q t7) →
              wpAny (model X.prog X.w) X.A (do bindName X.env n .none; unbindBehindTheSuite X.env n q) (fun _ t7 => Q t7) X.xe t6 := fun S6 hq => gone_ok (S6.unsuite ok) nd hi loc hq
            cases fl with
            | ret u =>
              obtain ⟨v6, σ6, H6, S6, r6, q6⟩ := q6
              exact away2 S6 fun t7 J7 => ⟨_, _, _, J7, r6, q6⟩
            | next => obtain ⟨σ6, H6, S6, q6⟩ := q6; exact away2 S6 fun t7 J7 => ⟨_, _, J7, q6⟩
            | brk => obtain ⟨σ6, H6, S6, q6⟩ := q6; exact away2 S6 fun t7 J7 => ⟨_, _, J7, q6⟩
            | cont => obtain ⟨σ6, H6, S6, q6⟩ := q6; exact away2 S6 fun t7 J7 => ⟨_, _, J7, q6⟩
    exact go hh w
  · cases fl with
    | ret u =>
      obtain ⟨v, t, G, J', r, q⟩ := q
      exact ⟨v, t, G, J'.ofTry ok, r, q⟩
    | next => obtain ⟨t, G, J', q⟩ := q; exact wpAny_execs_nil ⟨t, G, J'.ofTry ok, q⟩
    | brk => obtain ⟨t, G, J', q⟩ := q; exact ⟨t, G, J'.ofTry ok, q⟩
    | cont => obtain ⟨t, G, J', q⟩ := q; exact ⟨t, G, J'.ofTry ok, q⟩
/-! calls with keywords -/
structure CalK (P : Program) (w : World) (K : PySem.W.Frag) (mg : Str → Option Value) (base : Heap) (CX : CXT) (k : Nat) (x : Str) (n : Nat) (ks : List Str) (sp : Sp) : Prop where
  ex : ∃ (f : Addr) (fd : FuncData) (ps : List Str), FnOk P w K mg base CX k f fd ps sp ∧ mg x = some (.ref f) ∧ PySem.W.keepIn K (.ref f) = true ∧ KBn K fd ps n ks (fun us ws => us ++ ws) (fun vs zs => vs ++ zs)
def tCallK (n m : Nat) (sp : Sp) (E : L2.St → XK) (t tk : TA) : TE := fun σ H Q => t σ H fun vs H1 => tk σ H1 fun zs H2 => vs.length = n ∧ zs.length = m ∧ sp (vs ++ zs) H2 Q (E σ)
section
variable {X : Cx} {k j n : Nat} {x : Str} {sp : Sp} {W : WX} {p pos : Pos} {e : Expr} {es : List Expr} {ks : List Str} {kws : List Keyword} {t tk : TA}
/-- f(e, .., k=v, ..), f may raise -/
theorem pe_kX (c : CalK X.prog X.w X.K X.mg X.base (L2.CX X.prog X.w) k x n ks sp) (hr : Room j X.A) (hk : k ≤ j) (hg : Gl X x) (tx : L2.Takes X W) (ha : PA X (e :: es) t) (hkw : PK X kws tk)
    (hall : (backToKw pos (keywordEach kws X.env)).all (·.1.isSome) = true := by rfl) (hks : (backToKw pos (keywordEach kws X.env)).filterMap (·.1) = ks := by rfl) (hdb : (x == ("__debug__" : Str)) = false := by decide)
    (he : starEach (e :: es) X.env = (false, eval e X.env) :: starEach es X.env := by rfl) (hpl : ((backTo pos (starEach (e :: es) X.env)).any (·.1) || (backToKw pos (keywordEach kws X.env)).any (·.1.isNone)) = false := by rfl) :
    PE X (.Call (.Name x p) (e :: es) kws pos) (tCallK n ks.length sp (WE W) t tk) := by
  obtain ⟨f, fd, ps, F, hm, kp, b⟩ := c.ex
  refine ⟨fun pins s σ H Q I h => wpAny_Call_Name_kw (ld_glob I hg hm ?_ hdb)⟩
  refine PySem.W.callWith_KW (h₀ := X.base) I.ok.mod.kin kp hall (thn (ha.run pos pins s σ H _ I h) fun us s1 ⟨vs, H1, I1, r, q⟩ => ?_) hpl he
  refine thn (hkw.run pos pins s1 σ H1 _ I1 q) fun ws s2 ⟨zs, H2, I2, rz, l1, l2, q2⟩ => ⟨I2.kIn, ?_⟩
  rw [hks]
  have r2 := b.rel r rz
  refine wpAny_call (codeAny_mono (F.run X.A X.stack s2 H2 ⟨us, ks.zip ws⟩ (us ++ ws) (vs ++ zs) Q (WE W σ) (hr.mono hk) I2.env0 (b.to s2 us ws I2.kIn (r.length.symm.trans l1) (rz.length.symm.trans l2)) r2 q2) fun fr s' hq => ?_)
  cases fr with
  | error er => exact passAt tx σ pins _ _ er s' I2 hq
  | ok fl =>
    cases fl with
    | next => exact hq.elim
    | brk => exact hq.elim
    | cont => exact hq.elim
    | ret u =>
      obtain ⟨v, H', I3, rv, q3⟩ := I2.after hq
      exact ⟨v, H', I3, rv, q3⟩
theorem pe_k0 (c : CalK X.prog X.w X.K X.mg X.base CX0 k x n ks sp) (hr : Room j X.A) (hk : k ≤ j) (hg : Gl X x) (ha : PA X (e :: es) t) (hkw : PK X kws tk)
    (hall : (backToKw pos (keywordEach kws X.env)).all (·.1.isSome) = true := by rfl) (hks : (backToKw pos (keywordEach kws X.env)).filterMap (·.1) = ks := by rfl) (hdb : (x == ("__debug__" : Str)) = false := by decide)
    (he : starEach (e :: es) X.env = (false, eval e X.env) :: starEach es X.env := by rfl) (hpl : ((backTo pos (starEach (e :: es) X.env)).any (·.1) || (backToKw pos (keywordEach kws X.env)).any (·.1.isNone)) = false := by rfl) :
    PE X (.Call (.Name x p) (e :: es) kws pos) (tCallK n ks.length sp (fun _ => C8.E0) t tk) := by
  obtain ⟨f, fd, ps, F, hm, kp, b⟩ := c.ex
  exact L2.pe_callN F (hr.mono hk) hg hm kp b pass0 ha hkw hall hks hdb he hpl
end
theorem calmK {P : Program} {w : World} {K : PySem.W.Frag} {mg : Str → Option Value} {base : Heap} {k n : Nat} {x : Str} {ks : List Str} {sp : Sp} (c : CalK P w K mg base (L2.CX P w) k x n ks sp) : CalK P w K mg base CX0 k x n ks (VX.calm sp) := by
  obtain ⟨f, fd, ps, F, r⟩ := c.ex
  exact ⟨f, fd, ps, VX.fnCalm F, r⟩
theorem calImpK {P : Program} {w : World} {K : PySem.W.Frag} {mg : Str → Option Value} {base : Heap} {k n : Nat} {x : Str} {CX : CXT} {ks : List Str} {sp sp' : Sp} (c : CalK P w K mg base CX k x n ks sp) (h : ∀ vs H Q E, sp' vs H Q E → sp vs H Q E) : CalK P w K mg base CX k x n ks sp' := by
  obtain ⟨f, fd, ps, F, r⟩ := c.ex
  exact ⟨f, fd, ps, F.imp h, r⟩
/-- all keyword-only parameters are written -/
theorem kb_all {K : PySem.W.Frag} {x qual : Str} {params : Arguments} {body : List Stmt} {scope : Scope} {kws : List (Str × V)} {f : Addr} {fd : FuncData} {ps ks : List Str} {n : Nat} (F : FunD K x qual params body scope [] kws f fd)
    (h : ∀ (kV doc pm : Value) (an : Option Addr) (cdv ct : Value) (us ws : List Value), us.length = n → ws.length = ks.length → bindArgs (PySem.W.fnOf x qual params body scope .none kV doc pm an cdv ct) ⟨us, ks.zip ws⟩ = pure (ps.zip (us ++ ws))) :
    KBn K fd ps n ks (fun us ws => us ++ ws) (fun vs zs => vs ++ zs) := by
  obtain ⟨oc, od, dV, kV, doc, pm, an, cdv, ct, osl, rfl, lk, hcd, hD, hK⟩ := F.ex
  rcases hD with ⟨_, rfl⟩ | ⟨e, _⟩
  · exact ⟨fun s us ws _ l1 l2 => .of_eq (h kV doc pm an cdv ct us ws l1 l2), fun r1 r2 => r1.append r2⟩
  · exact absurd rfl e
/-! what the top must show of an own class of exceptions with an __init__ -/
def shB (K : PySem.W.Frag) (C : Addr) : Bool := match K.lookup C with
  | some ⟨.type "type", _, .cls cd, sl⟩ => (match cd.mro, sl.toList with
    | .ref C' :: bm, [_, _, _, _, some (.builtin n), _] => decide (C' = C) && (decide (n = "ValueError.__new__") && (!cd.hasDel && (cd.hasDict && PySem.HandSPX.refsVE bm)))
    | _, _ => false)
  | _ => false
theorem shB_ok {K : PySem.W.Frag} {C : Addr} (q : shB K C = true) : ∃ nm qn N bs bm sn sub ab col dd k0 k1 k2 k3 k5, K.lookup C = some (excClassObj nm qn C N bs bm true sn sub ab col dd k0 k1 k2 k3 k5 "ValueError.__new__") ∧ PySem.HandSPX.refsVE bm = true := by
  unfold shB at q
  split at q
  · rename_i dd cd sl ho
    split at q
    · rename_i C' bm k0 k1 k2 k3 n k5 hm hs
      simp only [Bool.and_eq_true, decide_eq_true_eq, Bool.not_eq_true'] at q
      obtain ⟨e1, e2, hdel, hd, hr⟩ := q
      subst e1 e2
      obtain ⟨nm, bs, mro, ns, qn, hdi, sn, sub, ab, col, del⟩ := cd
      dsimp only at hm hdel hd
      subst hm hdel hd
      have hsl : sl = #[k0, k1, k2, k3, some (.builtin "ValueError.__new__"), k5] := by
        obtain ⟨l⟩ := sl
        simp only at hs
        rw [hs]
      subst hsl
      exact ⟨nm, qn, ns, bs, bm, sn, sub, ab, col, dd, k0, k1, k2, k3, k5, ho, hr⟩
    · cases q
  · cases q
def oexB (K : PySem.W.Frag) (C : Addr) (f : Str) (fI : Addr) : Bool := shB K C && (decide (PySem.W.findIn K (.ref C) "__setattr__" = some (some (.builtin "object.__setattr__"))) && (decide (PySem.W.subIn K (.ref C) (.type "BaseException") = some true) &&
  (decide (PySem.W.typeIn K (.ref C) = some (.type "type")) && (PySem.W.keepIn K (.ref C) && (xfB K C && (decide (PySem.W.findIn K (.ref C) f = some none) && (decide (PySem.W.findIn K (.ref C) "__init__" = some (some (.ref fI))) && decide (PySem.W.typeIn K (.ref fI) = some (.type "function")))))))))
theorem oexB_ok {K : PySem.W.Frag} {C fI : Addr} {f : Str} (h : oexB K C f fI = true) : OexC K C ∧ XfC K C ∧ PySem.W.findIn K (.ref C) f = some none ∧ PySem.W.findIn K (.ref C) "__init__" = some (some (.ref fI)) ∧ PySem.W.typeIn K (.ref fI) = some (.type "function") := by
  simp only [oexB, Bool.and_eq_true, decide_eq_true_eq] at h
  obtain ⟨h1, h2, h3, h4, h5, h6, h7, h8, h9⟩ := h
  exact ⟨⟨shB_ok h1, h2, h3, h4, h5⟩, xfB_ok h6, h7, h8, h9⟩
def baseB (K : PySem.W.Frag) (C : Addr) : Bool := PySem.W.readsIn K C (.type "type") && (decide (PySem.W.specialIn K (.ref C) "__getattribute__" = some (some (.builtin "type.__getattribute__"))) && (match PySem.W.findCls K (.ref C) (.type "type") "__init__" with
    | some (.val (.builtin n)) => decide (n = "ValueError.__init__")
    | _ => false))
theorem baseB_ok {K : PySem.W.Frag} {mg : Str → Option Value} {x : Str} {C : Addr} (hm : mg x = some (.ref C)) (h : baseB K C = true) : VY.BaseX K mg x C := by
  simp only [baseB, Bool.and_eq_true, decide_eq_true_eq] at h
  obtain ⟨h1, h2, h3⟩ := h
  split at h3
  · rename_i n e
    rw [of_decide_eq_true h3] at e
    exact ⟨hm, h1, h2, e⟩
  · cases h3
end VF

set_option Elab.async false
set_option linter.all false
set_option maxRecDepth 100000
set_option maxHeartbeats 400000
namespace LW
open PySem PySem.Spec PyProof.Rows L2 LamX NdefX VB VM VP VJ VE VX VQ VZ VY VF
abbrev s_UnknownModel___init__ : Stmt := inClass (top 5) 0
theorem sc_UnknownModel___init__ : FnScope ["self", "model"] ["self", "model"] (defScope s_UnknownModel___init__) := ⟨rfl, rfl, rfl, by decide +kernel, rfl, by decide +kernel, by decide +kernel⟩
abbrev s_check_model : Stmt := top 20
theorem sc_check_model : FnScope ["model"] ["model"] (defScope s_check_model) := ⟨rfl, rfl, rfl, by decide +kernel, rfl, by decide +kernel, by decide +kernel⟩
abbrev s_looks_at : Stmt := top 21
theorem sc_looks_at : FnScope ["model", "kind"] ["model", "kind"] (defScope s_looks_at) := ⟨rfl, rfl, rfl, by decide +kernel, rfl, by decide +kernel, by decide +kernel⟩
abbrev s_is_within : Stmt := top 23
theorem sc_is_within : FnScope ["row", "known", "action"] ["row", "known"] (defScope s_is_within) := ⟨rfl, rfl, rfl, by decide +kernel, rfl, by decide +kernel, by decide +kernel⟩
abbrev s_has_part : Stmt := top 22
theorem sc_has_part : FnScope ["rows", "offers", "known", "action", "row"] ["rows", "offers"] (defScope s_has_part) := ⟨rfl, rfl, rfl, by decide +kernel, rfl, by decide +kernel, by decide +kernel⟩
section
variable {P : Program} {w : World} {K : PySem.W.Frag} {mg : Str → Option Value} {base : Heap}
theorem c_unknown {CB CL f : Addr} {fd : FuncData} (oe : OexC K CL) (no : PySem.W.findIn K (.ref CL) "model" = some none) (F : FunD K "__init__" "UnknownModel.__init__" (defArgs s_UnknownModel___init__) (defBody s_UnknownModel___init__) (defScope s_UnknownModel___init__) [] [] f fd)
    (bx : VY.BaseX K mg "ParleyError" CB) : FnOk P w K mg base CX0 1 f fd ["self", "model"] (spXini K CL "model") := by
  refine F.ok sc_UnknownModel___init__ (fun vs H Q E h => ?_) (fun cdv A outer s H vs Q E0 hr h => ?_)
  · obtain ⟨a, v, rfl, _⟩ := h
    rfl
  obtain ⟨a, v, rfl, hv, ha, q⟩ := h
  suffices hh : ∃ t0, PSs (cxOf CX0 P w K mg base ["self", "model"] "UnknownModel.__init__" (defScope s_UnknownModel___init__) f cdv A outer s H E0).nox (defBody s_UnknownModel___init__) t0 ∧
      t0 { nx := fun _ H' => Q .non H', rt := Q } (start ["self", "model"] [.ref a, v]) H by
    obtain ⟨t0, a, b⟩ := hh
    exact ⟨t0, a.nox, b⟩
  refine ⟨_, (pss_cons (ps_expr (VY.pe_baseinit bx rfl (pa_cons (pv 0) (pa_cons (pe_joined (.cons (pe_fmt (pv 1)) (.cons pe_str .nil))) pa_nil)))) (pss_one (ps_ost (pv 0) (pv 1)))), ?_⟩
  have zl := sizeLine_eq
  have e1 : (" is not a model" : Str).length = 15 := by decide +kernel
  have e0 : Str.empty.length = 0 := by decide +kernel
  rcases hv with ⟨y, rfl, hy⟩ | ⟨i, rfl, hi⟩
  · refine ⟨_, rfl, _, rfl, .inl ⟨y, rfl, by omega, _, rfl, ?_, _, rfl, ?_, ?_⟩⟩
    · rw [PySem.Str.length_append, e0]
      omega
    · rw [PySem.Str.length_append, PySem.Str.length_append, e0, e1]
      omega
    · exact ⟨a, CL, _, rfl, (by show 1 ≤ 1000; decide), oe, ha, _, rfl, _, rfl, a, CL, rfl, oe, no, .inl ⟨ha, fun dx nd nda => q dx nd nda⟩⟩
  · have h1 : i.natAbs.log2 < 64 := by
      by_cases h : i.natAbs = 0
      · rw [h]; decide
      · exact (Nat.log2_lt h).mpr hi
    have h2 := PySem.int_text_length_le (k := 64) (by decide) h1
    refine ⟨_, rfl, _, rfl, .inr ⟨i, rfl, by omega, _, rfl, ?_, _, rfl, ?_, ?_⟩⟩
    · rw [PySem.Str.length_append, e0, PySem.ofString_length]
      omega
    · rw [PySem.Str.length_append, PySem.Str.length_append, e0, e1, PySem.ofString_length]
      omega
    · exact ⟨a, CL, _, rfl, (by show 1 ≤ 1000; decide), oe, ha, _, rfl, _, rfl, a, CL, rfl, oe, no, .inl ⟨ha, fun dx nd nda => q dx nd nda⟩⟩
def spChk (CU : Addr) : Sp := fun vs H Q E => ∃ (md : Str), vs = [.str md] ∧ md.length ≤ 1000 ∧ (md ∈ MODS → ∀ H', Same H H' → Q .non H') ∧ (md ∉ MODS → ∀ (d : Addr) (H' : Hp), Same H H' → H' d = some (.xd [("model", .str md)]) → E (.ref CU) (some d) H')
theorem c_check {CU : Addr} (D : Df K mg "check_model" s_check_model) (of_UnknownModel : VY.OwnF P w K mg base "UnknownModel" CU "model") (c_is_model : C8.Cal P w K mg base 1 "is_model" (spTest fun x => decide (x ∈ MODS)) []) : VE.CalX P w K mg base 3 "check_model" (spChk CU) := by
  refine VE.calX D sc_check_model (fun _ _ _ _ _ _ us hl => match us, hl with | [_], _ => rfl) (fun vs H Q E h => ?_) (fun f cdv A outer s0 H vs Q E hr h => ?_)
  · obtain ⟨md, rfl, _⟩ := h
    rfl
  obtain ⟨md, rfl, hm, q, qe⟩ := h
  refine ⟨_, (pss_one (ps_if (pt_not (pt_val (C8.pe_c c_is_model hr (by first | decide | omega) rfl (pa_cons (pv 0) pa_nil))))
      (pss_one (VY.ps_raiseF of_UnknownModel rfl (takes_of rfl rfl rfl rfl) hr (by first | decide | omega) (by rfl) (pa_cons (pv 0) pa_nil)))
      pss_nil)), ?_⟩
  refine ⟨_, rfl, md, rfl, hm, fun H1 s1 => ⟨_, rfl, ?_⟩⟩
  by_cases c : md ∈ MODS
  · exact iteFe (by show (!decide (md ∈ MODS)) = false; rw [decide_eq_true c] <;> rfl) (q c H1 s1)
  · exact iteTe (by show (!decide (md ∈ MODS)) = true; rw [decide_eq_false c] <;> rfl) ⟨_, rfl, _, rfl, .inl ⟨md, rfl, by omega⟩, fun d nd => qe c d _ (s1.trans (same_upd nd _)) upd_same⟩
def kinds (md : Str) : List Str := if md = ("traces" : Str) then ["trace"] else if md = ("failures" : Str) then ["trace", "failure"] else ["trace", "divergence", "failure"]
def spLAt : Sp := fun vs H Q _ => ∃ (md kd : Str), vs = [.str md, .str kd] ∧ md ∈ MODS ∧ ∀ H', Same H H' → Q (.bl (decide (kd ∈ kinds md))) H'
theorem c_lat {dm : Addr} (D : Df K mg "looks_at" s_looks_at) (g_KINDS_IN_MODELS : ∃ u, mg "KINDS_IN_MODELS" = some u ∧ RelV (.ref dm) u) (kK : ∀ md ∈ MODS, ∃ a, KDct K w dm md (.ref a) ∧ ∀ H, SqT K H a ((kinds md).map V.str)) : C8.Cal P w K mg base 1 "looks_at" spLAt [] := by
  refine D.cal sc_looks_at (fun _ _ _ _ _ _ us hl => match us, hl with | [_, _], _ => rfl) (fun vs H Q E h => ?_) (fun f cdv A outer s0 H vs Q E hr h => ?_)
  · obtain ⟨md, kd, rfl, _⟩ := h
    rfl
  obtain ⟨md, kd, rfl, hm, q⟩ := h
  refine ⟨_, (pss_one (ps_ret (pe_cmpR (VK.inQ (K := K) rfl) (pv 1) (pe_ix ix_kdict (C8.pe_gc rfl g_KINDS_IN_MODELS) (pv 0) (fun _ _ => rfl)) rfl))), ?_⟩
  obtain ⟨a, k1, k2⟩ := kK md hm
  refine ⟨_, rfl, _, rfl, dm, md, _, rfl, rfl, k1, a, _, rfl, .inr (k2 H), rfl, all_strs _, ?_⟩
  show Q (.bl (inV (.str kd) ((kinds md).map V.str))) H
  rw [inV_strs]
  exact q H (Same.refl H)
def spWith (K : PySem.W.Frag) : Sp := fun vs H Q _ => ∃ (r d : Addr) (xs : List Str) (kvs : List (Key × V)), vs = [.ref r, .ref d] ∧ SqT K H r (xs.map V.str) ∧ H d = some (.dK kvs) ∧
  ∀ (b : Bool) (H' : Hp), Same H H' → (b = true ↔ ∀ x ∈ xs, (valV kvs (.inr x)).isSome = true) → Q (.bl b) H'
theorem c_within (D : Df K mg "is_within" s_is_within) : C8.Cal P w K mg base 1 "is_within" (spWith K) [] := by
  refine D.cal sc_is_within (fun _ _ _ _ _ _ us hl => match us, hl with | [_, _], _ => rfl) (fun vs H Q E h => ?_) (fun f cdv A outer s0 H vs Q E hr h => ?_)
  · obtain ⟨r, d, xs, kvs, rfl, _⟩ := h
    rfl
  obtain ⟨r, d, xs, kvs, rfl, hT, hd, q⟩ := h
  refine ⟨_, (pss_cons (ps_for PassesOwn.never rfl (pi_tup (pv 0)) (pg_name (i := 2) sc_is_within.nd rfl (Or.inl rfl))
      (pss_one (ps_if (pt_cmp (pc_dnotin (hu_of hr) (pv 2) (pv 1)))
        (pss_one (ps_ret pe_bl))
        pss_nil)))
    (pss_one (ps_ret pe_bl))), ?_⟩
  refine ⟨_, rfl, r, rfl, ⟨_, hT⟩, for_tup (K := K) (a := r) (xs := xs.map V.str)
    (fun i σ H' => ∃ r2 : Option V, σ = [some (.ref r), some (.ref d), r2] ∧ H' = H ∧ ∀ x ∈ xs.take i, (valV kvs (.inr x)).isSome = true) ⟨none, rfl, rfl, fun x hx => by simp at hx⟩ (fun i σ H' _ ⟨_, _, e, _⟩ => by rw [e]; exact hT) ?_ ?_⟩
  · rintro i v σ H' hv ⟨r2, rfl, rfl, inv⟩
    rw [List.getElem?_map] at hv
    obtain ⟨x, hx, rfl⟩ := Option.map_eq_some_iff.mp hv
    have tk : xs.take (i + 1) = xs.take i ++ [x] := by rw [List.take_add_one, hx, Option.toList_some]
    refine ⟨_, rfl, _, rfl, d, _, rfl, DGet.k (k := .inr x) hd, _, rfl, ?_⟩
    refine ite2b (fun c => ?_) (fun c => ?_)
    · refine q false H' (Same.refl H') ⟨fun z => (by cases z), fun z => ?_⟩
      rw [z x (List.mem_of_getElem? hx)] at c
      cases c
    · refine ⟨_, rfl, rfl, fun y hy => ?_⟩
      rw [tk] at hy
      rcases List.mem_append.mp hy with z | z
      · exact inv y z
      · rw [List.mem_singleton.mp z]
        simpa using c
  · rintro σ H' ⟨r2, rfl, rfl, inv⟩
    rw [List.length_map, List.take_length] at inv
    exact q true H' (Same.refl H') ⟨fun _ => inv, fun _ => rfl⟩
def spHasP (K : PySem.W.Frag) : Sp := fun vs H Q _ => ∃ (a o : Addr) (RL : List (Addr × List Str)) (os : List Str), vs = [.ref a, .ref o] ∧ SqL K H a (refs RL) ∧ Rows K H RL ∧ SqT K H o (os.map V.str) ∧ os.length ≤ 1000 ∧
  ∀ (b : Bool) (H' : Hp), Same H H' → (b = true ↔ ∃ r ∈ RL.map (·.2), ∀ x ∈ r, x ∈ os) → Q (.bl b) H'
theorem c_hasp (D : Df K mg "has_part" s_has_part) (c_is_within : C8.Cal P w K mg base 1 "is_within" (spWith K) []) : C8.Cal P w K mg base 2 "has_part" (spHasP K) [] := by
  refine D.cal sc_has_part (fun _ _ _ _ _ _ us hl => match us, hl with | [_, _], _ => rfl) (fun vs H Q E h => ?_) (fun f cdv A outer s0 H vs Q E hr h => ?_)
  · obtain ⟨a, o, RL, os, rfl, _⟩ := h
    rfl
  obtain ⟨a, o, RL, os, rfl, hS, hR, hT, lo, q⟩ := h
  refine ⟨_, (pss_cons (VZ.ps_setDc (i := 2) (own := [("action", 3)]) (tt := tYes) rfl sc_has_part.nd rfl rfl (VZ.sw_trueD rfl rfl rfl (by decide +kernel)) (VZ.pi_seq (K := K) rfl (pv 1)) (blkOk_by (N := ["rows", "offers", "known", "action", "row"]) (sc := defScope s_has_part) (by decide +kernel)) (fun _ _ _ _ _ => (pg_name (i := 3) sc_has_part.nd rfl (Or.inl rfl) (hf := Or.inr rfl))) (fun _ _ _ _ _ => pts_nil) (fun _ _ _ _ _ => (pv 3)) (fun _ _ _ _ _ => pe_bl))
    (pss_cons (ps_for PassesOwn.never rfl (pi_list (pv 0)) (pg_name (i := 4) sc_has_part.nd rfl (Or.inl rfl))
      (pss_one (ps_if (pt_val (C8.pe_c c_is_within hr (by first | decide | omega) rfl (pa_cons (pv 4) (pa_cons (pv 2) pa_nil))))
        (pss_one (ps_ret pe_bl))
        pss_nil)))
    (pss_one (ps_ret pe_bl)))), ?_⟩
  have zl := sizeLine_eq
  refine ⟨_, rfl, o, rfl, dc_seq (K := K) (xs := os.map V.str) (.inr hT) (Same.refl H) (fun D i H' => Same H H' ∧ ∃ kvs : List (Key × V), H' D = some (.dK kvs) ∧ kvs.length ≤ i ∧ ∀ x, (valV kvs (.inr x)).isSome = true ↔ x ∈ os.take i)
    (fun D nD => ⟨same_upd nD _, [], upd_same, Nat.le_refl _, fun x => ⟨fun z => (by cases z), fun z => by simp at z⟩⟩) (fun D i H' z => z.1) ?_ ?_⟩
  · rintro D nD i v H2 hv ⟨s2, kvs, hD, lk, hk⟩
    rw [List.getElem?_map] at hv
    obtain ⟨x, hx, rfl⟩ := Option.map_eq_some_iff.mp hv
    have lti := (List.getElem?_eq_some_iff.mp hx).1
    have tk : os.take (i + 1) = os.take i ++ [x] := by rw [List.take_add_one, hx, Option.toList_some]
    refine ⟨rfl, ?_⟩
    refine ⟨_, rfl, kvs, .inr x, rfl, hD, by omega, sameIn s2 nD, _, upd_same, Nat.le_trans (VZ.putK_len _ _ _) (by omega), fun y => ?_⟩
    rw [valV_put, tk, List.mem_append, List.mem_singleton, ← hk]
    by_cases e : y = x
    · subst e; simp
    · rw [if_neg (fun z => e (Sum.inr.inj z))]; simp [e]
  rintro dk ndk H1 ⟨s1, kvs, hd, _, hk⟩
  rw [List.length_map, List.take_length] at hk
  refine ⟨_, rfl, a, rfl, ⟨_, s1.seq hS⟩, for_list (K := K) (a := a) (xs := refs RL)
    (fun i σ H' => ∃ r4 : Option V, σ = [some (.ref a), some (.ref o), some (.ref dk), none, r4] ∧ Same H1 H' ∧ ∀ r ∈ (RL.map (·.2)).take i, ¬ ∀ x ∈ r, x ∈ os) ⟨none, rfl, Same.refl H1, fun r hr => by simp at hr⟩ (fun i σ H' _ ⟨_, _, z, _⟩ => (s1.trans z).seq hS) ?_ ?_⟩
  · rintro i v σ H' hv ⟨r4, rfl, s2, no⟩
    obtain ⟨r, hr2, rfl⟩ := refs_at hv
    have rin := List.mem_of_getElem? hr2
    have tk : (RL.map (·.2)).take (i + 1) = (RL.map (·.2)).take i ++ [r.2] := by rw [List.take_succ, List.getElem?_map, hr2] <;> rfl
    have s12 := s1.trans s2
    refine ⟨_, rfl, _, rfl, r.1, dk, r.2, kvs, rfl, VB.Same.sqT s12 (hR r rin), s2 _ _ hd, fun b H3 s3 hb => ?_⟩
    have hb2 : b = true ↔ ∀ x ∈ r.2, x ∈ os := hb.trans (forall_congr' fun x => forall_congr' fun _ => hk x)
    refine ⟨_, rfl, ?_⟩
    refine ite2b (fun e => ?_) (fun e => ?_)
    · exact q true H3 (s12.trans s3) ⟨fun _ => ⟨r.2, List.mem_map_of_mem rin, hb2.1 e⟩, fun _ => rfl⟩
    · refine ⟨_, rfl, s2.trans s3, fun y hy => ?_⟩
      rw [tk] at hy
      rcases List.mem_append.mp hy with z | z
      · exact no y z
      · rw [List.mem_singleton.mp z]
        exact fun w => by
          rw [hb2.2 w] at e
          cases e
  · rintro σ H' ⟨r4, rfl, s2, no⟩
    rw [refs_len, List.take_of_length_le (by rw [List.length_map]; exact Nat.le_refl _)] at no
    exact q false H' (s1.trans s2) ⟨fun z => (by cases z), fun ⟨r, hr2, z⟩ => absurd z (no r hr2)⟩
end
end LW

set_option Elab.async false
set_option linter.all false
set_option maxRecDepth 100000
set_option maxHeartbeats 4000000
namespace LW
open PySem PySem.Spec PyProof.Rows L2 LamX NdefX VB VM VP VE VX VQ VZ
abbrev s_diverging : Stmt := top 13
theorem sc_diverging : FnScope ["system"] ["system"] (defScope s_diverging) := ⟨rfl, rfl, rfl, by decide +kernel, rfl, by decide +kernel, by decide +kernel⟩
section
variable {P : Program} {w : World} {K : PySem.W.Frag} {mg : Str → Option Value} {base : Heap}
def spDvg (K : PySem.W.Frag) (C : Addr) : Sp := fun vs H Q _ => ∃ (φ : Addr → Prop) (p : Addr) (n : Int) (E0 : List Ed), vs = [.ref p] ∧ SysAt K φ C H p n E0 ∧ 1 ≤ n ∧ n ≤ 60 ∧ E0.length ≤ 1000 ∧
  ∀ (q : Addr) (H' : Hp) (cs : List Int), Same H H' → H' q = some (.tup (cs.map V.int)) → cs.Pairwise (· < ·) → (∀ s, s ∈ cs ↔ (0 ≤ s ∧ s < n) ∧ ¬ Halt E0 s) → Q (.ref q) H'
theorem c_diverging {C : Addr} (TX : SysTxt K C) (D : Df K mg "diverging" s_diverging) (z_list : mg "list" = none) (z_range : mg "range" = none) (c_diverging_among : C8.Cal P w K mg base 3 "diverging_among" (spDiv K C) []) : C8.Cal P w K mg base 4 "diverging" (spDvg K C) [] := by
  refine D.cal sc_diverging (fun _ _ _ _ _ _ us hl => match us, hl with | [_], _ => rfl) (fun vs H Q E h => ?_) (fun f cdv A outer s0 H vs Q E hr h => ?_)
  · obtain ⟨φ, p, n, E0, rfl, _⟩ := h
    rfl
  obtain ⟨φ, p, n, E0, rfl, SA, n1, n60, lenE, q⟩ := h
  refine ⟨_, (pss_one (ps_ret (C8.pe_c c_diverging_among hr (by first | decide | omega) rfl (pa_cons (pv 0) (pa_cons (pe_listRg rfl (by rfl) z_list (prg_1 (by rfl) z_range (pe_fld (pv 0) rfl))) pa_nil))))), ?_⟩
  have zl := sizeLine_eq
  obtain ⟨⟨dx, te, ll, td, LE, rows, kvs, S⟩, _, ok⟩ := id SA
  refine ⟨_, rfl, _, rfl, p, C, dx, _, _, rfl, S.hp, TX.cl, TX.n0, fl_count n te ll td, n, rfl, RgOk.of_le (by decide) (by omega) (by decide) (by omega), fun l nl => ?_⟩
  have s1 := same_upd nl (.lst (rgV 0 n))
  have hl : upd H l (.lst (rgV 0 n)) l = some (.lst ((rng n.toNat).map V.int)) := by rw [upd_same, rgV_rng]
  generalize upd H l (.lst (rgV 0 n)) = H1 at s1 hl ⊢
  have rm : ∀ x, x ∈ rng n.toNat ↔ 0 ≤ x ∧ x < n := fun x => by rw [rng_mem]; omega
  refine ⟨φ, p, l, n, E0, rng n.toNat, rfl, SA.same s1, lenE, .inl (SqL.of hl), rng_asc _, fun x hx => (rm x).1 hx, by rw [rng_len]; omega, fun s hs t ht => (rm t).2 ⟨(ok _ (tg_mem.1 ht)).2.2.1, (ok _ (tg_mem.1 ht)).2.2.2.1⟩, fun q2 H2 ds s3 hq2 asc2 mem2 => ?_⟩
  exact q q2 H2 ds (s1.trans s3) hq2 asc2 fun s => by rw [mem2, rm]
end
end LW

set_option Elab.async false
set_option linter.all false
set_option maxRecDepth 100000
set_option maxHeartbeats 400000
namespace LW
open PySem PySem.Spec PyProof.Rows L2 LamX NdefX VB VM VP VJ VE VX VQ VZ VY VF
abbrev s_may_hang : Stmt := top 26
theorem sc_may_hang : FnScope ["system", "trace", "hanging", "state", "states", "action"] ["system", "trace"] (defScope s_may_hang) := ⟨rfl, rfl, rfl, by decide +kernel, rfl, by decide +kernel, by decide +kernel⟩
abbrev s_allows : Stmt := top 25
theorem sc_allows : FnScope ["system", "behaviour", "model", "kind", "trace"] ["system", "behaviour", "model"] (defScope s_allows) := ⟨rfl, rfl, rfl, by decide +kernel, rfl, by decide +kernel, by decide +kernel⟩
abbrev s_is_difference : Stmt := top 28
theorem sc_is_difference : FnScope ["first", "second", "model", "behaviour", "is_seen"] ["first", "second", "model", "behaviour"] (defScope s_is_difference) := ⟨rfl, rfl, rfl, by decide +kernel, rfl, by decide +kernel, by decide +kernel⟩
section
variable {P : Program} {w : World} {K : PySem.W.Frag} {mg : Str → Option Value} {base : Heap}
def spHang (K : PySem.W.Frag) (C : Addr) : Sp := fun vs H Q _ => ∃ (φ : Addr → Prop) (p a : Addr) (n : Int) (E0 : List Ed) (xs : List Str), vs = [.ref p, .ref a] ∧ SysAt K φ C H p n E0 ∧ 1 ≤ n ∧ n ≤ 60 ∧ E0.length ≤ 1000 ∧ SqT K H a (xs.map V.str) ∧
  ∀ (b : Bool) (H' : Hp), Same H H' → (b = true ↔ HangP E0 xs) → Q (.bl b) H'
theorem c_hang {C : Addr} (D : Df K mg "may_hang" s_may_hang) (z_any : mg "any" = none) (c_diverging : C8.Cal P w K mg base 4 "diverging" (spDvg K C) []) (c_closure : C8.Cal P w K mg base 3 "closure" (spClos K C) []) (c_after : C8.Cal P w K mg base 4 "after" (spAft K C) []) :
    C8.Cal P w K mg base 5 "may_hang" (spHang K C) [] := by
  refine D.cal sc_may_hang (fun _ _ _ _ _ _ us hl => match us, hl with | [_, _], _ => rfl) (fun vs H Q E h => ?_) (fun f cdv A outer s0 H vs Q E hr h => ?_)
  · obtain ⟨φ, p, a, n, E0, xs, rfl, _⟩ := h
    rfl
  obtain ⟨φ, p, a, n, E0, xs, rfl, SA, n1, n60, lenE, hT, q⟩ := h
  refine ⟨_, (pss_cons (ps_set (i := 2) sc_may_hang.nd rfl (Or.inr rfl) (pe_dc (own := [("state", 3)]) (tt := tYes) rfl sc_may_hang.nd (VZ.pi_seq (K := K) rfl (C8.pe_c c_diverging hr (by first | decide | omega) rfl (pa_cons (pv 0) pa_nil))) (blkOk_by (N := ["system", "trace", "hanging", "state", "states", "action"]) (sc := defScope s_may_hang) (by decide +kernel)) (fun _ _ _ _ _ => (pg_name (i := 3) sc_may_hang.nd rfl (Or.inl rfl) (hf := Or.inr rfl))) (fun _ _ _ _ _ => pts_nil) (fun _ _ _ _ _ => (pv 3)) (fun _ _ _ _ _ => pe_bl)))
    (pss_cons (ps_set (i := 4) sc_may_hang.nd rfl (Or.inl rfl) (C8.pe_c c_closure hr (by first | decide | omega) rfl (pa_cons (pv 0) (pa_cons (pe_lst (pa_cons pe_int pa_nil)) pa_nil))))
    (pss_cons (ps_for PassesOwn.never rfl (pi_tup (pv 1)) (pg_name (i := 5) sc_may_hang.nd rfl (Or.inl rfl))
      (pss_cons (ps_if (pt_val (pe_callB (VKA.anyL (K := K) rfl rfl) (by rfl) z_any (by decide +kernel) (pa_cons (pe_lc (own := [("state", 3)]) (tt := tYes) rfl sc_may_hang.nd (pi_tup (pv 4)) (blkOk_by (N := ["system", "trace", "hanging", "state", "states", "action"]) (sc := defScope s_may_hang) (by decide +kernel)) (fun _ _ _ _ _ => (pg_name (i := 3) sc_may_hang.nd rfl (Or.inl rfl) (hf := Or.inr rfl))) (fun _ _ _ _ _ => pts_nil) (fun _ _ _ _ _ => (pe_cmp (pc_din (hu_of hr) (pv 3) (pv 2))))) pa_nil)))
        (pss_one (ps_ret pe_bl))
        pss_nil)
      (pss_one (ps_set (i := 4) sc_may_hang.nd rfl (Or.inl rfl) (C8.pe_c c_after hr (by first | decide | omega) rfl (pa_cons (pv 0) (pa_cons (pv 4) (pa_cons (pv 5) pa_nil))))))))
    (pss_one (ps_ret (pe_callB (VKA.anyL (K := K) rfl rfl) (by rfl) z_any (by decide +kernel) (pa_cons (pe_lc (own := [("state", 3)]) (tt := tYes) rfl sc_may_hang.nd (pi_tup (pv 4)) (blkOk_by (N := ["system", "trace", "hanging", "state", "states", "action"]) (sc := defScope s_may_hang) (by decide +kernel)) (fun _ _ _ _ _ => (pg_name (i := 3) sc_may_hang.nd rfl (Or.inl rfl) (hf := Or.inr rfl))) (fun _ _ _ _ _ => pts_nil) (fun _ _ _ _ _ => (pe_cmp (pc_din (hu_of hr) (pv 3) (pv 2))))) pa_nil))))))), ?_⟩
  have zl := sizeLine_eq
  refine ⟨_, rfl, φ, p, n, E0, rfl, SA, n1, n60, lenE, fun qd H1 ds s1 hqd asc mem => ?_⟩
  have ld := few_of (ascI_nodup asc) fun x hx => ((mem x).1 hx).1
  refine ⟨qd, rfl, dc_seq (K := K) (xs := ds.map V.int) (.inr (.inl (.inl hqd))) (Same.refl H1) (fun D i H' => Same H1 H' ∧ ∃ kvs : List (Key × V), H' D = some (.dK kvs) ∧ kvs.length ≤ i ∧ ∀ x, (valV kvs (.inl x)).isSome = true ↔ x ∈ ds.take i)
    (fun D nD => ⟨same_upd nD _, [], upd_same, Nat.le_refl _, fun x => ⟨fun z => (by cases z), fun z => by simp at z⟩⟩) (fun D i H' z => z.1) ?_ ?_⟩
  · rintro D nD i v H2 hv ⟨s2, kvs, hD, lk, hk⟩
    rw [List.getElem?_map] at hv
    obtain ⟨x, hx, rfl⟩ := Option.map_eq_some_iff.mp hv
    have lti := (List.getElem?_eq_some_iff.mp hx).1
    have tk : ds.take (i + 1) = ds.take i ++ [x] := by rw [List.take_add_one, hx, Option.toList_some]
    refine ⟨rfl, ?_⟩
    refine ⟨_, rfl, kvs, .inl x, rfl, hD, by omega, sameIn s2 nD, _, upd_same, Nat.le_trans (VZ.putK_len _ _ _) (by omega), fun y => ?_⟩
    rw [valV_put, tk, List.mem_append, List.mem_singleton, ← hk]
    by_cases e : y = x
    · subst e; simp
    · rw [if_neg (fun z => e (Sum.inl.inj z))]; simp [e]
  rintro dk ndk H2 ⟨s2, kvs, hd, _, hk⟩
  rw [List.length_map, List.take_length] at hk
  have s12 := s1.trans s2
  have anyOf : ∀ (qi : Addr) (ci : List Int) (r3 r5 : Option V) (H3 : Hp) (Q' : VK), Same H2 H3 → H3 qi = some (.tup (ci.map V.int)) → (∀ x ∈ ci, 0 ≤ x ∧ x < n) → ci.length ≤ 60 → (∀ b H4, Same H3 H4 → (b = true ↔ ∃ s ∈ ci, ¬ Halt E0 s) → Q' (.bl b) H4) →
      tCB (rAny K) (tCons (tLc (iTup K (tVar 4)) (gName 3) tYes (tDIn (tVar 3) (tVar 2)) [3]) tNil) [some (.ref p), some (.ref a), some (.ref dk), r3, some (.ref qi), r5] H3 Q' := by
    intro qi ci r3 r5 H3 Q' s3 hqi rg lc fin
    refine ⟨_, rfl, qi, rfl, ⟨_, .inl (.inl hqi)⟩, fun D1 nD => ?_⟩
    refine lc_tup (K := K) (a := qi) (xs := ci.map V.int) (fun i H4 => Same H3 H4 ∧ H4 D1 = some (.lst (((ci.take i).map fun y => (valV kvs (.inl y)).isSome).map V.bl))) ⟨same_upd nD _, upd_same⟩ (fun i H4 _ z => .inl (.inl (z.1 _ _ hqi))) ?_ ?_
    · rintro i v H4 hv ⟨s4, hD⟩
      rw [List.getElem?_map] at hv
      obtain ⟨y, hy, rfl⟩ := Option.map_eq_some_iff.mp hv
      have tk : ci.take (i + 1) = ci.take i ++ [y] := by rw [List.take_add_one, hy, Option.toList_some]
      have lti := (List.getElem?_eq_some_iff.mp hy).1
      refine ⟨rfl, ?_⟩
      unfold tYes
      refine iteT ?_
      refine ⟨_, rfl, _, rfl, dk, _, rfl, DGet.k (k := .inl y) ((s3.trans s4) _ _ hd), _, hD, ?_, sameIn s4 nD, ?_⟩
      · rw [List.length_map, List.length_map, List.length_take]; omega
      · rw [upd_same, tk, List.map_append, List.map_append] <;> rfl
    · rintro H4 ⟨s4, hD⟩
      rw [List.length_map, List.take_length] at hD
      refine ⟨D1, _, rfl, SqL.of hD, fin _ H4 s4 ?_⟩
      rw [List.any_map, List.any_eq_true]
      constructor
      · rintro ⟨s, h1, h2⟩
        exact ⟨s, h1, ((mem s).1 ((hk s).1 h2)).2⟩
      · rintro ⟨s, h1, h2⟩
        exact ⟨s, h1, (hk s).2 ((mem s).2 ⟨rg s h1, h2⟩)⟩
  have r0 : ∀ x ∈ [(0 : Int)], 0 ≤ x ∧ x < n := fun x hx => by rw [List.mem_singleton.mp hx]; omega
  refine ⟨_, rfl, (by show 1 ≤ sizeLine; omega), fun l nl => ?_⟩
  have s3 := same_upd nl (.lst [.int 0])
  refine ⟨φ, p, l, n, E0, [0], rfl, SA.same (s12.trans s3), n60, lenE, .inl (SqL.of upd_same), r0, by decide, fun q0 H3 c0 s4 hq0 hc0 => ?_⟩
  have s24 := s3.trans s4
  refine ⟨_, rfl, a, rfl, ⟨_, VB.Same.sqT (s12.trans s24) hT⟩, for_tup (K := K) (a := a) (xs := xs.map V.str)
    (fun i σ H' => ∃ (qi : Addr) (ci : List Int) (r3 r5 : Option V), σ = [some (.ref p), some (.ref a), some (.ref dk), r3, some (.ref qi), r5] ∧ Same H2 H' ∧ H' qi = some (.tup (ci.map V.int)) ∧ Runs E0 c0 (xs.take i) ci ∧ (∀ x ∈ ci, 0 ≤ x ∧ x < n) ∧ ci.length ≤ 60 ∧ ∀ j cs, j < i → Runs E0 c0 (xs.take j) cs → ¬ ∃ s ∈ cs, ¬ Halt E0 s)
    ⟨q0, c0, none, none, rfl, s24, hq0, rfl, clo_range SA.ok hc0 r0, by have := clo_len SA.ok hc0 r0; omega, fun j cs hj => absurd hj (Nat.not_lt_zero j)⟩ (fun i σ H' _ ⟨_, _, _, _, _, s, _⟩ => VB.Same.sqT (s12.trans s) hT) ?_ ?_⟩
  · rintro i v σ H4 hv ⟨qi, ci, r3, r5, rfl, sH, hqi, hr1, hrng, hlen, no⟩
    rw [List.getElem?_map] at hv
    obtain ⟨x, hx, rfl⟩ := Option.map_eq_some_iff.mp hv
    have lti := (List.getElem?_eq_some_iff.mp hx).1
    refine anyOf qi ci r3 (some (.str x)) H4 _ sH hqi hrng hlen fun b H5 s5 hb => ⟨_, rfl, ?_⟩
    have sH5 := sH.trans s5
    refine ite2b (fun e => ?_) (fun e => ?_)
    · exact q true H5 (s12.trans sH5) ⟨fun _ => ⟨i, c0, ci, by omega, hc0, hr1, hb.1 e⟩, fun _ => rfl⟩
    refine ⟨_, rfl, _, rfl, _, rfl, φ, p, qi, n, E0, ci, x, rfl, SA.same (s12.trans sH5), n60, lenE, .inl (.inl (s5 _ _ hqi)), hrng, hlen, fun qn H6 cn s6 hqn hcn => ?_⟩
    refine ⟨qn, cn, _, _, rfl, sH5.trans s6, hqn, ?_, clo_range SA.ok hcn (aft_range SA.ok), by have := clo_len SA.ok hcn (aft_range SA.ok); omega, fun j cs hj hr2 => ?_⟩
    · rw [List.take_add_one, hx, Option.toList_some]
      exact runs_snoc.2 ⟨ci, hr1, hcn⟩
    · rcases Nat.lt_succ_iff_lt_or_eq.mp hj with z | z
      · exact no j cs z hr2
      · subst z
        rw [runs_uniq hr2 hr1, ← hb, e]
        decide
  · rintro σ H4 ⟨qi, ci, r3, r5, rfl, sH, hqi, hr1, hrng, hlen, no⟩
    rw [List.length_map] at hr1 no
    refine anyOf qi ci r3 r5 H4 _ sH hqi hrng hlen fun b H5 s5 hb => q b H5 (s12.trans (sH.trans s5)) (hb.trans ⟨fun z => ⟨xs.length, c0, ci, Nat.le_refl _, hc0, hr1, z⟩, ?_⟩)
    rintro ⟨i, d0, cs, hi, hd0, hr2, z⟩
    rw [hd0.uniq hc0] at hr2
    rcases Nat.lt_or_eq_of_le hi with w | w
    · exact absurd z (no i cs w hr2)
    · rw [w] at hr2
      rw [runs_uniq hr2 hr1] at z
      exact z
def spAllowX (K : PySem.W.Frag) (C CU : Addr) : Sp := fun vs H Q E => ∃ (φ : Addr → Prop) (p b t : Addr) (n : Int) (E0 : List Ed) (xs os : List Str) (k : Nat) (md : Str), vs = [.ref p, .ref b, .str md] ∧ SysAt K φ C H p n E0 ∧ 1 ≤ n ∧ n ≤ 60 ∧ E0.length ≤ 1000 ∧ SqT K H t (xs.map V.str) ∧
  BhS K H b t k os ∧ OkR os ∧ os.length ≤ 1000 ∧ md.length ≤ 1000 ∧ (md ∈ MODS → ∀ (r : Bool) (H' : Hp), Same H H' → (r = true ↔ AllowP E0 xs k os md) → Q (.bl r) H') ∧
  (md ∉ MODS → ∀ (d : Addr) (H' : Hp), Same H H' → H' d = some (.xd [("model", .str md)]) → E (.ref CU) (some d) H')
theorem c_allows {C CU : Addr} (D : Df K mg "allows" s_allows) (c_check_model : VE.CalX P w K mg base 3 "check_model" (spChk CU)) (c_may_hang : C8.Cal P w K mg base 5 "may_hang" (spHang K C) []) (c_is_trace : C8.Cal P w K mg base 6 "is_trace" (spIsT K C) [])
    (c_stable_offers : C8.Cal P w K mg base 6 "stable_offers" (spSto K C) []) (c_has_part : C8.Cal P w K mg base 2 "has_part" (spHasP K) []) : VE.CalX P w K mg base 7 "allows" (spAllowX K C CU) := by
  refine VE.calX D sc_allows (fun _ _ _ _ _ _ us hl => match us, hl with | [_, _, _], _ => rfl) (fun vs H Q E h => ?_) (fun f cdv A outer s0 H vs Q E hr h => ?_)
  · obtain ⟨φ, p, b, t, n, E0, xs, os, k, md, rfl, _⟩ := h
    rfl
  obtain ⟨φ, p, b, t, n, E0, xs, os, k, md, rfl, SA, n1, n60, lenE, hT, hb, oko, los, lmd, kk, ke⟩ := h
  refine ⟨_, (pss_cons (ps_expr (VE.pe_cX c_check_model hr (by first | decide | omega) rfl (takes_of rfl rfl rfl rfl) (pa_cons (pv 2) pa_nil)))
    (pss_cons (ps_set (i := 3) sc_allows.nd rfl (Or.inl rfl) (pe_ix (VK.ixT (K := K) rfl) (pv 1) pe_int (fun _ _ => rfl)))
    (pss_cons (ps_set (i := 4) sc_allows.nd rfl (Or.inl rfl) (pe_ix (VK.ixT (K := K) rfl) (pv 1) pe_int (fun _ _ => rfl)))
    (pss_cons (ps_if (PW.pt (pw_and (pt_cmpR op_eq (pv 2) pe_str (nomark _)) (pw_and1 (pt_val (C8.pe_c c_may_hang hr (by first | decide | omega) rfl (pa_cons (pv 0) (pa_cons (pv 4) pa_nil)))))))
      (pss_one (ps_ret pe_bl))
      pss_nil)
    (pss_cons (ps_if (pt_cmpR op_eq (pv 3) pe_str (nomark _))
      (pss_one (ps_ret (C8.pe_c c_is_trace hr (by first | decide | omega) rfl (pa_cons (pv 0) (pa_cons (pv 4) pa_nil)))))
      pss_nil)
    (pss_one (ps_ret (pe_and (pe_cmpR op_eq (pv 3) pe_str (nomark _)) (pe_one (C8.pe_c c_has_part hr (by first | decide | omega) rfl (pa_cons (C8.pe_c c_stable_offers hr (by first | decide | omega) rfl (pa_cons (pv 0) (pa_cons (pv 4) pa_nil))) (pa_cons (pe_ix (VK.ixT (K := K) rfl) (pv 1) pe_int (fun _ _ => rfl)) pa_nil)))))))))))), ?_⟩
  refine ⟨_, rfl, md, rfl, lmd, fun hm H1 s1 => ?_, fun hm d H1 s1 hd => ke hm d H1 s1 hd⟩
  obtain ⟨ys, hY, y0, y1⟩ := (hb.same s1).at_
  refine ⟨_, rfl, b, _, _, _, rfl, rfl, hY, y0, _, rfl, b, _, _, _, rfl, rfl, hY, y1, ?_⟩
  refine VJ.nmS ?_
  refine VJ.ifJ (fun c H' => Same H H' ∧ (c = true ↔ md = ("divergences" : Str) ∧ HangP E0 xs)) (fun Q' fin => ?_) fun c H2 ⟨s2, hc⟩ => ?_
  · refine ⟨_, rfl, rfl, _, rfl, ?_⟩
    rw [decS]
    refine ite2 (fun e => ?_) (fun e => ?_)
    · have e' := of_decide_eq_true e
      exact ⟨_, rfl, _, rfl, φ, p, t, n, E0, xs, rfl, SA.same s1, n1, n60, lenE, VB.Same.sqT s1 hT, fun r H2 s2 hr1 => ⟨_, rfl, fin r H2 ⟨s1.trans s2, hr1.trans ⟨fun z => ⟨e', z⟩, fun z => z.2⟩⟩⟩⟩
    · exact fin false H1 ⟨s1, ⟨fun z => (by cases z), fun z => absurd (decide_eq_true z.1) e⟩⟩
  refine ite2b (fun e => kk hm true H2 s2 ⟨fun _ => .inl (hc.1 e), fun _ => rfl⟩) (fun e => ?_)
  have nh : ¬ (md = ("divergences" : Str) ∧ HangP E0 xs) := fun z => by
    have := hc.2 z
    rw [e] at this
    cases this
  clear hc e y0 y1 hY
  rcases hb with ⟨rfl, hb⟩ | ⟨rfl, hb⟩ | ⟨rfl, o, hb, ho⟩
  · refine ⟨_, rfl, rfl, _, rfl, iteT ?_⟩
    refine ⟨_, rfl, _, rfl, φ, p, t, n, E0, xs, rfl, SA.same s2, n1, n60, lenE, VB.Same.sqT s2 hT, fun H3 c0 cs s3 hc0 hr1 => kk hm _ H3 (s2.trans s3) ⟨fun z => .inr (.inl ⟨rfl, c0, cs, hc0, hr1, of_decide_eq_true z⟩), fun z => ?_⟩⟩
    rcases z with z | ⟨_, d0, ds, hd0, hr3, z⟩ | z
    · exact absurd z nh
    · rw [hd0.uniq hc0] at hr3
      rw [runs_uniq hr3 hr1] at z
      exact decide_eq_true z
    · exact absurd z.1 (by decide)
  · refine ⟨_, rfl, rfl, _, rfl, iteF ?_⟩
    refine ⟨_, rfl, rfl, _, rfl, iteF ?_⟩
    refine kk hm false H2 s2 ⟨fun z => (by cases z), fun z => ?_⟩
    rcases z with z | z | z
    · exact absurd z nh
    · exact absurd z.1 (by decide)
    · exact absurd z.1 (by decide)
  · refine ⟨_, rfl, rfl, _, rfl, iteF ?_⟩
    refine ⟨_, rfl, rfl, _, rfl, iteT ?_⟩
    refine ⟨_, rfl, _, rfl, φ, p, t, n, E0, xs, rfl, SA.same s2, n1, n60, lenE, VB.Same.sqT s2 hT, fun a H3 RL c0 cs s3 ha hR asc mem lR hc0 hr1 => ?_⟩
    have s23 := s2.trans s3
    refine ⟨_, rfl, b, _, _, _, rfl, rfl, VB.Same.sqT s23 hb, rfl, a, o, RL, os, rfl, SqL.of ha, hR, VB.Same.sqT s23 ho, los, fun r H4 s4 hr2 => kk hm r H4 (s23.trans s4) (hr2.trans ⟨?_, ?_⟩)⟩
    · rintro ⟨x, hx, h2⟩
      obtain ⟨s, h3, h4, rfl⟩ := (mem x).1 hx
      exact .inr (.inr ⟨rfl, c0, cs, hc0, hr1, s, h3, h4, h2⟩)
    · rintro (z | z | ⟨_, d0, ds, hd0, hr3, s, h3, h4, h5⟩)
      · exact absurd z nh
      · exact absurd z.1 (by decide)
      · rw [hd0.uniq hc0] at hr3
        rw [runs_uniq hr3 hr1] at h3
        exact ⟨_, (mem _).2 ⟨s, h3, h4, rfl⟩, h5⟩
/-- a behaviour of the second that the first does not allow -/
def DiffP (E1 E2 : List Ed) (xs : List Str) (k : Nat) (os : List Str) (md : Str) : Prop := kdN k ∈ kinds md ∧ (∃ c0 cs, IsClo E2 [0] c0 ∧ Runs E2 c0 xs cs ∧ BehP E2 cs k os) ∧ ¬ AllowP E1 xs k os md
def spDiffX (K : PySem.W.Frag) (C CU : Addr) : Sp := fun vs H Q E => ∃ (φ ψ : Addr → Prop) (p p2 b t : Addr) (n n2 : Int) (E1 E2 : List Ed) (xs os : List Str) (k : Nat) (md : Str), vs = [.ref p, .ref p2, .str md, .ref b] ∧ SysAt K φ C H p n E1 ∧ 1 ≤ n ∧ n ≤ 60 ∧ E1.length ≤ 1000 ∧
  SysAt K ψ C H p2 n2 E2 ∧ 1 ≤ n2 ∧ n2 ≤ 60 ∧ E2.length ≤ 1000 ∧ SqT K H t (xs.map V.str) ∧
  BhS K H b t k os ∧ OkR os ∧ os.length ≤ 1000 ∧ md.length ≤ 1000 ∧ (md ∈ MODS → ∀ (r : Bool) (H' : Hp), Same H H' → (r = true ↔ DiffP E1 E2 xs k os md) → Q (.bl r) H') ∧
  (md ∉ MODS → ∀ (d : Addr) (H' : Hp), Same H H' → H' d = some (.xd [("model", .str md)]) → E (.ref CU) (some d) H')
theorem c_diff {C CU : Addr} (D : Df K mg "is_difference" s_is_difference) (c_check_model : VE.CalX P w K mg base 3 "check_model" (spChk CU)) (c_looks_at : C8.Cal P w K mg base 1 "looks_at" spLAt []) (c_is_behaviour : C8.Cal P w K mg base 7 "is_behaviour" (spBeh K C) [])
    (c_allows : VE.CalX P w K mg base 7 "allows" (spAllowX K C CU)) : VE.CalX P w K mg base 8 "is_difference" (spDiffX K C CU) := by
  refine VE.calX D sc_is_difference (fun _ _ _ _ _ _ us hl => match us, hl with | [_, _, _, _], _ => rfl) (fun vs H Q E h => ?_) (fun f cdv A outer s0 H vs Q E hr h => ?_)
  · obtain ⟨φ, ψ, p, p2, b, t, n, n2, E1, E2, xs, os, k, md, rfl, _⟩ := h
    rfl
  obtain ⟨φ, ψ, p, p2, b, t, n, n2, E1, E2, xs, os, k, md, rfl, SA, n1, n60, lenE, SB, m1, m60, lenF, hT, hb, oko, los, lmd, kk, ke⟩ := h
  refine ⟨_, (pss_cons (ps_expr (VE.pe_cX c_check_model hr (by first | decide | omega) rfl (takes_of rfl rfl rfl rfl) (pa_cons (pv 2) pa_nil)))
    (pss_cons (ps_set (i := 4) sc_is_difference.nd rfl (Or.inl rfl) (C8.pe_c c_looks_at hr (by first | decide | omega) rfl (pa_cons (pv 2) (pa_cons (pe_ix (VK.ixT (K := K) rfl) (pv 3) pe_int (fun _ _ => rfl)) pa_nil))))
    (pss_one (ps_ret (pe_and (pv 4) (pe_and (C8.pe_c c_is_behaviour hr (by first | decide | omega) rfl (pa_cons (pv 1) (pa_cons (pv 3) pa_nil))) (pe_one (pe_not (VE.pe_cX c_allows hr (by first | decide | omega) rfl (takes_of rfl rfl rfl rfl) (pa_cons (pv 0) (pa_cons (pv 3) (pa_cons (pv 2) pa_nil)))))))))))), ?_⟩
  refine ⟨_, rfl, md, rfl, lmd, fun hm H1 s1 => ?_, fun hm d H1 s1 hd => ke hm d H1 s1 hd⟩
  obtain ⟨ys, hY, y0, y1⟩ := (hb.same s1).at_
  refine ⟨_, rfl, _, rfl, b, _, _, _, rfl, rfl, hY, y0, md, _, rfl, hm, fun H2 s2 => ?_⟩
  have s12 := s1.trans s2
  refine ⟨_, rfl, _, rfl, ?_⟩
  refine ite2 (fun c => ?_) (fun c => ?_)
  · have c' := of_decide_eq_true c
    refine ⟨_, rfl, _, rfl, ψ, p2, b, t, n2, E2, xs, os, k, rfl, SB.same s12, m1, m60, lenF, VB.Same.sqT s12 hT, hb.same s12, oko, fun H3 r c0 cs s3 hc0 hr1 hr2 => ?_⟩
    have s13 := s12.trans s3
    refine ⟨_, rfl, ?_⟩
    refine ite2b (fun e => ?_) (fun e => ?_)
    · refine ⟨_, rfl, _, rfl, _, rfl, φ, p, b, t, n, E1, xs, os, k, md, rfl, SA.same s13, n1, n60, lenE, VB.Same.sqT s13 hT, hb.same s13, oko, los, lmd, fun _ r2 H4 s4 hr3 => ?_, fun hn => absurd hm hn⟩
      refine ⟨_, rfl, kk hm _ H4 (s13.trans s4) ⟨fun z => ⟨c', ⟨c0, cs, hc0, hr1, hr2.1 e⟩, fun y => ?_⟩, fun ⟨_, _, z⟩ => ?_⟩⟩
      · rw [hr3.2 y] at z
        cases z
      · cases r2 with
        | false => rfl
        | true => exact absurd (hr3.1 rfl) z
    · refine kk hm false H3 s13 ⟨fun z => (by cases z), fun ⟨_, ⟨d0, ds, hd0, hr3, z⟩, _⟩ => ?_⟩
      rw [hd0.uniq hc0] at hr3
      rw [runs_uniq hr3 hr1] at z
      rw [hr2.2 z] at e
      cases e
  · exact kk hm false H2 s12 ⟨fun z => (by cases z), fun z => absurd (decide_eq_true z.1) c⟩
end
end LW

set_option Elab.async false
set_option linter.all false
set_option maxRecDepth 100000
set_option maxHeartbeats 4000000
namespace LW
open PySem PySem.Spec PyProof.Rows L2 LamX NdefX VB VM VP VE VX
section
variable {P : Program} {w : World} {K : PySem.W.Frag} {mg : Str → Option Value} {base : Heap}
theorem srt {α : Type} {lt : α → α → Prop} [DecidableRel lt] (tri : ∀ a b, ¬ lt a b → ¬ lt b a → a = b) (tr : ∀ a b c, lt a b → lt b c → lt a c) (ir : ∀ a, ¬ lt a a) {le : Addr × α → Addr × α → Bool} (hle : ∀ a b, le a b = !decide (lt b.2 a.2))
    {L : List (Addr × α)} (nd : (L.map (·.2)).Nodup) : ((L.mergeSort le).map (·.2)).Pairwise lt := by
  have z : (L.mergeSort le).map (·.2) = (L.map (·.2)).mergeSort fun a b => !decide (lt b a) := List.map_mergeSort fun a _ b _ => hle a b
  rw [z]
  exact asc_of_sorted tri (fun a b => rfl) tr ir nd
theorem srtE {L : List (Addr × Ed)} (nd : (L.map (·.2)).Nodup) : ((L.mergeSort (PySem.W.dataLe false encE)).map (·.2)).Pairwise ltE :=
  srt (fun a b h g => ltE_tri h g) (fun a b c => ltE_trans) ltE_irrefl (fun a b => by show (!PySem.W.dataLt (edD b.2) (edD a.2)) = _; rw [dataLt_ed]) nd
theorem srtP {L : List (Addr × Pr)} (nd : (L.map (·.2)).Nodup) : ((L.mergeSort (PySem.W.dataLe false encP)).map (·.2)).Pairwise ltP :=
  srt (fun a b h g => ltP_tri h g) (fun a b c => ltP_trans) ltP_irrefl (fun a b => by show (!PySem.W.dataLt (pqD b.2) (pqD a.2)) = _; rw [dataLt_pr]) nd
theorem mem_srt {α : Type} {le : Addr × α → Addr × α → Bool} {L : List (Addr × α)} {e : α} : e ∈ (L.mergeSort le).map (·.2) ↔ e ∈ L.map (·.2) := ((List.mergeSort_perm L le).map _).mem_iff
theorem alikeE (L : List (Addr × Ed)) : PySem.W.AllAlike (L.map encE) := fun d hd d' hd' => by
  obtain ⟨x, _, rfl⟩ := List.mem_map.mp hd
  obtain ⟨y, _, rfl⟩ := List.mem_map.mp hd'
  rfl
theorem alikeP (L : List (Addr × Pr)) : PySem.W.AllAlike (L.map encP) := fun d hd d' hd' => by
  obtain ⟨x, _, rfl⟩ := List.mem_map.mp hd
  obtain ⟨y, _, rfl⟩ := List.mem_map.mp hd'
  rfl
theorem sortableE (L : List (Addr × Ed)) : PySem.W.Sortable (L.map encE) := .inl fun d hd => by
  obtain ⟨x, _, rfl⟩ := List.mem_map.mp hd
  exact ⟨_, _, rfl⟩
theorem sortableP (L : List (Addr × Pr)) : PySem.W.Sortable (L.map encP) := .inl fun d hd => by
  obtain ⟨x, _, rfl⟩ := List.mem_map.mp hd
  exact ⟨_, _, rfl⟩
theorem depthE (e : Addr × Ed) : (encE e).depth ≤ 8 := by
  show (edD e.2).depth ≤ 8
  simp [edD, PyData.depth, PyData.depthAll]
theorem depthP (e : Addr × Pr) : (encP e).depth ≤ 8 := by
  show (pqD e.2).depth ≤ 8
  simp [pqD, PyData.depth, PyData.depthAll]
theorem eds_slim : ∀ L : List Ed, slimAll 100000 (L.map edD) = true
  | [] => rfl
  | e :: L => by
    rw [List.map_cons]
    unfold slimAll
    rw [eds_slim L, Bool.and_true]
    simp [edD, slimD, slimAll]
theorem eds_depth : ∀ L : List Ed, PyData.depthAll (L.map edD) ≤ 1
  | [] => Nat.zero_le _
  | e :: L => by
    rw [List.map_cons]
    unfold PyData.depthAll
    have z := eds_depth L
    have y : (edD e).depth = 1 := by simp [edD, PyData.depth, PyData.depthAll]
    omega
theorem cutV_refs {α : Type} (L : List (Addr × α)) (lo hi : Option Int) : ∃ L2 : List (Addr × α), cutV (refs L) lo hi = refs L2 ∧ (∀ x ∈ L2, x ∈ L) ∧ L2.length ≤ L.length := by
  unfold cutV
  refine ⟨(L.drop (HT.sIx (refs L).length 0 lo)).take (HT.sIx (refs L).length (refs L).length hi - HT.sIx (refs L).length 0 lo), ?_, fun x hx => List.mem_of_mem_drop (List.mem_of_mem_take hx), ?_⟩
  · unfold refs
    rw [List.map_take, List.map_drop]
  · rw [List.length_take, List.length_drop]
    omega
theorem okE_mono {n m : Int} (h : n ≤ m) {e : Ed} (o : okE n e) : okE m e := ⟨o.1, Int.lt_of_lt_of_le o.2.1 h, o.2.2.1, Int.lt_of_lt_of_le o.2.2.2.1 h, o.2.2.2.2⟩
theorem but_same {pa : Addr} {H H1 H2 : Hp} (s : Same H H1) (b : But pa H1 H2) (f : H pa = none) : Same H H2 := fun c o e => b c o (ne_of_none e f) (s c o e)
theorem strs_slim : ∀ ss : List Str, slimAll 100000 (ss.map PyData.str) = true
  | [] => rfl
  | s :: ss => by rw [List.map_cons]; unfold slimAll; rw [strs_slim ss] <;> rfl
theorem strs_depth : ∀ ss : List Str, PyData.depthAll (ss.map PyData.str) = 0
  | [] => rfl
  | s :: ss => by rw [List.map_cons]; unfold PyData.depthAll; rw [strs_depth ss] <;> rfl
theorem ints_slim : ∀ ss : List Int, slimAll 100000 (ss.map PyData.int) = true
  | [] => rfl
  | s :: ss => by rw [List.map_cons]; unfold slimAll; rw [ints_slim ss] <;> rfl
theorem ints_depth : ∀ ss : List Int, PyData.depthAll (ss.map PyData.int) = 0
  | [] => rfl
  | s :: ss => by rw [List.map_cons]; unfold PyData.depthAll; rw [ints_depth ss] <;> rfl
theorem dpAll_ints {H : Hp} : ∀ ss : List Int, DpAll K H (ss.map V.int) (ss.map PyData.int)
  | [] => .nil
  | s :: ss => .cons (.int s) (dpAll_ints ss)
theorem prs_slim : ∀ L : List Pr, slimAll 100000 (L.map pqD) = true
  | [] => rfl
  | e :: L => by
    rw [List.map_cons]
    unfold slimAll
    rw [prs_slim L, Bool.and_true]
    simp [pqD, slimD, slimAll]
theorem prs_depth : ∀ L : List Pr, PyData.depthAll (L.map pqD) ≤ 1
  | [] => Nat.zero_le _
  | e :: L => by
    rw [List.map_cons]
    unfold PyData.depthAll
    have z := prs_depth L
    have y : (pqD e).depth = 1 := by simp [pqD, PyData.depth, PyData.depthAll]
    omega
theorem srtS_len (l : List Str) : (srtS l).length ≤ l.length := by
  unfold srtS
  rw [List.length_mergeSort]
  exact Nat.le_trans (onceG_len l []) (by rw [List.length_nil]; omega)
theorem ints_dep (cs : List Int) : (PyData.tuple (cs.map PyData.int)).depth < 4 := by
  have z := ints_depth cs
  unfold PyData.depth
  omega
theorem ints_sli {cs : List Int} (h : cs.length ≤ 100000) : slimD 100000 (.tuple (cs.map PyData.int)) = true := by
  simp only [slimD, List.length_map, ints_slim, Bool.and_true, decide_eq_true_eq]
  exact h
theorem dpT {H : Hp} {a : Addr} {cs : List Int} (h : H a = some (.tup (cs.map V.int))) : Dp K H (.ref a) (.tuple (cs.map PyData.int)) := .tup (.inl (.inl h)) (dpAll_ints _)
theorem atI_last (ys : List V) (v : V) : atI (ys ++ [v]) (-1) = some v := by
  unfold atI ixN
  rw [if_neg (by decide), List.length_append, List.length_singleton]
  rw [if_pos (by omega)]
  show (ys ++ [v])[((-1 : Int) + ((ys.length + 1 : Nat) : Int)).toNat]? = some v
  rw [show ((-1 : Int) + ((ys.length + 1 : Nat) : Int)).toNat = ys.length by omega, List.getElem?_append_right (Nat.le_refl _), Nat.sub_self] <;> rfl
theorem ints_shaped (cs : List Int) : SeqAt.shaped (.tuple (cs.map PyData.int)) = true := by
  have k : PyData.canLayAll0 (cs.map PyData.int) = true := by
    induction cs with
    | nil => rfl
    | cons c cs ih => rw [List.map_cons]; simp [PyData.canLayAll0, PyData.canLay0, ih]
  have z := ints_depth cs
  unfold SeqAt.shaped
  rw [show (PyData.tuple (cs.map PyData.int)).canLay0 = PyData.canLayAll0 (cs.map PyData.int) by rw [PyData.canLay0], k, Bool.true_and, decide_eq_true_eq]
  unfold PyData.depth
  omega
theorem eqv_nil (cs : List Int) : (!PyData.eqv (.tuple (cs.map PyData.int)) (.tuple [])) = decide (cs ≠ []) := by
  cases cs with
  | nil => rfl
  | cons c cs => simp [PyData.eqv, PyData.eqvAll]
theorem pickI {α : Type} (xs : List α) (f : α → V) {r : Int} (h0 : 0 ≤ r) (h1 : r < xs.length) : ∃ x ∈ xs, atI (xs.map f) r = some (f x) := by
  have lt : r.toNat < xs.length := by omega
  refine ⟨xs[r.toNat], List.getElem_mem lt, ?_⟩
  have e : r = ((r.toNat : Nat) : Int) := by omega
  generalize hj : r.toNat = j at lt e
  subst e
  exact atI_nat (by rw [List.getElem?_map, List.getElem?_eq_getElem (by omega)] <;> simp [hj])
section
variable {C pa : Addr} {φ : Addr → Prop} {x : Addr} {n : Int} {E : List Ed} {H H' : Hp}
theorem sys_but {ys : List V} (S : SysAt K φ C H x n E) (b : But pa H H') (hp : H pa = some (.lst ys)) (nf : ¬ φ pa) : SysAt K φ C H' x n E :=
  S.stay (Kp.ofBut b hp) (fun c c' d fs h => (b c _ (ne_of h hp (fun z => nomatch z)) h).trans h.symm) (fun c kvs h => (b c _ (ne_of h hp (fun z => nomatch z)) h).trans h.symm) fun c xs h z => ⟨(b c _ (fun e => nf (by rw [← e]; exact z)) h).trans h.symm, z⟩
end
end
end LW

set_option Elab.async false
set_option linter.all false
set_option maxRecDepth 100000
set_option maxHeartbeats 400000
namespace LW
open PySem PySem.Spec PyProof.Rows L2 LamX NdefX VB VM VP VE VX VQ VZ
/-- all but the tables stays, and nothing is lost from sight -/
def Exn (H H' : Hp) : Prop := ExtN H H' ∧ ∀ b, H' b = none → H b = none
theorem Exn.of {H H' : Hp} (s : Same H H') : Exn H H' := ⟨.of s, fun _ e => Same.free s e⟩
theorem Exn.trans {H H1 H2 : Hp} (a : Exn H H1) (b : Exn H1 H2) : Exn H H2 := ⟨a.1.trans b.1, fun c e => a.2 c (b.2 c e)⟩
/-- the edges are among d ones -/
abbrev FewE (d : Nat) (L : List (Addr × Ed)) : Prop := ∃ U : List Ed, U.length ≤ d ∧ ∀ p ∈ L, p.2 ∈ U
theorem refs_app {α : Type} (a b : List (Addr × α)) : refs (a ++ b) = refs a ++ refs b := List.map_append
/-- the key of a number -/
def keyOf (ds : List Int) (i : Int) : Int := match atI (ds.map V.int) (i % 8) with
  | some (.int x) => x + i
  | _ => 0
theorem nlAt {nl : List Int} {i : Int} (h0 : 0 ≤ i) (h1 : i < nl.length) : atI (nl.map V.int) i = some (.int (nl.getD i.toNat 0)) := by
  have e : i = ((i.toNat : Nat) : Int) := by omega
  have l : i.toNat < nl.length := by omega
  rw [e, Int.toNat_natCast]
  refine atI_nat ?_
  rw [List.getElem?_map, List.getElem?_eq_getElem l, List.getD_eq_getElem?_getD, List.getElem?_eq_getElem l] <;> rfl
theorem nl_in {ns : List Int} {n : Int} (n0 : 0 < n) (b : ∀ x ∈ ns, 1 ≤ x ∧ x < n) (i : Nat) : 0 ≤ (0 :: ns).getD i 0 ∧ (0 :: ns).getD i 0 < n := by
  rw [List.getD_eq_getElem?_getD]
  cases e : (0 :: ns)[i]? with
  | none => exact ⟨Int.le_refl _, n0⟩
  | some x =>
    have m := List.mem_of_getElem? e
    rcases List.mem_cons.mp m with rfl | m
    · exact ⟨Int.le_refl _, n0⟩
    · have z := b x m
      exact ⟨by show 0 ≤ x; omega, z.2⟩
/-- one of the four words -/
theorem word4 (x : Int) : ∃ w : Str, atI [V.str "a", V.str "b", V.str "tau", V.str "c"] (x % 4) = some (.str w) ∧ w ∈ acts0 := by
  have h0 := Int.emod_nonneg x (show (4 : Int) ≠ 0 by decide)
  have h1 := Int.emod_lt_of_pos x (show (0 : Int) < 4 by decide)
  generalize x % 4 = g at *
  have k : g = 0 ∨ g = 1 ∨ g = 2 ∨ g = 3 := by omega
  rcases k with rfl | rfl | rfl | rfl
  · exact ⟨"a", rfl, by decide +kernel⟩
  · exact ⟨"b", rfl, by decide +kernel⟩
  · exact ⟨"tau", rfl, by decide +kernel⟩
  · exact ⟨"c", rfl, by decide +kernel⟩
theorem filter_two {α : Type} (p q : α → Bool) : ∀ l : List α, (l.filter p).length + (l.filter q).length ≤ l.length + ((l.filter p).filter q).length
  | [] => Nat.le_refl _
  | x :: l => by
    have ih := filter_two p q l
    by_cases hp : p x = true <;> by_cases hq : q x = true
    · rw [List.filter_cons_of_pos hp, List.filter_cons_of_pos hq, List.filter_cons_of_pos hq]
      simp only [List.length_cons]; omega
    · rw [List.filter_cons_of_pos hp, List.filter_cons_of_neg hq, List.filter_cons_of_neg hq]
      simp only [List.length_cons]; omega
    · rw [List.filter_cons_of_neg hp, List.filter_cons_of_pos hq]
      simp only [List.length_cons]; omega
    · rw [List.filter_cons_of_neg hp, List.filter_cons_of_neg hq]
      simp only [List.length_cons]; omega
/-- at most five edges lead from a state to itself -/
theorem loops5 {D : List Ed} (nd : D.Nodup) (ac : ∀ e ∈ D, e.2.1 ∈ acts0) (X : Int) (h : ∀ e ∈ D, e.1 = X ∧ e.2.2 = X) : D.length ≤ 5 := by
  have n1 : (D.map (·.2.1)).Nodup := by
    refine List.pairwise_map.mpr (List.Pairwise.imp_of_mem (R := fun a b => a ≠ b) (fun {a b} ha hb ne e => ne ?_) nd)
    obtain ⟨a1, a2⟩ := h a ha
    obtain ⟨b1, b2⟩ := h b hb
    exact Prod.ext (a1.trans b1.symm) (Prod.ext e (a2.trans b2.symm))
  have z := nd_le _ acts0 n1 fun x hx => by
    obtain ⟨e, he, rfl⟩ := List.mem_map.mp hx
    exact ac e he
  rw [List.length_map] at z
  exact z
theorem few3 {L A B : List (Addr × Ed)} {d : Nat} {n X : Int} (ac : ∀ p ∈ L, p.2.2.1 ∈ acts0) (hA : ∀ p ∈ A, ∃ q ∈ L, q.2.2.2 = X ∧ p.2 = (q.2.1, q.2.2.1, n))
    (hB : ∀ p ∈ B, ∃ q ∈ L ++ A, q.2.1 = X ∧ p.2 = (n, q.2.2.1, q.2.2.2)) (f : FewE d L) : FewE (2 * d + 10) ((L ++ A) ++ B) := by
  obtain ⟨U, lU, hU⟩ := f
  have nd : (onceG [] (L.map (·.2))).Nodup := onceG_nodup _ _ List.nodup_nil
  have mem : ∀ e, e ∈ onceG [] (L.map (·.2)) ↔ e ∈ L.map (·.2) := fun e => by rw [onceG_mem]; simp
  generalize onceG [] (L.map (·.2)) = D at nd mem
  have lD : D.length ≤ d := Nat.le_trans (nd_le D U nd fun e he => by
    obtain ⟨p, hp, rfl⟩ := List.mem_map.mp ((mem e).1 he)
    exact hU p hp) lU
  have hLP := loops5 (D := (D.filter fun e => decide (e.2.2 = X)).filter fun e => decide (e.1 = X)) (List.Nodup.sublist (List.filter_sublist.trans List.filter_sublist) nd) (fun e he => by
    obtain ⟨p, hp, rfl⟩ := List.mem_map.mp ((mem e).1 (List.mem_filter.mp (List.mem_filter.mp he).1).1)
    exact ac p hp) X fun e he => by
    obtain ⟨h1, h2⟩ := List.mem_filter.mp he
    exact ⟨of_decide_eq_true h2, of_decide_eq_true (List.mem_filter.mp h1).2⟩
  have two := filter_two (fun e : Ed => decide (e.2.2 = X)) (fun e => decide (e.1 = X)) D
  have inD : ∀ q ∈ L, q.2 ∈ D := fun q hq => (mem _).2 (List.mem_map_of_mem hq)
  have inA : ∀ p ∈ A, p.2 ∈ (D.filter fun e => decide (e.2.2 = X)).map fun e => ((e.1, e.2.1, n) : Ed) := fun p hp => by
    obtain ⟨q, hq, h1, h2⟩ := hA p hp
    exact List.mem_map.mpr ⟨q.2, List.mem_filter.mpr ⟨inD q hq, decide_eq_true h1⟩, h2.symm⟩
  have in1 : ∀ q ∈ L ++ A, q.2 ∈ D ++ (D.filter fun e => decide (e.2.2 = X)).map fun e => ((e.1, e.2.1, n) : Ed) := fun q hq => by
    rcases List.mem_append.mp hq with z | z
    · exact List.mem_append_left _ (inD q z)
    · exact List.mem_append_right _ (inA q z)
  refine ⟨(D ++ (D.filter fun e => decide (e.2.2 = X)).map fun e => ((e.1, e.2.1, n) : Ed)) ++ ((D ++ (D.filter fun e => decide (e.2.2 = X)).map fun e => ((e.1, e.2.1, n) : Ed)).filter fun e => decide (e.1 = X)).map fun e => ((n, e.2.1, e.2.2) : Ed), ?_, fun p hp => ?_⟩
  · rw [List.length_append, List.length_map, List.filter_append, List.length_append, List.length_append, List.length_map, List.filter_map, List.length_map]
    have e : (List.filter ((fun e : Ed => decide (e.1 = X)) ∘ fun e => ((e.1, e.2.1, n) : Ed)) (D.filter fun e => decide (e.2.2 = X))).length = ((D.filter fun e => decide (e.2.2 = X)).filter fun e => decide (e.1 = X)).length := rfl
    rw [e]
    omega
  · rcases List.mem_append.mp hp with z | z
    · exact List.mem_append_left _ (in1 p z)
    · obtain ⟨q, hq, h1, h2⟩ := hB p z
      exact List.mem_append_right _ (List.mem_map.mpr ⟨q.2, List.mem_filter.mpr ⟨in1 q hq, decide_eq_true h1⟩, h2.symm⟩)
/-- what a system that is near to another one keeps -/
structure NR (n : Int) (L : List (Addr × Ed)) (c : Int) (L' : List (Addr × Ed)) : Prop where
  c0 : n ≤ c
  c1 : c ≤ n + 1
  len : L'.length ≤ 4 * L.length + 1
  ok : ∀ p ∈ L', okE c p.2
  ac : ∀ p ∈ L', p.2.2.1 ∈ acts0
  few : ∀ d, FewE d L → FewE (2 * d + 10) L'
section
variable {n : Int} {L : List (Addr × Ed)}
theorem NR.sub {L' : List (Addr × Ed)} (ok : ∀ p ∈ L, okE n p.2) (ac : ∀ p ∈ L, p.2.2.1 ∈ acts0) (h : ∀ p ∈ L', p ∈ L) (len : L'.length ≤ 4 * L.length + 1) : NR n L n L' :=
  ⟨Int.le_refl _, by omega, len, fun p hp => ok p (h p hp), fun p hp => ac p (h p hp), fun d ⟨U, h1, h2⟩ => ⟨U, by omega, fun p hp => h2 p (h p hp)⟩⟩
theorem NR.add {e : Addr × Ed} (ok : ∀ p ∈ L, okE n p.2) (ac : ∀ p ∈ L, p.2.2.1 ∈ acts0) (h0 : 0 ≤ e.2.1 ∧ e.2.1 < n ∧ 0 ≤ e.2.2.2 ∧ e.2.2.2 < n) (h1 : e.2.2.1 ∈ acts0) : NR n L n (L ++ [e]) :=
  ⟨Int.le_refl _, by omega, by rw [List.length_append, List.length_singleton]; omega, fun p hp => (List.mem_append.mp hp).elim (ok p) fun z => by rw [List.mem_singleton.mp z]; exact ⟨h0.1, h0.2.1, h0.2.2.1, h0.2.2.2, acts0_sub _ h1⟩,
    fun p hp => (List.mem_append.mp hp).elim (ac p) fun z => by rw [List.mem_singleton.mp z]; exact h1, fun d ⟨U, h1, h2⟩ => ⟨U ++ [e.2], by rw [List.length_append, List.length_singleton]; omega, fun p hp => (List.mem_append.mp hp).elim (fun z => List.mem_append_left _ (h2 p z)) fun z => by rw [List.mem_singleton.mp z]; simp⟩⟩
theorem NR.twice {A B : List (Addr × Ed)} {X : Int} (n0 : 0 ≤ n) (ok : ∀ p ∈ L, okE n p.2) (ac : ∀ p ∈ L, p.2.2.1 ∈ acts0) (hA : ∀ p ∈ A, ∃ q ∈ L, q.2.2.2 = X ∧ p.2 = (q.2.1, q.2.2.1, n)) (lA : A.length ≤ L.length)
    (hB : ∀ p ∈ B, ∃ q ∈ L ++ A, q.2.1 = X ∧ p.2 = (n, q.2.2.1, q.2.2.2)) (lB : B.length ≤ (L ++ A).length) : NR n L (n + 1) ((L ++ A) ++ B) := by
  have ok1 : ∀ p ∈ L ++ A, okE (n + 1) p.2 ∧ p.2.2.1 ∈ acts0 := fun p hp => by
    rcases List.mem_append.mp hp with z | z
    · exact ⟨okE_mono (by omega) (ok p z), ac p z⟩
    · obtain ⟨q, hq, _, e⟩ := hA p z
      have o := ok q hq
      rw [e]
      exact ⟨⟨o.1, by have := o.2.1; show q.2.1 < n + 1; omega, n0, by show n < n + 1; omega, o.2.2.2.2⟩, ac q hq⟩
  have ok2 : ∀ p ∈ (L ++ A) ++ B, okE (n + 1) p.2 ∧ p.2.2.1 ∈ acts0 := fun p hp => by
    rcases List.mem_append.mp hp with z | z
    · exact ok1 p z
    · obtain ⟨q, hq, _, e⟩ := hB p z
      obtain ⟨o, a⟩ := ok1 q hq
      rw [e]
      exact ⟨⟨n0, by show n < n + 1; omega, o.2.2.1, o.2.2.2.1, o.2.2.2.2⟩, a⟩
  refine ⟨by omega, Int.le_refl _, ?_, fun p hp => (ok2 p hp).1, fun p hp => (ok2 p hp).2, fun d f => few3 ac hA hB f⟩
  rw [List.length_append] at lB ⊢
  rw [List.length_append]
  omega
theorem NR.names {L' : List (Addr × Ed)} {nl : List Int} (ok : ∀ p ∈ L, okE n p.2) (ac : ∀ p ∈ L, p.2.2.1 ∈ acts0) (hn : ∀ i : Int, 0 ≤ i → i < n → 0 ≤ nl.getD i.toNat 0 ∧ nl.getD i.toNat 0 < n)
    (h : ∀ p ∈ L', ∃ q ∈ L, p.2 = (nl.getD q.2.1.toNat 0, q.2.2.1, nl.getD q.2.2.2.toNat 0)) (len : L'.length ≤ L.length) : NR n L n L' := by
  refine ⟨Int.le_refl _, by omega, by omega, fun p hp => ?_, fun p hp => ?_, fun d ⟨U, h1, h2⟩ => ⟨U.map fun e => (nl.getD e.1.toNat 0, e.2.1, nl.getD e.2.2.toNat 0), by rw [List.length_map]; omega, fun p hp => ?_⟩⟩
  · obtain ⟨q, hq, e⟩ := h p hp
    obtain ⟨o1, o2, o3, o4, o5⟩ := ok q hq
    rw [e]
    exact ⟨(hn _ o1 o2).1, (hn _ o1 o2).2, (hn _ o3 o4).1, (hn _ o3 o4).2, o5⟩
  · obtain ⟨q, hq, e⟩ := h p hp
    rw [e]
    exact ac q hq
  · obtain ⟨q, hq, e⟩ := h p hp
    rw [e]
    exact List.mem_map.mpr ⟨q.2, h2 q hq, rfl⟩
end
end LW

set_option Elab.async false
set_option linter.all false
set_option maxRecDepth 100000
set_option maxHeartbeats 400000
namespace LW
open PySem PySem.Spec PyProof.Rows L2 LamX NdefX VB VM VP VE VX VQ VZ
abbrev s__law_near : Stmt := top 61
theorem sc__law_near : FnScope ["parts", "cell", "count", "edges", "draws", "way", "at", "state", "action", "target", "order", "names"] ["parts", "cell"] (defScope s__law_near) := ⟨rfl, rfl, rfl, by decide +kernel, rfl, by decide +kernel, by decide +kernel⟩
/-- the name of the lambda's code -/
def qn : Str := (envOfC "_law_near" (defScope s__law_near) 0 0 .none).qual ++ "<lambda>"
/-- the lambda of the def -/
def lamX : Expr := match defBody s__law_near with
  | _ :: _ :: _ :: _ :: _ :: _ :: _ :: .If _ (.Assign _ (.Call _ _ (kw :: _) _) _ :: _) _ _ :: _ => kw.value
  | _ => .Name "" ⟨0, 0, 0, 0⟩
def lamP : Arguments := match lamX with
  | .Lambda a _ _ _ => a
  | _ => ⟨[], [], none, [], [], none, []⟩
def lamB : Expr := match lamX with
  | .Lambda _ b _ _ => b
  | _ => .Name "" ⟨0, 0, 0, 0⟩
def lamS : Scope := match lamX with
  | .Lambda _ _ s _ => s
  | _ => ⟨.function, [], false, false, []⟩
theorem shut_open {cl : List (Str × Addr)} (H : Hp) : VC.shut cl H (VC.open_ cl H) = H := by
  funext b
  by_cases i : VC.In cl b
  · rw [VC.shut_in i]
  · rw [VC.shut_out i, VC.open_out i]
section
variable {P : Program} {w : World} {K : PySem.W.Frag} {mg : Str → Option Value} {base : Heap}
/-- the lambda gives a key of a number -/
def spKey (K : PySem.W.Frag) (d : Addr) (ds : List Int) : Sp := fun vs H Q _ => ∃ i : Int, vs = [.int i] ∧ 0 ≤ i ∧ H d = some (.lst (ds.map V.int)) ∧ ds.length = 8 ∧ Q (.int (keyOf ds i)) H
theorem c_lam {d f : Addr} {ds : List Int} {F : NF} (hF : ∃ q cl c, F = VA.lamF q lamP lamS cl c) :
    VA.VCall P w K mg base 1 f (VC.lamLk f F lamB ["draws"] [some (.ref d)]) (spKey K d ds) := by
  obtain ⟨q0, cl, c, rfl⟩ := hF
  refine VC.lam_locked (N := ["k", "draws"]) (ps := ["k"]) (nscope_by rfl) (fun pm ctv us hl => match us, hl with | [_], _ => rfl) (fun vs H Q E h => ?_) (fun A outer s H vs Q E0 hr hla h => ?_)
  · obtain ⟨_, rfl, _⟩ := h
    rfl
  obtain ⟨i, rfl, i0, hd, len, q⟩ := h
  obtain ⟨l1, l2, L⟩ := hla
  refine ⟨_, pe_op op_add (pe_ix (VK.ixL (K := K) rfl) (pv 1) (pe_op op_mod (pv 0) pe_int) (fun _ _ => rfl)) (pv 0), ?_⟩
  have nd : ¬ VC.In cl d := fun i => by
    obtain ⟨o, v, z, _⟩ := L.frz i
    rw [hd] at z
    cases z
  have g0 := Int.emod_nonneg i (show (8 : Int) ≠ 0 by decide)
  have g1 := Int.emod_lt_of_pos i (show (0 : Int) < 8 by decide)
  obtain ⟨x, _, ex⟩ := pickI ds V.int g0 (by omega)
  refine ⟨_, rfl, _, rfl, _, _, rfl, rfl, (by show (0 : Int) < 8; decide), d, _, _, .int x, rfl, rfl, SqL.of (by rw [VC.open_out nd]; exact hd), ex, _, rfl, ?_⟩
  refine ⟨_, _, rfl, rfl, fun fr => ?_⟩
  have ek : keyOf ds i = x + i := by unfold keyOf; rw [ex]
  rw [shut_open]
  rw [ek] at q
  exact q
/-- between the statements of the def -/
def NSt (K : PySem.W.Frag) (T : List (Addr × Str)) (t d : Addr) (n cell wy : Int) (L : List (Addr × Ed)) (ds : List Int) (H : Hp) (j : Int) (σ : L2.St) (H' : Hp) : Prop :=
  ∃ (c : Int) (el : Addr) (L' : List (Addr × Ed)) (r6 r10 r11 : Option V), σ = [some (.ref t), some (.int cell), some (.int c), some (.ref el), some (.ref d), some (.int wy), r6, none, none, none, r10, r11] ∧
    Exn H H' ∧ Tabs T H' ∧ H' d = some (.lst (ds.map V.int)) ∧ H' el = some (.lst (refs L')) ∧ el ≠ d ∧ H el = none ∧ Eds K H' L' ∧ ((c = n ∧ L' = L) ∨ (wy ≤ j ∧ NR n L c L'))
def spNear (K : PySem.W.Frag) (T : List (Addr × Str)) : Sp := fun vs H Q _ => ∃ (t l : Addr) (n cell : Int) (L : List (Addr × Ed)), vs = [.ref t, .int cell] ∧ SqT K H t [.int n, .ref l] ∧ SqL K H l (refs L) ∧ Eds K H L ∧ L.length ≤ 300 ∧ (∀ x ∈ L, okE n x.2) ∧ (∀ x ∈ L, x.2.2.1 ∈ acts0) ∧ 1 ≤ n ∧ n ≤ 60 ∧ Tabs T H ∧
  ∀ (t' l' : Addr) (c : Int) (L' : List (Addr × Ed)) (H' : Hp), ExtN H H' → Tabs T H' → H' t' = some (.tup [.int c, .ref l']) → H' l' = some (.lst (refs L')) → Eds K H' L' → NR n L c L' → Q (.ref t') H'
theorem c_near {c Pt f : Addr} {fd : FuncData} {T : List (Addr × Str)} (F : FnP K "_law_near" s__law_near f fd) (hm : mg "_law_near" = some (.ref f)) (hcd : fd.code = .ref c) (TB : TabB base mg c Pt)
    (hmT : (Pt, qn) ∈ T) (hu : ∀ p ∈ T, p.1 = Pt → p.2 = qn) (z_len : mg "len" = none) (z_list : mg "list" = none) (z_range : mg "range" = none) (z_sorted : mg "sorted" = none) (c__law_draws : C8.Cal P w K mg base 1 "_law_draws" spDraws []) :
    C8.Cal P w K mg base 5 "_law_near" (spNear K T) [] := by
  have bh : Binds K fd ["parts", "cell"] [] := F.bindsN fun _ _ _ _ _ _ us hl => match us, hl with | [_, _], _ => rfl
  refine ⟨f, fd, ["parts", "cell"], [], ?_, hm, F.kp, bh, .nil⟩
  obtain ⟨oc, od, dV, kV, doc, pm, an, cdv, ct, osl, rfl, lk, hcd2, _, _⟩ := F.ex
  obtain rfl : cdv = .ref c := hcd
  refine fn_of lk hcd2 sc__law_near (fun vs H Q E h => ?_) fun A outer s H vs Q E0 hr h => ?_
  · obtain ⟨t, l, n, cell, L, rfl, _⟩ := h
    rfl
  obtain ⟨t, l, n, cell, L, rfl, hP, hS, hE, len, ok, ac, n1, n60, hT, q⟩ := h
  suffices hh : ∃ t0, PSs (cxOf CX0 P w K mg base ["parts", "cell", "count", "edges", "draws", "way", "at", "state", "action", "target", "order", "names"] "_law_near" (defScope s__law_near) f (.ref c) A outer s H E0).nox (defBody s__law_near) t0 ∧ t0 { nx := fun _ H' => Q .non H', rt := Q } (start ["parts", "cell", "count", "edges", "draws", "way", "at", "state", "action", "target", "order", "names"] [.ref t, .int cell]) H by
    obtain ⟨t0, a, b⟩ := hh
    exact ⟨t0, a.nox, b⟩
  have hfree : ∀ y ∈ lamS.names, y.2 = .free → (defScope s__law_near).names.lookup y.1 = some .cell ∨ (defScope s__law_near).names.lookup y.1 = some .free := by decide +kernel
  have hfr : ∀ y ∈ (["draws"] : List Str), (y, NameKind.free) ∈ lamS.names := by decide +kernel
  refine ⟨_, (pss_cons (ps_asg (pv 0) (pg_tup rfl (pgs_cons (pg_name (i := 2) sc__law_near.nd rfl (Or.inr rfl)) (pgs_cons (pg_name (i := 3) sc__law_near.nd rfl (Or.inl rfl)) pgs_nil))))
    (pss_cons (ps_set (i := 4) sc__law_near.nd rfl (Or.inr rfl) (C8.pe_c c__law_draws hr (by first | decide | omega) rfl (pa_cons (pv 1) (pa_cons pe_int pa_nil))))
    (pss_cons (ps_set (i := 3) sc__law_near.nd rfl (Or.inl rfl) (pe_callTy (VK.listQ (K := K) rfl) (by rfl) z_list (by decide +kernel) (pa_cons (pv 3) pa_nil)))
    (pss_cons (ps_set (i := 5) sc__law_near.nd rfl (Or.inl rfl) (pe_op op_mod (pe_ix (VK.ixL (K := K) rfl) (pv 4) pe_int (fun _ _ => rfl)) pe_int))
    (pss_cons (ps_if (PW.pt (pw_and (pt_cmpR op_eq (pv 5) pe_int (nomark _)) (pw_and1 (pt_cmpR op_gt (pe_callB (VK.lenQ (K := K) rfl) (by rfl) z_len PySem.boot_len (pa_cons (pv 3) pa_nil)) pe_int (nomark _)))))
      (pss_cons (ps_set (i := 6) sc__law_near.nd rfl (Or.inl rfl) (pe_op op_modN (pe_ix (VK.ixL (K := K) rfl) (pv 4) pe_int (fun _ _ => rfl)) (pe_callB (VK.lenQ (K := K) rfl) (by rfl) z_len PySem.boot_len (pa_cons (pv 3) pa_nil))))
      (pss_one (ps_set (i := 3) sc__law_near.nd rfl (Or.inl rfl) (pe_op op_cat (pe_slice (VK.slL (K := K) rfl) (pv 3) po_none (po_some (pv 6))) (pe_slice (VK.slL (K := K) rfl) (pv 3) (po_some (pe_op op_add (pv 6) pe_int)) po_none)))))
      pss_nil)
    (pss_cons (ps_if (pt_cmpR op_eq (pv 5) pe_int (nomark _))
      (pss_one (ps_expr (pe_bm PySem.F.plainAttrs_list PySem.F.slot_list_append PySem.F.type_list_append mt_append (pv 3) (pa_cons (pe_tup (pa_cons (pe_op op_modN (pe_ix (VK.ixL (K := K) rfl) (pv 4) pe_int (fun _ _ => rfl)) (pv 2)) (pa_cons (pe_ix (VK.ixL (K := K) rfl) (pe_lst (pa_cons pe_str (pa_cons pe_str (pa_cons pe_str (pa_cons pe_str pa_nil))))) (pe_op op_mod (pe_ix (VK.ixL (K := K) rfl) (pv 4) pe_int (fun _ _ => rfl)) pe_int) (fun _ _ => rfl)) (pa_cons (pe_op op_modN (pe_ix (VK.ixL (K := K) rfl) (pv 4) pe_int (fun _ _ => rfl)) (pv 2)) pa_nil)))) pa_nil))))
      pss_nil)
    (pss_cons (ps_if (pt_cmpR op_eq (pv 5) pe_int (nomark _))
      (pss_cons (ps_set (i := 3) sc__law_near.nd rfl (Or.inl rfl) (pe_op op_cat (pv 3) (pe_lc (own := [("state", 7), ("action", 8), ("target", 9)]) (g := gTup K 3 (gCons (gName 7) (gCons (gName 8) (gCons (gName 9) gNil)))) rfl sc__law_near.nd (pi_list (pv 3)) (blkOk_by (N := ["parts", "cell", "count", "edges", "draws", "way", "at", "state", "action", "target", "order", "names"]) (sc := defScope s__law_near) (by decide +kernel)) (fun _ _ _ _ _ => (pg_tup rfl (pgs_cons (pg_name (i := 7) sc__law_near.nd rfl (Or.inl rfl) (hf := Or.inr rfl)) (pgs_cons (pg_name (i := 8) sc__law_near.nd rfl (Or.inl rfl) (hf := Or.inr rfl)) (pgs_cons (pg_name (i := 9) sc__law_near.nd rfl (Or.inl rfl) (hf := Or.inr rfl)) pgs_nil))))) (fun _ _ _ _ _ => (pts_one (pt_cmpR op_eq (pv 9) (pe_op op_modN (pe_ix (VK.ixL (K := K) rfl) (pv 4) pe_int (fun _ _ => rfl)) (pv 2)) (nomark _)))) (fun _ _ _ _ _ => (pe_tup (pa_cons (pv 7) (pa_cons (pv 8) (pa_cons (pv 2) pa_nil))))))))
      (pss_cons (ps_set (i := 3) sc__law_near.nd rfl (Or.inl rfl) (pe_op op_cat (pv 3) (pe_lc (own := [("state", 7), ("action", 8), ("target", 9)]) (g := gTup K 3 (gCons (gName 7) (gCons (gName 8) (gCons (gName 9) gNil)))) rfl sc__law_near.nd (pi_list (pv 3)) (blkOk_by (N := ["parts", "cell", "count", "edges", "draws", "way", "at", "state", "action", "target", "order", "names"]) (sc := defScope s__law_near) (by decide +kernel)) (fun _ _ _ _ _ => (pg_tup rfl (pgs_cons (pg_name (i := 7) sc__law_near.nd rfl (Or.inl rfl) (hf := Or.inr rfl)) (pgs_cons (pg_name (i := 8) sc__law_near.nd rfl (Or.inl rfl) (hf := Or.inr rfl)) (pgs_cons (pg_name (i := 9) sc__law_near.nd rfl (Or.inl rfl) (hf := Or.inr rfl)) pgs_nil))))) (fun _ _ _ _ _ => (pts_one (pt_cmpR op_eq (pv 7) (pe_op op_modN (pe_ix (VK.ixL (K := K) rfl) (pv 4) pe_int (fun _ _ => rfl)) (pv 2)) (nomark _)))) (fun _ _ _ _ _ => (pe_tup (pa_cons (pv 2) (pa_cons (pv 8) (pa_cons (pv 9) pa_nil))))))))
      (pss_one (ps_set (i := 2) sc__law_near.nd rfl (Or.inr rfl) (pe_op op_add (pv 2) pe_int)))))
      pss_nil)
    (pss_cons (ps_if (pt_cmpR op_eq (pv 5) pe_int (nomark _))
      (pss_cons (ps_set (i := 10) sc__law_near.nd rfl (Or.inl rfl) (VKY.pe_sortLk (kk := 1) (fr := ["draws"]) (js := [4]) (hr.mono (by first | decide | omega)) (by rfl) z_sorted (fun ok => Caps.made (scope := lamS) ok hfree hfr rfl) (fun y => rfl) (pa_cons (pe_callTy cr_range2 (by rfl) z_range (by decide +kernel) (pa_cons pe_int (pa_cons (pv 2) pa_nil))) pa_nil) (pk_cons (VA.pe_lam (T := T) TB rfl hmT hu rfl hfree) pk_nil)))
      (pss_cons (ps_set (i := 11) sc__law_near.nd rfl (Or.inr rfl) (pe_op op_cat (pe_lst (pa_cons pe_int pa_nil)) (pv 10)))
      (pss_one (ps_setLc (i := 3) (own := [("state", 7), ("action", 8), ("target", 9)]) (g := gTup K 3 (gCons (gName 7) (gCons (gName 8) (gCons (gName 9) gNil)))) (tt := tYes) rfl sc__law_near.nd rfl rfl (sw_true rfl rfl rfl (by decide +kernel)) (pi_list (pv 3)) (blkOk_by (N := ["parts", "cell", "count", "edges", "draws", "way", "at", "state", "action", "target", "order", "names"]) (sc := defScope s__law_near) (by decide +kernel)) (fun _ _ _ _ _ => (pg_tup rfl (pgs_cons (pg_name (i := 7) sc__law_near.nd rfl (Or.inl rfl) (hf := Or.inr rfl)) (pgs_cons (pg_name (i := 8) sc__law_near.nd rfl (Or.inl rfl) (hf := Or.inr rfl)) (pgs_cons (pg_name (i := 9) sc__law_near.nd rfl (Or.inl rfl) (hf := Or.inr rfl)) pgs_nil))))) (fun _ _ _ _ _ => pts_nil) (fun _ _ _ _ _ => (pe_tup (pa_cons (pe_ix (VK.ixL (K := K) rfl) (pv 11) (pv 7) (fun _ _ => rfl)) (pa_cons (pv 8) (pa_cons (pe_ix (VK.ixL (K := K) rfl) (pv 11) (pv 9) (fun _ _ => rfl)) pa_nil)))))))))
      pss_nil)
    (pss_cons (ps_if (PW.pt (pw_and (pt_cmpR op_eq (pv 5) pe_int (nomark _)) (pw_and1 (pt_cmpR op_gt (pe_callB (VK.lenQ (K := K) rfl) (by rfl) z_len PySem.boot_len (pa_cons (pv 3) pa_nil)) pe_int (nomark _)))))
      (pss_one (ps_expr (pe_bm PySem.F.plainAttrs_list PySem.F.slot_list_append PySem.F.type_list_append mt_append (pv 3) (pa_cons (pe_tup (pa_cons (pe_op op_modN (pe_ix (VK.ixL (K := K) rfl) (pv 4) pe_int (fun _ _ => rfl)) (pv 2)) (pa_cons pe_str (pa_cons (pe_op op_modN (pe_ix (VK.ixL (K := K) rfl) (pv 4) pe_int (fun _ _ => rfl)) (pv 2)) pa_nil)))) pa_nil))))
      pss_nil)
    (pss_one (ps_ret (pe_tup (pa_cons (pv 2) (pa_cons (pv 3) pa_nil)))))))))))))), ?_⟩
  have zl := sizeLine_eq
  refine ⟨_, rfl, t, _, rfl, hP, rfl, _, _, rfl, _, _, rfl, rfl, ?_⟩
  refine ⟨_, rfl, cell, 8, rfl, by decide, by decide, fun d ds nd hds rds => ?_⟩
  have hds8 : ds.length = 8 := hds
  have s1 := same_upd nd (.lst (ds.map V.int))
  refine ⟨_, rfl, l, _, rfl, .inl (s1.seq hS), fun el nel => ?_⟩
  have s2 := s1.trans (same_upd nel (.lst (refs L)))
  have hd2 := same_upd nel (.lst (refs L)) _ _ (upd_same : upd H d (.lst (ds.map V.int)) d = some (.lst (ds.map V.int)))
  have hel2 : upd (upd H d (.lst (ds.map V.int))) el (.lst (refs L)) el = some (.lst (refs L)) := upd_same
  have ned : el ≠ d := fun z => by rw [z, upd_same] at nel; cases nel
  have nelH := s1.free nel
  generalize upd (upd H d (.lst (ds.map V.int))) el (.lst (refs L)) = H2 at s2 hd2 hel2 ⊢
  have dAt : ∀ i : Nat, i < 8 → ∃ x : Int, atI (ds.map V.int) (i : Nat) = some (.int x) ∧ 0 ≤ x := fun i hi => by
    obtain ⟨x, hx, ex⟩ := pickI ds V.int (r := (i : Int)) (by omega) (by omega)
    exact ⟨x, ex, (rds x hx).1⟩
  obtain ⟨x0, e0, p0⟩ := dAt 0 (by decide)
  obtain ⟨x1, e1, p1⟩ := dAt 1 (by decide)
  obtain ⟨x2, e2, p2⟩ := dAt 2 (by decide)
  obtain ⟨x3, e3, p3⟩ := dAt 3 (by decide)
  refine ⟨_, rfl, d, _, _, .int x0, rfl, rfl, SqL.of hd2, e0, _, _, rfl, rfl, (by show (0 : Int) < 6; decide), ?_⟩
  generalize hwy : x0 % 6 = wy
  have N0x : True := trivial
  have N0 : NSt K T t d n cell wy L ds H 0 [some (.ref t), some (.int cell), some (.int n), some (.ref el), some (.ref d), some (.int wy), none, none, none, none, none, none] H2 := ⟨n, el, L, none, none, none, rfl, .of s2, hT.ext s2, hd2, hel2, ned, nelH, hE.kp (Kp.of s2), .inl ⟨rfl, rfl⟩⟩
  rw [show (fun i j => V.int (i % j)) x0 6 = V.int wy from congrArg V.int hwy]
  refine VJ.nmS ?_
  have app : ∀ {H3 : Hp} {e : Addr} {L3 : List (Addr × Ed)} {t2 : Addr} {ed : Ed}, Exn H H3 → H3 e = some (.lst (refs L3)) → e ≠ d → H e = none → H3 d = some (.lst (ds.map V.int)) → Eds K H3 L3 → Tabs T H3 → H3 t2 = some (.tup (edV ed)) →
      Exn H (upd H3 e (.lst (refs (L3 ++ [(t2, ed)])))) ∧ Tabs T (upd H3 e (.lst (refs (L3 ++ [(t2, ed)])))) ∧ (upd H3 e (.lst (refs (L3 ++ [(t2, ed)])))) d = some (.lst (ds.map V.int)) ∧ Eds K (upd H3 e (.lst (refs (L3 ++ [(t2, ed)])))) (L3 ++ [(t2, ed)]) := by
    intro H3 e L3 t2 ed x he ne he0 hd hE3 hT3 ht2
    have k := Kp.updL he (.lst (refs (L3 ++ [(t2, ed)])))
    refine ⟨⟨fun b o h1 h2 => by rw [upd_ne (ne_of_none h1 he0)]; exact x.1 b o h1 h2, fun b hb => ?_⟩, fun p hp => ?_, by rw [upd_ne ne.symm]; exact hd, fun p hp => ?_⟩
    · by_cases z : b = e
      · rw [z]; exact he0
      · rw [upd_ne z] at hb; exact x.2 b hb
    · obtain ⟨ps, h1, h2, h3⟩ := hT3 p hp
      refine ⟨ps, by rw [upd_ne (ne_of h1 he (fun z => nomatch z))]; exact h1, h2, fun pos cv hc => ?_⟩
      obtain ⟨c', e1, e2⟩ := h3 pos cv hc
      exact ⟨c', e1, by rw [upd_ne (ne_of e2 he (fun z => nomatch z))]; exact e2⟩
    · rcases List.mem_append.mp hp with z | z
      · exact (hE3.kp k) p z
      · rw [List.mem_singleton.mp z]
        exact k.sqT (.inl (.inl ht2))
  have n0 : 0 < n := by omega
  have nne : n ≠ 0 := by omega
  refine VJ.seqJ (NSt K T t d n cell wy L ds H 1) (fun N hN => ?_) (fun σ1 H3 N1 => ?_)
  · have keep := hN _ _ (show NSt K T t d n cell wy L ds H 1 _ H2 from ⟨n, el, L, none, none, none, rfl, .of s2, hT.ext s2, hd2, hel2, ned, nelH, hE.kp (Kp.of s2), .inl ⟨rfl, rfl⟩⟩)
    refine ⟨_, rfl, rfl, _, rfl, ?_⟩
    refine ite2 (fun c1 => ?_) (fun c1 => ?_)
    · have w1 : wy = 1 := by
        have z := of_decide_eq_true c1
        injection z
      refine ⟨_, rfl, el, _, rfl, .inl (SqL.of hel2), _, _, rfl, rfl, _, rfl, ?_⟩
      refine ite2 (fun c2 => ?_) (fun c2 => ?_)
      · have ln := of_decide_eq_true c2
        refine ⟨_, rfl, d, _, _, .int x1, rfl, rfl, SqL.of hd2, e1, _, rfl, el, _, rfl, .inl (SqL.of hel2), _, _, rfl, rfl, (by omega), ?_⟩
        obtain ⟨La, eLa, subA, lenA⟩ := cutV_refs L none (some (x1.fmod (refs L).length))
        obtain ⟨Lb, eLb, subB, lenB⟩ := cutV_refs L (some (x1.fmod (refs L).length + 1)) none
        refine ⟨_, rfl, _, rfl, _, rfl, el, _, rfl, SqL.of hel2, fun a na => ?_⟩
        have s3 := same_upd na (.lst (cutV (refs L) none (some (x1.fmod (refs L).length))))
        have ha3 : upd H2 a (.lst (cutV (refs L) none (some (x1.fmod (refs L).length)))) a = some (.lst (refs La)) := by rw [upd_same, eLa]
        generalize upd H2 a (.lst (cutV (refs L) none (some (x1.fmod (refs L).length)))) = H3 at s3 ha3 ⊢
        refine ⟨_, rfl, _, rfl, _, _, rfl, rfl, _, rfl, el, _, rfl, SqL.of (s3 _ _ hel2), fun b nb => ?_⟩
        have s4 := same_upd nb (.lst (cutV (refs L) (some (x1.fmod (refs L).length + 1)) none))
        have hb4 : upd H3 b (.lst (cutV (refs L) (some (x1.fmod (refs L).length + 1)) none)) b = some (.lst (refs Lb)) := by rw [upd_same, eLb]
        have ha4 := s4 _ _ ha3
        generalize upd H3 b (.lst (cutV (refs L) (some (x1.fmod (refs L).length + 1)) none)) = H4 at s4 hb4 ha4 ⊢
        refine ⟨a, b, _, _, rfl, rfl, ha4, hb4, (by rw [refs_len, refs_len]; omega), fun g ng => ?_⟩
        have s5 := (s3.trans s4).trans (same_upd ng (.lst (refs La ++ refs Lb)))
        have s25 := s2.trans s5
        have sub : ∀ p ∈ La ++ Lb, p ∈ L := fun p hp => (List.mem_append.mp hp).elim (subA p) (subB p)
        refine hN _ _ ⟨n, g, La ++ Lb, _, none, none, rfl, .of s25, hT.ext s25, s5 _ _ hd2, by rw [upd_same, refs_app], fun z => ?_, (s2.trans (s3.trans s4)).free ng, fun p hp => VB.Same.sqT s25 (hE p (sub p hp)), .inr ⟨by omega, NR.sub ok ac sub (by rw [List.length_append]; omega)⟩⟩
        rw [z] at ng
        rw [(s3.trans s4) _ _ hd2] at ng
        cases ng
      · exact keep
    · exact keep
  obtain ⟨c, el3, L3, r6, r10, r11, rfl, X3, T3, hd3, hel3, ned3, nel3, hE3, alt3⟩ := N1
  refine VJ.seqJ (NSt K T t d n cell wy L ds H 2) (fun N hN => ?_) (fun σ2 H4 N2 => ?_)
  · have keep : ∀ (z : ¬ (wy = 2) ∨ False), NSt K T t d n cell wy L ds H 2 _ H3 := fun _ => ⟨c, el3, L3, r6, r10, r11, rfl, X3, T3, hd3, hel3, ned3, nel3, hE3, alt3.imp id fun z => ⟨by omega, z.2⟩⟩
    refine ⟨_, rfl, rfl, _, rfl, ?_⟩
    refine ite2 (fun c1 => ?_) (fun c1 => ?_)
    · have w1 : wy = 2 := by
        have z := of_decide_eq_true c1
        injection z
      obtain ⟨rfl, rfl⟩ : c = n ∧ L3 = L := alt3.elim id fun z => absurd z.1 (by omega)
      obtain ⟨wd, hwd, hin⟩ := word4 x2
      refine ⟨_, rfl, .inl ⟨rfl, _, SqL.of hel3⟩, _, rfl, d, _, _, .int x1, rfl, rfl, SqL.of hd3, e1, _, rfl, _, _, rfl, rfl, nne, ?_⟩
      refine ⟨(by show 4 ≤ sizeLine; omega), fun tl ntl => ?_⟩
      have s4 := same_upd ntl (.lst [V.str "a", .str "b", .str "tau", .str "c"])
      have htl : upd H3 tl (.lst [V.str "a", .str "b", .str "tau", .str "c"]) tl = some (.lst [V.str "a", .str "b", .str "tau", .str "c"]) := upd_same
      generalize upd H3 tl (.lst [V.str "a", .str "b", .str "tau", .str "c"]) = H4 at s4 htl ⊢
      refine ⟨_, rfl, d, _, _, .int x2, rfl, rfl, SqL.of (s4 _ _ hd3), e2, _, _, rfl, rfl, (by show (0 : Int) < 4; decide), tl, _, _, _, rfl, rfl, SqL.of htl, hwd, ?_⟩
      refine ⟨_, rfl, d, _, _, .int x3, rfl, rfl, SqL.of (s4 _ _ hd3), e3, _, rfl, _, _, rfl, rfl, nne, (by show 3 ≤ sizeLine; omega), fun t2 nt2 => ?_⟩
      have s5 := s4.trans (same_upd nt2 (.tup [.int (x1.fmod c), .str wd, .int (x3.fmod c)]))
      have ht5 : upd H4 t2 (.tup [.int (x1.fmod c), .str wd, .int (x3.fmod c)]) t2 = some (.tup (edV (x1.fmod c, wd, x3.fmod c))) := upd_same
      generalize upd H4 t2 (.tup [.int (x1.fmod c), .str wd, .int (x3.fmod c)]) = H5 at s5 ht5 ⊢
      obtain ⟨a1, a2, a3, a4⟩ := app (X3.trans (.of s5)) (s5 _ _ hel3) ned3 nel3 (s5 _ _ hd3) (hE3.kp (Kp.of s5)) (T3.ext s5) ht5
      refine ⟨el3, _, _, rfl, rfl, s5 _ _ hel3, (by rw [refs_len]; omega), ?_⟩
      rw [show refs L3 ++ [V.ref t2] = refs (L3 ++ [(t2, ((x1.fmod c, wd, x3.fmod c) : Ed))]) from (refs_snoc L3 (t2, ((x1.fmod c, wd, x3.fmod c) : Ed))).symm]
      exact hN _ _ ⟨c, el3, _, _, _, _, rfl, a1, a2, a3, upd_same, ned3, nel3, a4, .inr ⟨by omega, NR.add ok ac ⟨Int.fmod_nonneg_of_pos _ n0, Int.fmod_lt_of_pos _ n0, Int.fmod_nonneg_of_pos _ n0, Int.fmod_lt_of_pos _ n0⟩ hin⟩⟩
    · exact hN _ _ (keep (.inl fun z => c1 (decide_eq_true (by rw [z]))))
  clear N0
  obtain ⟨c, el4, L4, r6, r10, r11, rfl, X4, T4, hd4, hel4, ned4, nel4, hE4, alt4⟩ := N2
  refine VJ.seqJ (NSt K T t d n cell wy L ds H 3) (fun N hN => ?_) (fun σ3 H5 N3 => ?_)
  · have keep : ∀ (z : ¬ (wy = 3) ∨ False), NSt K T t d n cell wy L ds H 3 _ H4 := fun _ => ⟨c, el4, L4, r6, r10, r11, rfl, X4, T4, hd4, hel4, ned4, nel4, hE4, alt4.imp id fun z => ⟨by omega, z.2⟩⟩
    refine ⟨_, rfl, rfl, _, rfl, ?_⟩
    refine ite2 (fun c1 => ?_) (fun c1 => ?_)
    · have w1 : wy = 3 := by
        have z := of_decide_eq_true c1
        injection z
      obtain ⟨rfl, rfl⟩ : c = n ∧ L4 = L := alt4.elim id fun z => absurd z.1 (by omega)
      have hE4' : Eds K H4 L4 := hE4
      refine ⟨_, rfl, _, rfl, el4, rfl, ⟨_, SqL.of hel4⟩, fun D1 nD => ?_⟩
      refine lc_list (K := K) (a := el4) (xs := refs L4) (fun i H' => ∃ A : List (Addr × Ed), Same H4 H' ∧ H' D1 = some (.lst (refs A)) ∧ Eds K H' A ∧ A.length ≤ i ∧ ∀ p ∈ A, ∃ q ∈ L4, q.2.2.2 = x1.fmod c ∧ p.2 = (q.2.1, q.2.2.1, c))
        ⟨[], same_upd nD _, upd_same, fun p hp => absurd hp List.not_mem_nil, Nat.le_refl _, fun p hp => absurd hp List.not_mem_nil⟩ (fun i H' _ ⟨_, z, _⟩ => SqL.of (z _ _ hel4)) ?_ ?_
      · rintro i v H5 hv ⟨A, s5, hD, hA, lA, cA⟩
        obtain ⟨p, hp, rfl⟩ := refs_at hv
        have pin := List.mem_of_getElem? hp
        have lti := (List.getElem?_eq_some_iff.mp hp).1
        refine ⟨p.1, _, rfl, (hE4.kp (Kp.of s5)) p pin, rfl, .int p.2.1, _, rfl, .str p.2.2.1, _, rfl, .int p.2.2.2, _, rfl, rfl, rfl, ?_⟩
        refine ⟨_, rfl, _, rfl, d, _, _, .int x1, rfl, rfl, SqL.of (s5 _ _ hd4), e1, _, rfl, _, _, rfl, rfl, nne, rfl, _, rfl, ?_⟩
        refine ite2 (fun c2 => ?_) (fun c2 => ?_)
        · have w2 : p.2.2.2 = x1.fmod c := by
            have z := of_decide_eq_true c2
            injection z
          refine ⟨_, rfl, _, rfl, _, rfl, (by show 3 ≤ sizeLine; omega), fun t2 nt2 => ?_⟩
          have s6 := s5.trans (same_upd nt2 (.tup [.int p.2.1, .str p.2.2.1, .int c]))
          have hD6 := same_upd nt2 (.tup [.int p.2.1, .str p.2.2.1, .int c]) _ _ hD
          have k6 := Kp.updL hD6 (.lst (refs A ++ [.ref t2]))
          refine ⟨_, hD6, (by rw [refs_len]; omega), A ++ [(t2, (p.2.1, p.2.2.1, c))], sameIn s6 nD, by rw [upd_same, refs_snoc], fun y hy => ?_, by rw [List.length_append, List.length_singleton]; omega, fun y hy => ?_⟩
          · rcases List.mem_append.mp hy with z | z
            · exact (hA.kp ((Kp.of (same_upd nt2 _)).trans k6)) y z
            · rw [List.mem_singleton.mp z]
              exact k6.sqT (.inl (.inl upd_same))
          · rcases List.mem_append.mp hy with z | z
            · exact cA y z
            · rw [List.mem_singleton.mp z]
              exact ⟨p, pin, w2, rfl⟩
        · exact ⟨A, s5, hD, hA, by omega, cA⟩
      rintro H5 ⟨A, s5, hD, hA, lA, cA⟩
      rw [refs_len] at lA
      refine ⟨el4, D1, _, _, rfl, rfl, s5 _ _ hel4, hD, (by rw [refs_len, refs_len]; omega), fun g ng => ?_⟩
      have s6 := s5.trans (same_upd ng (.lst (refs L4 ++ refs A)))
      have hg6 : upd H5 g (.lst (refs L4 ++ refs A)) g = some (.lst (refs (L4 ++ A))) := by rw [upd_same, refs_app]
      have hA6 := hA.kp (Kp.of (same_upd ng (.lst (refs L4 ++ refs A))))
      have ngH := s5.free ng
      generalize upd H5 g (.lst (refs L4 ++ refs A)) = H6 at s6 hg6 hA6 ⊢
      have hB6 : Eds K H6 (L4 ++ A) := fun y hy => (List.mem_append.mp hy).elim ((hE4.kp (Kp.of s6)) y) (hA6 y)
      refine ⟨_, rfl, _, rfl, g, rfl, ⟨_, SqL.of hg6⟩, fun D2 nD2 => ?_⟩
      refine lc_list (K := K) (a := g) (xs := refs (L4 ++ A)) (fun i H' => ∃ B : List (Addr × Ed), Same H6 H' ∧ H' D2 = some (.lst (refs B)) ∧ Eds K H' B ∧ B.length ≤ i ∧ ∀ p ∈ B, ∃ q ∈ L4 ++ A, q.2.1 = x1.fmod c ∧ p.2 = (c, q.2.2.1, q.2.2.2))
        ⟨[], same_upd nD2 _, upd_same, fun p hp => absurd hp List.not_mem_nil, Nat.le_refl _, fun p hp => absurd hp List.not_mem_nil⟩ (fun i H' _ ⟨_, z, _⟩ => SqL.of (z _ _ hg6)) ?_ ?_
      · rintro i v H7 hv ⟨B, s7, hD2, hB, lB, cB⟩
        obtain ⟨p, hp, rfl⟩ := refs_at hv
        have pin := List.mem_of_getElem? hp
        have lti := (List.getElem?_eq_some_iff.mp hp).1
        rw [List.length_append] at lti
        refine ⟨p.1, _, rfl, (hB6.kp (Kp.of s7)) p pin, rfl, .int p.2.1, _, rfl, .str p.2.2.1, _, rfl, .int p.2.2.2, _, rfl, rfl, rfl, ?_⟩
        refine ⟨_, rfl, _, rfl, d, _, _, .int x1, rfl, rfl, SqL.of ((s6.trans s7) _ _ hd4), e1, _, rfl, _, _, rfl, rfl, nne, rfl, _, rfl, ?_⟩
        refine ite2 (fun c2 => ?_) (fun c2 => ?_)
        · have w2 : p.2.1 = x1.fmod c := by
            have z := of_decide_eq_true c2
            injection z
          refine ⟨_, rfl, _, rfl, _, rfl, (by show 3 ≤ sizeLine; omega), fun t2 nt2 => ?_⟩
          have s8 := s7.trans (same_upd nt2 (.tup [.int c, .str p.2.2.1, .int p.2.2.2]))
          have hD8 := same_upd nt2 (.tup [.int c, .str p.2.2.1, .int p.2.2.2]) _ _ hD2
          have k8 := Kp.updL hD8 (.lst (refs B ++ [.ref t2]))
          refine ⟨_, hD8, (by rw [refs_len]; omega), B ++ [(t2, (c, p.2.2.1, p.2.2.2))], sameIn s8 nD2, by rw [upd_same, refs_snoc], fun y hy => ?_, by rw [List.length_append, List.length_singleton]; omega, fun y hy => ?_⟩
          · rcases List.mem_append.mp hy with z | z
            · exact (hB.kp ((Kp.of (same_upd nt2 _)).trans k8)) y z
            · rw [List.mem_singleton.mp z]
              exact k8.sqT (.inl (.inl upd_same))
          · rcases List.mem_append.mp hy with z | z
            · exact cB y z
            · rw [List.mem_singleton.mp z]
              exact ⟨p, pin, w2, rfl⟩
        · exact ⟨B, s7, hD2, hB, by omega, cB⟩
      rintro H7 ⟨B, s7, hD2, hB, lB, cB⟩
      rw [refs_len] at lB
      have lB' := lB
      rw [List.length_append] at lB'
      refine ⟨g, D2, _, _, rfl, rfl, s7 _ _ hg6, hD2, (by rw [refs_len, refs_len, List.length_append]; omega), fun g2 ng2 => ?_⟩
      have s8 := s7.trans (same_upd ng2 (.lst (refs (L4 ++ A) ++ refs B)))
      have s48 := s6.trans s8
      refine ⟨_, rfl, _, _, rfl, rfl, hN _ _ ⟨c + 1, g2, (L4 ++ A) ++ B, _, _, _, rfl, X4.trans (.of s48), T4.ext s48, s48 _ _ hd4, by rw [upd_same]; exact congrArg (fun z => some (HO.lst z)) (refs_app (L4 ++ A) B).symm, fun z => ?_, ?_, fun y hy => ?_, .inr ⟨by omega, NR.twice (by omega) ok ac cA lA cB lB⟩⟩⟩
      · rw [z, (s6.trans s7) _ _ hd4] at ng2
        cases ng2
      · exact X4.2 _ ((s6.trans s7).free ng2)
      · rcases List.mem_append.mp hy with z | z
        · exact (hB6.kp (Kp.of s8)) y z
        · exact (hB.kp (Kp.of (same_upd ng2 _))) y z
    · exact hN _ _ (keep (.inl fun z => c1 (decide_eq_true (by rw [z]))))
  obtain ⟨c, el5, L5, r6, r10, r11, rfl, X5, T5, hd5, hel5, ned5, nel5, hE5, alt5⟩ := N3
  refine VJ.seqJ (NSt K T t d n cell wy L ds H 4) (fun N hN => ?_) (fun σ4 H6 N4 => ?_)
  · have keep : ∀ (z : ¬ (wy = 4) ∨ False), NSt K T t d n cell wy L ds H 4 _ H5 := fun _ => ⟨c, el5, L5, r6, r10, r11, rfl, X5, T5, hd5, hel5, ned5, nel5, hE5, alt5.imp id fun z => ⟨by omega, z.2⟩⟩
    refine ⟨_, rfl, rfl, _, rfl, ?_⟩
    refine ite2 (fun c1 => ?_) (fun c1 => ?_)
    · have w1 : wy = 4 := by
        have z := of_decide_eq_true c1
        injection z
      obtain ⟨rfl, rfl⟩ : c = n ∧ L5 = L := alt5.elim id fun z => absurd z.1 (by omega)
      refine ⟨_, rfl, 1, c, rfl, fun r nr => ?_⟩
      have s6 := same_upd nr (.rng 1 c)
      have hr6 : upd H5 r (.rng 1 c) r = some (.rng 1 c) := upd_same
      generalize upd H5 r (.rng 1 c) = H6 at s6 hr6 ⊢
      refine ⟨T5.ext s6, fun fl c' H7 eN nn T7 f0 f1 c1' => ?_⟩
      have x67 : Exn H6 H7 := ⟨eN, nn⟩
      have hd7 := eN _ _ (s6 _ _ hd5) (fun _ z => nomatch z)
      refine ⟨r, fl, 1, c, rfl, rfl, eN _ _ hr6 (fun _ z => nomatch z), RgOk.of_le (by decide) (by omega) (by decide) (by omega), by omega, fun H8 lk8 => ?_, fun o ns no lns bns => ?_⟩
      · have s78 : Same H7 H8 := fun b o e => by
          rw [lk8.out b fun i => by rw [lk8.free b i] at e; cases e]
          exact e
        exact ⟨_, spKey K d ds, c_lam ⟨_, _, c', rfl⟩, ⟨s78 _ _ f1, s78 _ _ c1', lk8.lk⟩, fun i i0 i1 => ⟨keyOf ds i, fun Q' hq => ⟨i, rfl, by omega, s78 _ _ hd7, hds8, hq⟩⟩⟩
      have s8 := same_upd no (.lst (ns.map V.int))
      have ho8 : upd H7 o (.lst (ns.map V.int)) o = some (.lst (ns.map V.int)) := upd_same
      generalize upd H7 o (.lst (ns.map V.int)) = H8 at s8 ho8 ⊢
      have x58 : Exn H5 H8 := (Exn.of s6).trans (x67.trans (.of s8))
      refine ⟨(by show 1 ≤ sizeLine; omega), fun z nz => ?_⟩
      have s9 := same_upd nz (.lst [.int 0])
      have hz9 : upd H8 z (.lst [.int 0]) z = some (.lst [.int 0]) := upd_same
      generalize upd H8 z (.lst [.int 0]) = H9 at s9 hz9 ⊢
      refine ⟨_, rfl, z, o, _, _, rfl, rfl, hz9, s9 _ _ ho8, (by rw [List.length_map]; show 1 + ns.length ≤ sizeLine; omega), fun g ng => ?_⟩
      have s10 := s9.trans (same_upd ng (.lst ([.int 0] ++ ns.map V.int)))
      have hg10 : upd H9 g (.lst ([.int 0] ++ ns.map V.int)) g = some (.lst ((0 :: ns).map V.int)) := upd_same
      generalize upd H9 g (.lst ([.int 0] ++ ns.map V.int)) = H10 at s10 hg10 ⊢
      have x5 : Exn H5 H10 := x58.trans (.of s10)
      have hel10 := x5.1 _ _ hel5 (fun _ z => nomatch z)
      have hd10 := x5.1 _ _ hd5 (fun _ z => nomatch z)
      have hE10 : Eds K H10 L5 := hE5.kp (Kp.ofExtN x5.1)
      have T10 := T7.ext (s8.trans s10)
      have lnl : ((0 :: ns).length : Int) = c := by rw [List.length_cons, lns]; omega
      have inl := nl_in (ns := ns) n0 bns
      generalize 0 :: ns = nl at hg10 lnl inl
      refine ⟨_, rfl, el5, rfl, ⟨_, SqL.of hel10⟩, fun D1 nD => ?_⟩
      refine lc_list (K := K) (a := el5) (xs := refs L5) (fun i H' => ∃ A : List (Addr × Ed), Same H10 H' ∧ H' D1 = some (.lst (refs A)) ∧ Eds K H' A ∧ A.length ≤ i ∧ ∀ p ∈ A, ∃ q ∈ L5, p.2 = (nl.getD q.2.1.toNat 0, q.2.2.1, nl.getD q.2.2.2.toNat 0))
        ⟨[], same_upd nD _, upd_same, fun p hp => absurd hp List.not_mem_nil, Nat.le_refl _, fun p hp => absurd hp List.not_mem_nil⟩ (fun i H' _ ⟨_, z, _⟩ => SqL.of (z _ _ hel10)) ?_ ?_
      · rintro i v H11 hv ⟨A, s11, hD, hA, lA, cA⟩
        obtain ⟨p, hp, rfl⟩ := refs_at hv
        have pin := List.mem_of_getElem? hp
        have lti := (List.getElem?_eq_some_iff.mp hp).1
        obtain ⟨o1, o2, o3, o4, o5⟩ := ok p pin
        have hg11 := s11 _ _ hg10
        refine ⟨p.1, _, rfl, (hE10.kp (Kp.of s11)) p pin, rfl, .int p.2.1, _, rfl, .str p.2.2.1, _, rfl, .int p.2.2.2, _, rfl, rfl, rfl, ?_⟩
        unfold tYes
        refine iteT ?_
        refine ⟨_, rfl, _, rfl, g, _, _, _, rfl, rfl, SqL.of hg11, nlAt o1 (by omega), _, rfl, _, rfl, _, rfl, g, _, _, _, rfl, rfl, SqL.of hg11, nlAt o3 (by omega), (by show 3 ≤ sizeLine; omega), fun t2 nt2 => ?_⟩
        have s12 := s11.trans (same_upd nt2 (.tup [.int (nl.getD p.2.1.toNat 0), .str p.2.2.1, .int (nl.getD p.2.2.2.toNat 0)]))
        have hD12 := same_upd nt2 (.tup [.int (nl.getD p.2.1.toNat 0), .str p.2.2.1, .int (nl.getD p.2.2.2.toNat 0)]) _ _ hD
        have k12 := Kp.updL hD12 (.lst (refs A ++ [.ref t2]))
        refine ⟨_, hD12, (by rw [refs_len]; omega), A ++ [(t2, (nl.getD p.2.1.toNat 0, p.2.2.1, nl.getD p.2.2.2.toNat 0))], sameIn s12 nD, by rw [upd_same, refs_snoc], fun y hy => ?_, by rw [List.length_append, List.length_singleton]; omega, fun y hy => ?_⟩
        · rcases List.mem_append.mp hy with z | z
          · exact (hA.kp ((Kp.of (same_upd nt2 _)).trans k12)) y z
          · rw [List.mem_singleton.mp z]
            exact k12.sqT (.inl (.inl upd_same))
        · rcases List.mem_append.mp hy with z | z
          · exact cA y z
          · rw [List.mem_singleton.mp z]
            exact ⟨p, pin, rfl⟩
      rintro H11 ⟨A, s11, hD, hA, lA, cA⟩
      rw [refs_len] at lA
      refine hN _ _ ⟨c, D1, A, _, _, _, rfl, X5.trans (x5.trans (.of s11)), T10.ext s11, s11 _ _ hd10, hD, fun z => ?_, (X5.trans x5).2 _ nD, hA, .inr ⟨by omega, NR.names ok ac (fun i i0 i1 => inl i.toNat) cA lA⟩⟩
      rw [z, hd10] at nD
      cases nD
    · exact hN _ _ (keep (.inl fun z => c1 (decide_eq_true (by rw [z]))))
  obtain ⟨c, el6, L6, r6, r10, r11, rfl, X6, T6, hd6, hel6, ned6, nel6, hE6, alt6⟩ := N4
  refine VJ.seqJ (NSt K T t d n cell wy L ds H 5) (fun N hN => ?_) (fun σ5 H7 N5 => ?_)
  · have keep : NSt K T t d n cell wy L ds H 5 _ H6 := ⟨c, el6, L6, r6, r10, r11, rfl, X6, T6, hd6, hel6, ned6, nel6, hE6, alt6.imp id fun z => ⟨by omega, z.2⟩⟩
    refine ⟨_, rfl, rfl, _, rfl, ?_⟩
    refine ite2 (fun c1 => ?_) (fun c1 => ?_)
    · have w1 : wy = 5 := by
        have z := of_decide_eq_true c1
        injection z
      refine ⟨_, rfl, el6, _, rfl, .inl (SqL.of hel6), _, _, rfl, rfl, _, rfl, ?_⟩
      refine ite2 (fun c2 => ?_) (fun c2 => ?_)
      · obtain ⟨rfl, rfl⟩ : c = n ∧ L6 = L := alt6.elim id fun z => absurd z.1 (by omega)
        refine ⟨_, rfl, .inl ⟨rfl, _, SqL.of hel6⟩, _, rfl, d, _, _, .int x1, rfl, rfl, SqL.of hd6, e1, _, rfl, _, _, rfl, rfl, nne, ?_⟩
        refine ⟨_, rfl, d, _, _, .int x2, rfl, rfl, SqL.of hd6, e2, _, rfl, _, _, rfl, rfl, nne, (by show 3 ≤ sizeLine; omega), fun t2 nt2 => ?_⟩
        have s5 := same_upd nt2 (.tup [.int (x1.fmod c), .str "tau", .int (x2.fmod c)])
        have ht5 : upd H6 t2 (.tup [.int (x1.fmod c), .str "tau", .int (x2.fmod c)]) t2 = some (.tup (edV (x1.fmod c, "tau", x2.fmod c))) := upd_same
        generalize upd H6 t2 (.tup [.int (x1.fmod c), .str "tau", .int (x2.fmod c)]) = H7 at s5 ht5 ⊢
        obtain ⟨a1, a2, a3, a4⟩ := app (X6.trans (.of s5)) (s5 _ _ hel6) ned6 nel6 (s5 _ _ hd6) (hE6.kp (Kp.of s5)) (T6.ext s5) ht5
        refine ⟨el6, _, _, rfl, rfl, s5 _ _ hel6, (by rw [refs_len]; omega), ?_⟩
        rw [show refs L6 ++ [V.ref t2] = refs (L6 ++ [(t2, ((x1.fmod c, "tau", x2.fmod c) : Ed))]) from (refs_snoc L6 (t2, ((x1.fmod c, "tau", x2.fmod c) : Ed))).symm]
        exact hN _ _ ⟨c, el6, _, _, _, _, rfl, a1, a2, a3, upd_same, ned6, nel6, a4, .inr ⟨by omega, NR.add ok ac ⟨Int.fmod_nonneg_of_pos _ n0, Int.fmod_lt_of_pos _ n0, Int.fmod_nonneg_of_pos _ n0, Int.fmod_lt_of_pos _ n0⟩ (by show ("tau" : Str) ∈ acts0; decide +kernel)⟩⟩
      · exact hN _ _ keep
    · exact hN _ _ keep
  obtain ⟨c, el7, L7, r6, r10, r11, rfl, X7, T7, hd7, hel7, ned7, nel7, hE7, alt7⟩ := N5
  have nr : NR n L c L7 := alt7.elim (fun z => by rw [z.1, z.2]; exact NR.sub ok ac (fun p hp => hp) (by omega)) fun z => z.2
  refine ⟨_, rfl, _, rfl, (by show 2 ≤ sizeLine; omega), fun t' nt' => ?_⟩
  have s8 := same_upd nt' (.tup [.int c, .ref el7])
  exact q t' el7 c L7 _ (X7.trans (.of s8)).1 (T7.ext s8) upd_same (s8 _ _ hel7) (hE7.kp (Kp.of s8)) nr
end
end LW

set_option Elab.async false
set_option linter.all false
set_option maxRecDepth 100000
set_option maxHeartbeats 400000
namespace LW
open PySem PySem.Spec PyProof.Rows L2 LamX NdefX VB VM VP VE VX
abbrev s__law_made : Stmt := top 47
theorem sc__law_made : FnScope ["parts"] ["parts"] (defScope s__law_made) := ⟨rfl, rfl, rfl, by decide +kernel, rfl, by decide +kernel, by decide +kernel⟩
section
variable {P : Program} {w : World} {K : PySem.W.Frag} {mg : Str → Option Value} {base : Heap}
def spMade (K : PySem.W.Frag) (C : Addr) : Sp := fun vs H Q _ => ∃ (t l : Addr) (n : Int) (L : List (Addr × Ed)), vs = [.ref t] ∧ SqT K H t [.int n, .ref l] ∧ SqL K H l (refs L) ∧ Eds K H L ∧ 1 ≤ n ∧ n ≤ 20000 ∧ L.length < 64 ∧ (∀ x ∈ L, okE n x.2) ∧
  ∀ (φ : Addr → Prop) (x : Addr) (E : List Ed) (H' : Hp), Same H H' → SysAt K φ C H' x n E → (∀ e, e ∈ E ↔ e ∈ L.map (·.2)) → Q (.ref x) H'
theorem c_made {C CS : Addr} (D : Df K mg "_law_made" s__law_made) (z_list : mg "list" = none) (c_System : C8.Mak P w K mg base 5 "System" C (calm (spInitX K C CS)) []) : C8.Cal P w K mg base 7 "_law_made" (spMade K C) [] := by
  refine D.cal sc__law_made (fun _ _ _ _ _ _ us hl => match us, hl with | [_], _ => rfl) (fun vs H Q E h => ?_) (fun f cdv A outer s H vs Q E hr h => ?_)
  · obtain ⟨t, l, n, L, rfl, _⟩ := h
    rfl
  obtain ⟨t, l, n, L, rfl, hT, hS, hE, n1, n2, len, ok, q⟩ := h
  refine ⟨_, (pss_one (ps_ret (C8.pe_mk c_System hr (by first | decide | omega) rfl (pa_cons (pe_ix (VK.ixT (K := K) rfl) (pv 0) pe_int (fun _ _ => rfl)) (pa_cons (pe_callTy (VK.listQ (K := K) rfl) (by rfl) z_list (by decide +kernel) (pa_cons (pe_ix (VK.ixT (K := K) rfl) (pv 0) pe_int (fun _ _ => rfl)) pa_nil)) pa_nil))))), ?_⟩
  refine ⟨_, rfl, t, _, _, _, rfl, rfl, hT, rfl, _, rfl, t, _, _, _, rfl, rfl, hT, rfl, l, _, rfl, .inl hS, fun q0 nq0 x dx2 nx ndx ne => ?_⟩
  have s0 := same_upd nq0 (.lst (refs L))
  have sx := sameIn (o := .ins C dx2 []) (same_upd ndx (.own x)) nx
  have s1 := s0.trans sx
  refine .inl ⟨x, dx2, n, q0, L, rfl, upd_same, sx.seq (SqL.of upd_same), hE.kp (Kp.of s1), n1, n2, len, ok, fun E1 H' bx SA mem => ⟨rfl, ?_⟩⟩
  exact q _ x E1 H' (fun b o e => bx b o (ne_of_none (s0 _ _ e) nx) (s1 b o e)) SA mem
end
end LW

set_option Elab.async false
set_option linter.all false
set_option maxRecDepth 100000
set_option maxHeartbeats 4000000
namespace LW
open PySem PySem.Spec PyProof.Rows L2 LamX NdefX VB VM VP VE VX
abbrev s__law_few : Stmt := top 45
theorem sc__law_few : FnScope ["draw", "words", "k"] ["draw", "words"] (defScope s__law_few) := ⟨rfl, rfl, rfl, by decide +kernel, rfl, by decide +kernel, by decide +kernel⟩
theorem pow6 {i : Nat} (h : i < 6) : ∃ e : Int, atI [V.int 1, .int 2, .int 4, .int 8, .int 16, .int 32] ((0 : Int) + (i : Nat)) = some (.int e) ∧ 0 < e ∧ e ≤ 32 :=
  match i, h with
  | 0, _ => ⟨1, rfl, by decide, by decide⟩
  | 1, _ => ⟨2, rfl, by decide, by decide⟩
  | 2, _ => ⟨4, rfl, by decide, by decide⟩
  | 3, _ => ⟨8, rfl, by decide, by decide⟩
  | 4, _ => ⟨16, rfl, by decide, by decide⟩
  | 5, _ => ⟨32, rfl, by decide, by decide⟩
section
variable {P : Program} {w : World} {K : PySem.W.Frag} {mg : Str → Option Value} {base : Heap}
/-- some of few words, ascending -/
def spFew (K : PySem.W.Frag) : Sp := fun vs H Q _ => ∃ (d : Int) (a : Addr) (ws : List Str), vs = [.int d, .ref a] ∧ SqL K H a (ws.map V.str) ∧ ws.length ≤ 6 ∧ 0 ≤ d ∧
  ∀ (q : Addr) (H' : Hp) (ss : List Str), Same H H' → H' q = some (.tup (ss.map V.str)) → (∀ x ∈ ss, x ∈ ws) → ss.length ≤ ws.length → Q (.ref q) H'
theorem c_few (D : Df K mg "_law_few" s__law_few) (z_len : mg "len" = none) (z_range : mg "range" = none) (z_sorted : mg "sorted" = none) (z_tuple : mg "tuple" = none) : C8.Cal P w K mg base 1 "_law_few" (spFew K) [] := by
  refine D.cal sc__law_few (fun _ _ _ _ _ _ us hl => match us, hl with | [_, _], _ => rfl) (fun vs H Q E h => ?_) (fun f cdv A outer s0 H vs Q E hr h => ?_)
  · obtain ⟨d, a, ws, rfl, _⟩ := h
    rfl
  obtain ⟨d, a, ws, rfl, hS, len, d0, q⟩ := h
  refine ⟨_, (pss_one (ps_ret (pe_callTy (VK.tupQ (K := K) rfl) (by rfl) z_tuple (by decide +kernel) (pa_cons (pe_callB (VK.sortedS (K := K) rfl hr) (by rfl) z_sorted (by decide +kernel) (pa_cons (pe_lc (own := [("k", 2)]) rfl sc__law_few.nd (pi_range1 rfl z_range (pa_cons (pe_callB (VK.lenQ (K := K) rfl) (by rfl) z_len PySem.boot_len (pa_cons (pv 1) pa_nil)) pa_nil)) (blkOk_by (N := ["draw", "words", "k"]) (sc := defScope s__law_few) (by decide +kernel)) (fun _ _ _ _ _ => (pg_name (i := 2) sc__law_few.nd rfl (Or.inl rfl) (hf := Or.inr rfl))) (fun _ _ _ _ _ => (pts_one (pt_cmpR op_eq (pe_op op_mod (pe_op op_fdivN (pv 0) (pe_ix (VK.ixL (K := K) rfl) (pe_lst (pa_cons pe_int (pa_cons pe_int (pa_cons pe_int (pa_cons pe_int (pa_cons pe_int (pa_cons pe_int pa_nil))))))) (pv 2) (fun _ _ => rfl))) pe_int) pe_int (nomark _)))) (fun _ _ _ _ _ => (pe_ix (VK.ixL (K := K) rfl) (pv 1) (pv 2) (fun _ _ => rfl)))) pa_nil)) pa_nil)))), ?_⟩
  have zl := sizeLine_eq
  refine ⟨_, rfl, a, _, rfl, .inl hS, ((ws.length : Nat) : Int), by rw [List.length_map], by omega, by omega, fun D1 nD => ?_⟩
  refine lc_range (lo := 0) (n := ws.length) (fun i H' => ∃ ss : List Str, Same H H' ∧ H' D1 = some (.lst (ss.map V.str)) ∧ (∀ x ∈ ss, x ∈ ws) ∧ ss.length ≤ i) ⟨[], same_upd nD _, upd_same, fun x hx => absurd hx List.not_mem_nil, Nat.le_refl _⟩ ?_ ?_
  · rintro i H1 hi ⟨ss, s1, hD, sub, ls⟩
    refine ⟨rfl, ?_⟩
    refine ⟨_, rfl, (by show 6 ≤ sizeLine; omega), fun xl nxl => ?_⟩
    have s2 := same_upd nxl (.lst [.int 1, .int 2, .int 4, .int 8, .int 16, .int 32])
    obtain ⟨e, he, e0, e1⟩ := pow6 (show i < 6 by omega)
    refine ⟨_, rfl, xl, _, _, _, rfl, rfl, SqL.of upd_same, he, ?_⟩
    refine ⟨_, _, rfl, rfl, ⟨by omega, by omega⟩, _, _, rfl, rfl, (by show (0 : Int) < 2; decide), rfl, _, rfl, ?_⟩
    obtain ⟨x, xin, hx⟩ := pickI ws V.str (r := (0 : Int) + (i : Nat)) (by omega) (by omega)
    refine ite2 (fun c => ?_) (fun c => ?_)
    · refine ⟨_, rfl, _, rfl, a, _, _, _, rfl, rfl, (s1.trans s2).seq hS, hx, _, s2 _ _ hD, by rw [List.length_map]; omega, ss ++ [x], sameIn (s1.trans s2) nD, by rw [upd_same, List.map_append] <;> rfl, fun y hy => ?_, by rw [List.length_append, List.length_singleton]; omega⟩
      rcases List.mem_append.mp hy with z | z
      · exact sub y z
      · rw [List.mem_singleton.mp z]; exact xin
    · exact ⟨ss, s1.trans s2, s2 _ _ hD, sub, by omega⟩
  · rintro H1 ⟨ss, s1, hD, sub, ls⟩
    refine ⟨D1, ss, rfl, SqL.of hD, fun b nb => ?_⟩
    have s2 := same_upd nb (.lst ((ss.mergeSort VS.leS).map V.str))
    exact ⟨b, _, rfl, .inl ⟨SqL.of upd_same, fun l nl => q l _ _ ((s1.trans s2).trans (same_upd nl _)) upd_same (fun x hx => sub x (List.mem_mergeSort.mp hx)) (by rw [List.length_mergeSort]; exact ls)⟩⟩
end
end LW

set_option Elab.async false
set_option linter.all false
set_option maxRecDepth 100000
set_option maxHeartbeats 400000
namespace LW
open PySem PySem.Spec PyProof.Rows L2 LamX NdefX VB VM VP VJ VE VX VQ VZ VY VF
abbrev s__law_pair : Stmt := top 62
theorem sc__law_pair : FnScope ["cell", "other", "more", "first"] ["cell", "other", "more"] (defScope s__law_pair) := ⟨rfl, rfl, rfl, by decide +kernel, rfl, by decide +kernel, by decide +kernel⟩
abbrev s__law_trace : Stmt := top 64
theorem sc__law_trace : FnScope ["q", "draws", "trace", "states", "k", "actions"] ["q", "draws"] (defScope s__law_trace) := ⟨rfl, rfl, rfl, by decide +kernel, rfl, by decide +kernel, by decide +kernel⟩
abbrev s__law_unknown : Stmt := top 63
theorem sc__law_unknown : FnScope ["system", "kind", "e"] ["system", "kind"] (defScope s__law_unknown) := ⟨rfl, rfl, rfl, by decide +kernel, rfl, by decide +kernel, by decide +kernel⟩
section
variable {P : Program} {w : World} {K : PySem.W.Frag} {mg : Str → Option Value} {base : Heap}
def spMadeU (K : PySem.W.Frag) (C : Addr) : Sp := fun vs H Q _ => ∃ (t l : Addr) (n : Int) (L : List (Addr × Ed)), vs = [.ref t] ∧ SqT K H t [.int n, .ref l] ∧ SqL K H l (refs L) ∧ Eds K H L ∧ 1 ≤ n ∧ n ≤ 20000 ∧ VT.Few L ∧ L.length ≤ 1000 ∧ (∀ x ∈ L, okE n x.2) ∧
  ∀ (φ : Addr → Prop) (x : Addr) (E : List Ed) (H' : Hp), Same H H' → SysAt K φ C H' x n E → (∀ e, e ∈ E ↔ e ∈ L.map (·.2)) → Q (.ref x) H'
theorem c_madeU {C CS : Addr} (D : Df K mg "_law_made" s__law_made) (z_list : mg "list" = none) (c_System : C8.Mak P w K mg base 5 "System" C (calm (spInitX K C CS)) []) : C8.Cal P w K mg base 7 "_law_made" (spMadeU K C) [] := by
  refine D.cal sc__law_made (fun _ _ _ _ _ _ us hl => match us, hl with | [_], _ => rfl) (fun vs H Q E h => ?_) (fun f cdv A outer s H vs Q E hr h => ?_)
  · obtain ⟨t, l, n, L, rfl, _⟩ := h
    rfl
  obtain ⟨t, l, n, L, rfl, hT, hS, hE, n1, n2, few, len, ok, q⟩ := h
  refine ⟨_, (pss_one (ps_ret (C8.pe_mk c_System hr (by first | decide | omega) rfl (pa_cons (pe_ix (VK.ixT (K := K) rfl) (pv 0) pe_int (fun _ _ => rfl)) (pa_cons (pe_callTy (VK.listQ (K := K) rfl) (by rfl) z_list (by decide +kernel) (pa_cons (pe_ix (VK.ixT (K := K) rfl) (pv 0) pe_int (fun _ _ => rfl)) pa_nil)) pa_nil))))), ?_⟩
  refine ⟨_, rfl, t, _, _, _, rfl, rfl, hT, rfl, _, rfl, t, _, _, _, rfl, rfl, hT, rfl, l, _, rfl, .inl hS, fun q0 nq0 x dx2 nx ndx ne => ?_⟩
  have s0 := same_upd nq0 (.lst (refs L))
  have sx := sameIn (o := .ins C dx2 []) (same_upd ndx (.own x)) nx
  have s1 := s0.trans sx
  refine .inr (.inr ⟨x, dx2, n, q0, L, rfl, upd_same, sx.seq (SqL.of upd_same), hE.kp (Kp.of s1), n1, n2, few, len, ok, fun E1 H' bx SA mem => ⟨rfl, ?_⟩⟩)
  exact q _ x E1 H' (fun b o e => bx b o (ne_of_none (s0 _ _ e) nx) (s1 b o e)) SA mem
/-- a part of a pair -/
structure PartAt (K : PySem.W.Frag) (H : Hp) (t l : Addr) (n : Int) (L : List (Addr × Ed)) : Prop where
  t : H t = some (.tup [.int n, .ref l])
  l : H l = some (.lst (refs L))
  e : Eds K H L
  n1 : 1 ≤ n
  n6 : n ≤ 6
  len : L.length ≤ 1000
  few : VT.Few L
  ok : ∀ p ∈ L, okE n p.2
theorem PartAt.ext {H H' : Hp} {t l : Addr} {n : Int} {L : List (Addr × Ed)} (p : PartAt K H t l n L) (x : ExtN H H') : PartAt K H' t l n L :=
  ⟨x _ _ p.t (fun _ z => nomatch z), x _ _ p.l (fun _ z => nomatch z), p.e.kp (Kp.ofExtN x), p.n1, p.n6, p.len, p.few, p.ok⟩
def spPair (K : PySem.W.Frag) (T : List (Addr × Str)) : Sp := fun vs H Q _ => ∃ (c o m : Int), vs = [.int c, .int o, .int m] ∧ Tabs T H ∧
  ∀ (p t1 l1 t2 l2 : Addr) (n1 n2 : Int) (L1 L2 : List (Addr × Ed)) (H' : Hp), ExtN H H' → H' p = some (.lst [.ref t1, .ref t2]) → PartAt K H' t1 l1 n1 L1 → PartAt K H' t2 l2 n2 L2 → Q (.ref p) H'
theorem c_pair {T : List (Addr × Str)} (D : Df K mg "_law_pair" s__law_pair) (c__law_draws : C8.Cal P w K mg base 1 "_law_draws" spDraws []) (c__law_system : C8.Cal P w K mg base 2 "_law_system" (spSys5 K) []) (c__law_near : C8.Cal P w K mg base 5 "_law_near" (spNear K T) []) :
    C8.Cal P w K mg base 6 "_law_pair" (spPair K T) [] := by
  refine D.cal sc__law_pair (fun _ _ _ _ _ _ us hl => match us, hl with | [_, _, _], _ => rfl) (fun vs H Q E h => ?_) (fun f cdv A outer s H vs Q E hr h => ?_)
  · obtain ⟨c, o, m, rfl, _⟩ := h
    rfl
  obtain ⟨c, o, m, rfl, hT, q⟩ := h
  refine ⟨_, (pss_cons (ps_set (i := 3) sc__law_pair.nd rfl (Or.inl rfl) (C8.pe_c c__law_system hr (by first | decide | omega) rfl (pa_cons (pv 0) (pa_cons pe_int pa_nil))))
    (pss_cons (ps_if (pt_cmpR op_eq (pe_op op_mod (pe_ix (VK.ixL (K := K) rfl) (C8.pe_c c__law_draws hr (by first | decide | omega) rfl (pa_cons (pv 2) (pa_cons pe_int pa_nil))) pe_int (fun _ _ => rfl)) pe_int) pe_int (nomark _))
      (pss_one (ps_ret (pe_lst (pa_cons (pv 3) (pa_cons (C8.pe_c c__law_system hr (by first | decide | omega) rfl (pa_cons (pv 1) (pa_cons pe_int pa_nil))) pa_nil)))))
      pss_nil)
    (pss_one (ps_ret (pe_lst (pa_cons (pv 3) (pa_cons (C8.pe_c c__law_near hr (by first | decide | omega) rfl (pa_cons (C8.pe_c c__law_near hr (by first | decide | omega) rfl (pa_cons (pv 3) (pa_cons (pv 1) pa_nil))) (pa_cons (pv 2) pa_nil))) pa_nil))))))), ?_⟩
  have zl := sizeLine_eq
  have few0 : ∀ {L : List (Addr × Ed)}, (L.length : Int) < 3 * 4 → FewE 11 L := fun {L} h => ⟨L.map (·.2), by rw [List.length_map]; omega, fun p hp => List.mem_map_of_mem hp⟩
  have up : ∀ {a b : Nat} {L : List (Addr × Ed)}, a ≤ b → FewE a L → FewE b L := fun h ⟨U, h1, h2⟩ => ⟨U, by omega, h2⟩
  refine ⟨_, rfl, c, 4, rfl, by decide, by decide, fun t1 l1 n1 L1 H1 s1 ht1 hl1 hE1 n1a n1b len1 ok1 ac1 => ?_⟩
  have p1 : PartAt K H1 t1 l1 n1 L1 := ⟨ht1, hl1, hE1, n1a, by omega, by omega, up (by decide) (few0 len1), ok1⟩
  refine ⟨_, rfl, m, 1, rfl, by decide, by decide, fun d ds nd hds rds => ?_⟩
  have s2 := same_upd nd (.lst (ds.map V.int))
  have hd2 : upd H1 d (.lst (ds.map V.int)) d = some (.lst (ds.map V.int)) := upd_same
  generalize upd H1 d (.lst (ds.map V.int)) = H2 at s2 hd2 ⊢
  have hds1 : ds.length = 1 := hds
  obtain ⟨x, hx, ex⟩ := pickI ds V.int (r := 0) (Int.le_refl 0) (by omega)
  refine ⟨d, _, _, .int x, rfl, rfl, SqL.of hd2, ex, _, _, rfl, rfl, (by show (0 : Int) < 3; decide), rfl, _, rfl, ?_⟩
  refine ite2 (fun c1 => ?_) (fun c1 => ?_)
  · refine ⟨_, rfl, _, rfl, o, 4, rfl, by decide, by decide, fun t2 l2 n2 L2 H3 s3 ht2 hl2 hE2 n2a n2b len2 ok2 ac2 => ?_⟩
    refine ⟨(by show 2 ≤ sizeLine; omega), fun p np => ?_⟩
    have s4 := same_upd np (.lst [.ref t1, .ref t2])
    have p2 : PartAt K H3 t2 l2 n2 L2 := ⟨ht2, hl2, hE2, n2a, by omega, by omega, up (by decide) (few0 len2), ok2⟩
    exact q p t1 l1 t2 l2 n1 n2 L1 L2 _ (.of (((s1.trans s2).trans s3).trans s4)) upd_same (p1.ext (.of ((s2.trans s3).trans s4))) (p2.ext (.of s4))
  · have pa := p1.ext (.of s2)
    refine ⟨_, rfl, _, rfl, _, rfl, t1, l1, n1, o, L1, rfl, .inl (.inl pa.t), SqL.of pa.l, pa.e, by omega, ok1, ac1, by omega, by omega, hT.ext (s1.trans s2), fun t2 l2 n2 L2 H3 x3 T3 ht2 hl2 hE2 R2 => ?_⟩
    have r1 := R2.c0
    have r2 := R2.c1
    have r3 := R2.len
    refine ⟨_, rfl, t2, l2, n2, m, L2, rfl, .inl (.inl ht2), SqL.of hl2, hE2, by omega, R2.ok, R2.ac, by omega, by omega, T3, fun t3 l3 n3 L3 H4 x4 T4 ht3 hl3 hE3 R3 => ?_⟩
    have r4 := R3.c0
    have r5 := R3.c1
    have r6 := R3.len
    refine ⟨(by show 2 ≤ sizeLine; omega), fun p np => ?_⟩
    have s4 := same_upd np (.lst [.ref t1, .ref t3])
    have p3 : PartAt K H4 t3 l3 n3 L3 := ⟨ht3, hl3, hE3, by omega, by omega, by omega, up (by decide) (R3.few _ (R2.few _ (few0 len1))), R3.ok⟩
    exact q p t1 l1 t3 l3 n1 n3 L1 L3 _ (((ExtN.of (s1.trans s2)).trans (x3.trans x4)).trans (.of s4)) upd_same (pa.ext ((x3.trans x4).trans (.of s4))) (p3.ext (.of s4))
end
end LW

set_option Elab.async false
set_option linter.all false
set_option maxRecDepth 100000
set_option maxHeartbeats 400000
namespace VIE
open PySem PySem.Spec PyProof.Rows L2 LamX NdefX VB
/-- isinstance(e, c) of the caught e, whose class is named in the reading -/
def rIsC (K : PySem.W.Frag) (D a : Addr) (cls : Value) (d : Option Addr) : List V → Hp → VK → Prop := fun xs H Q => cls = .ref D ∧ d = none ∧ rIsE K D a xs H Q
theorem isE {X : Cx} {K : PySem.W.Frag} {a D : Addr} {cls : Value} {d : Option Addr} {oe : Obj} {pn : List (Addr × Obj)} (hK : X.K = K) (C : ExcC K D) (zc : L2.Zc cls d oe) (hf : ∃ vs, oe.data = .fields vs) :
    CallR (X.suite a ((a, oe) :: pn)) (.builtin "isinstance") (rIsC K D a cls d) := by
  subst hK
  intro pins s σ H xs us Q I r h
  obtain ⟨e1, e2, h⟩ := h
  subst e1 e2
  exact call_isE C zc hf pins s σ H xs us Q I r h
theorem ifJ1 {c : TT} {t u : TS} {D : Ends} {σ : L2.St} {H : Hp} (F : Bool → Hp → Prop) (h : ∀ Q' : Bool → Hp → Prop, (∀ b H', F b H' → Q' b H') → c σ H Q') (r : ∀ b H', F b H' → if b = true then t D σ H' else u D σ H') : tIfS c t u D σ H := h _ r
end VIE

set_option Elab.async false
set_option linter.all false
set_option maxRecDepth 100000
set_option maxHeartbeats 400000
namespace LW
open PySem PySem.Spec PyProof.Rows L2 LamX NdefX VB VM VP VJ VE VX VQ VZ VY VF
section
variable {P : Program} {w : World} {K : PySem.W.Frag} {mg : Str → Option Value} {base : Heap}
theorem word4t (x : Int) : ∃ w : Str, atI [V.str "a", V.str "b", V.str "c", V.str "tick"] (x % 4) = some (.str w) := by
  have h0 := Int.emod_nonneg x (show (4 : Int) ≠ 0 by decide)
  have h1 := Int.emod_lt_of_pos x (show (0 : Int) < 4 by decide)
  generalize x % 4 = g at *
  have k : g = 0 ∨ g = 1 ∨ g = 2 ∨ g = 3 := by omega
  rcases k with rfl | rfl | rfl | rfl
  · exact ⟨"a", rfl⟩
  · exact ⟨"b", rfl⟩
  · exact ⟨"c", rfl⟩
  · exact ⟨"tick", rfl⟩
def spTrc (K : PySem.W.Frag) : Sp := fun vs H Q _ => ∃ (q d : Addr) (n : Int) (E : List Ed) (ds : List Int), vs = [.ref q, .ref d] ∧ QAt K H q n E ∧ H d = some (.lst (ds.map V.int)) ∧ ds.length = 9 ∧ (∀ x ∈ ds, 0 ≤ x ∧ x < 4096) ∧
  ∀ (a : Addr) (H' : Hp) (xs : List Str), Same H H' → SqT K H' a (xs.map V.str) → xs.length ≤ 4 → Q (.ref a) H'
theorem c_trc (D : Df K mg "_law_trace" s__law_trace) (z_range : mg "range" = none) (z_len : mg "len" = none) (c__law_starts : C8.Cal P w K mg base 1 "_law_starts" (spQSt K) []) (c__law_go : C8.Cal P w K mg base 1 "_law_go" (spQGo K) []) (c__law_does : C8.Cal P w K mg base 1 "_law_does" (spQDo K) []) :
    C8.Cal P w K mg base 2 "_law_trace" (spTrc K) [] := by
  refine D.cal sc__law_trace (fun _ _ _ _ _ _ us hl => match us, hl with | [_, _], _ => rfl) (fun vs H Q E h => ?_) (fun f cdv A outer s0 H vs Q E hr h => ?_)
  · obtain ⟨q, d, n, E0, ds, rfl, _⟩ := h
    rfl
  obtain ⟨q, d, n, E0, ds, rfl, QA, hd, lds, rds, kk⟩ := h
  refine ⟨_, (pss_cons (ps_set (i := 2) sc__law_trace.nd rfl (Or.inl rfl) (pe_tup pa_nil))
    (pss_cons (ps_set (i := 3) sc__law_trace.nd rfl (Or.inl rfl) (C8.pe_c c__law_starts hr (by first | decide | omega) rfl (pa_cons (pv 0) pa_nil)))
    (pss_cons (ps_for PassesOwn.never rfl (pi_range1 rfl z_range (pa_cons (pe_op op_mod (pe_ix (VK.ixL (K := K) rfl) (pv 1) pe_int (fun _ _ => rfl)) pe_int) pa_nil)) (pg_name (i := 4) sc__law_trace.nd rfl (Or.inl rfl))
      (pss_cons (ps_set (i := 5) sc__law_trace.nd rfl (Or.inl rfl) (C8.pe_c c__law_does hr (by first | decide | omega) rfl (pa_cons (pv 0) (pa_cons (pv 3) pa_nil))))
      (pss_cons (ps_if (PW.pt (pw_and (pt_cmpR op_gt (pe_callB (VK.lenQ (K := K) rfl) (by rfl) z_len PySem.boot_len (pa_cons (pv 5) pa_nil)) pe_int (nomark _)) (pw_and1 (pt_cmpR op_gt (pe_op op_mod (pe_ix (VK.ixL (K := K) rfl) (pv 1) (pe_op op_add (pv 4) pe_int) (fun _ _ => rfl)) pe_int) pe_int (nomark _)))))
        (pss_one (ps_set (i := 2) sc__law_trace.nd rfl (Or.inl rfl) (pe_op (VZ.catA (K := K) rfl) (pv 2) (pe_tup (pa_cons (pe_ix (VK.ixL (K := K) rfl) (pv 5) (pe_op op_modN (pe_op op_fdiv (pe_ix (VK.ixL (K := K) rfl) (pv 1) (pe_op op_add (pv 4) pe_int) (fun _ _ => rfl)) pe_int) (pe_callB (VK.lenQ (K := K) rfl) (by rfl) z_len PySem.boot_len (pa_cons (pv 5) pa_nil))) (fun _ _ => rfl)) pa_nil)))))
        (pss_one (ps_set (i := 2) sc__law_trace.nd rfl (Or.inl rfl) (pe_op (VZ.catA (K := K) rfl) (pv 2) (pe_tup (pa_cons (pe_ix (VK.ixL (K := K) rfl) (pe_lst (pa_cons pe_str (pa_cons pe_str (pa_cons pe_str (pa_cons pe_str pa_nil))))) (pe_op op_mod (pe_ix (VK.ixL (K := K) rfl) (pv 1) (pe_op op_add (pv 4) pe_int) (fun _ _ => rfl)) pe_int) (fun _ _ => rfl)) pa_nil))))))
      (pss_one (ps_set (i := 3) sc__law_trace.nd rfl (Or.inl rfl) (C8.pe_c c__law_go hr (by first | decide | omega) rfl (pa_cons (pv 0) (pa_cons (pv 3) (pa_cons (pe_ix (VK.ixT (K := K) rfl) (pv 2) (pe_un un_neg pe_int) (fun _ _ => rfl)) pa_nil)))))))))
    (pss_one (ps_ret (pv 2)))))), ?_⟩
  have zl := sizeLine_eq
  have dAt : ∀ i : Int, 0 ≤ i → i < 9 → ∃ x : Int, atI (ds.map V.int) i = some (.int x) ∧ 0 ≤ x ∧ x < 4096 := fun i h0 hi => by
    obtain ⟨x, hx, ex⟩ := pickI ds V.int (r := i) h0 (by omega)
    exact ⟨x, ex, rds x hx⟩
  obtain ⟨x0, e0, p0⟩ := dAt 0 (by decide) (by decide)
  refine ⟨Nat.zero_le _, fun t0 nt0 => ?_⟩
  have s1 := same_upd nt0 (.tup [])
  have ht1 : upd H t0 (.tup []) t0 = some (.tup []) := upd_same
  generalize upd H t0 (.tup []) = H1 at s1 ht1 ⊢
  refine ⟨_, rfl, q, n, E0, rfl, QA.same s1, fun a0 H2 c0 s2 ha0 hc0 rg0 lc0 => ?_⟩
  have s12 := s1.trans s2
  have g0 := Int.emod_nonneg x0 (show (5 : Int) ≠ 0 by decide)
  have g1 := Int.emod_lt_of_pos x0 (show (0 : Int) < 5 by decide)
  refine ⟨_, rfl, d, _, _, .int x0, rfl, rfl, SqL.of (s12 _ _ hd), e0, _, _, rfl, rfl, (by show (0 : Int) < 5; decide), x0 % 5, rfl, by omega, by omega, for_range (lo := 0) (n := (x0 % 5).toNat)
    (fun i σ H' => ∃ (tr st : Addr) (xs : List Str) (cs : List Int) (r4 r5 : Option V), σ = [some (.ref q), some (.ref d), some (.ref tr), some (.ref st), r4, r5] ∧ Same H H' ∧ SqT K H' tr (xs.map V.str) ∧ xs.length ≤ i ∧ H' st = some (.tup (cs.map V.int)) ∧ (∀ x ∈ cs, 0 ≤ x ∧ x < n) ∧ cs.length ≤ 60)
    ⟨t0, a0, [], c0, none, none, rfl, s12, .inl (.inl (s2 _ _ ht1)), Nat.le_refl _, ha0, rg0, lc0⟩ ?_ ?_⟩
  · rintro i σ H3 hi ⟨tr, st, xs, cs, r4, r5, rfl, s3, htr, lxs, hst, rg, lc⟩
    refine ⟨_, rfl, _, rfl, q, st, n, E0, cs, rfl, QA.same s3, .inl (.inl hst), rg, lc, fun p H4 ys s4 hp acy ly => ?_⟩
    have s34 := s3.trans s4
    have htr4 := VB.Same.sqT s4 htr
    obtain ⟨x, ex, px⟩ := dAt (0 + (i : Nat) + 1) (by omega) (by omega)
    refine VJ.nmS ?_
    refine VJ.seqJ (fun σ H' => ∃ (tr2 : Addr) (y : Str), σ = [some (.ref q), some (.ref d), some (.ref tr2), some (.ref st), some (.int (0 + (i : Nat))), some (.ref p)] ∧ Same H4 H' ∧ SqT K H' tr2 ((xs ++ [y]).map V.str)) (fun N hN => ?_) (fun σ H5 ⟨tr2, y, e, s5, h5⟩ => ?_)
    · have hd4 := s34 _ _ hd
      refine VIE.ifJ1 (fun b H' => H' = H4 ∧ (b = true → ys ≠ [])) (fun Q' fin => ?_) (fun b H' ⟨eH, hb⟩ => ?_)
      · refine ⟨_, rfl, p, _, rfl, .inl (SqL.of hp), _, _, rfl, rfl, _, rfl, ?_⟩
        refine ite2 (fun c => ?_) (fun c => ?_)
        · have ne : ys ≠ [] := fun z => by
            have y := of_decide_eq_true c
            rw [z] at y
            simp at y
          refine ⟨_, rfl, _, rfl, _, _, rfl, rfl, d, _, _, .int x, rfl, rfl, SqL.of hd4, ex, _, _, rfl, rfl, (by show (0 : Int) < 6; decide), _, _, rfl, rfl, _, rfl, ?_⟩
          exact fin _ _ ⟨rfl, fun _ => ne⟩
        · exact fin _ _ ⟨rfl, fun z => (by cases z)⟩
      · subst eH
        refine ite2b (fun eb => ?_) (fun eb => ?_)
        · have ne := hb eb
          have ly0 : 0 < ys.length := List.length_pos_iff.mpr ne
          obtain ⟨y, hy, ey⟩ := pickI ys V.str (r := (x / 6).fmod (ys.length : Nat)) (Int.fmod_nonneg_of_pos _ (by omega)) (Int.fmod_lt_of_pos _ (by omega))
          refine ⟨_, rfl, _, rfl, _, rfl, _, rfl, _, _, rfl, rfl, d, _, _, .int x, rfl, rfl, SqL.of hd4, ex, _, _, rfl, rfl, ⟨by decide, by decide⟩, _, rfl, p, _, rfl, .inl (SqL.of hp), _, _, rfl, rfl, (by show (((ys.map V.str).length : Nat) : Int) ≠ 0; rw [List.length_map]; omega), p, _, _, .str y, rfl, rfl, SqL.of hp, (by rw [List.length_map]; exact ey), (by show 1 ≤ sizeLine; omega), fun t2 nt2 => ?_⟩
          have s5 := same_upd nt2 (.tup [.str y])
          refine VJ.catA_of (VB.Same.sqT s5 htr4) (.inl (.inl upd_same)) (by rw [List.length_map]; show xs.length + 1 ≤ sizeLine; omega) fun a H6 s6 ha => ?_
          exact hN _ _ ⟨a, y, rfl, s5.trans s6, by rw [List.map_append]; exact ha⟩
        · obtain ⟨y, ey⟩ := word4t x
          refine ⟨_, rfl, (by show 4 ≤ sizeLine; omega), fun tl ntl => ?_⟩
          have s5 := same_upd ntl (.lst [V.str "a", .str "b", .str "c", .str "tick"])
          have hl5 : upd H' tl (.lst [V.str "a", .str "b", .str "c", .str "tick"]) tl = some (.lst [V.str "a", .str "b", .str "c", .str "tick"]) := upd_same
          generalize upd H' tl (.lst [V.str "a", .str "b", .str "c", .str "tick"]) = H5 at s5 hl5 ⊢
          refine ⟨_, rfl, _, rfl, _, _, rfl, rfl, d, _, _, .int x, rfl, rfl, SqL.of (s5 _ _ hd4), ex, _, _, rfl, rfl, (by show (0 : Int) < 4; decide), tl, _, _, .str y, rfl, rfl, SqL.of hl5, ey, (by show 1 ≤ sizeLine; omega), fun t2 nt2 => ?_⟩
          have s6 := s5.trans (same_upd nt2 (.tup [.str y]))
          refine VJ.catA_of (VB.Same.sqT s6 htr4) (.inl (.inl upd_same)) (by rw [List.length_map]; show xs.length + 1 ≤ sizeLine; omega) fun a H6 s7 ha => ?_
          exact hN _ _ ⟨a, y, rfl, s6.trans s7, by rw [List.map_append]; exact ha⟩
    · subst e
      have s35 := s3.trans (s4.trans s5)
      refine ⟨_, rfl, _, rfl, _, rfl, _, rfl, tr2, _, _, .str y, rfl, rfl, h5, (by rw [List.map_append]; exact atI_last _ _), q, st, n, E0, cs, y, rfl, QA.same s35, .inl (.inl ((s4.trans s5) _ _ hst)), rg, lc, fun a H6 cn s6 ha hcn rgn lcn => ?_⟩
      exact ⟨tr2, a, xs ++ [y], cn, _, _, rfl, s35.trans s6, VB.Same.sqT s6 h5, by rw [List.length_append, List.length_singleton]; omega, ha, rgn, lcn⟩
  · rintro σ H3 ⟨tr, st, xs, cs, r4, r5, rfl, s3, htr, lxs, hst, rg, lc⟩
    exact ⟨_, rfl, kk tr H3 xs s3 htr (by omega)⟩
end
end LW

set_option Elab.async false
set_option linter.all false
set_option maxRecDepth 100000
set_option maxHeartbeats 400000
namespace VHot
open PySem PySem.Spec PyProof.Rows L2 LamX NdefX VB L2H
/-! a def called within an except suite that raises nothing: no matter what the handled exception bears -/
structure FnZ (P : Program) (w : World) (K : PySem.W.Frag) (mg : Str → Option Value) (base : Heap) (k : Nat) (f : Addr) (fd : FuncData) (ps : List Str) (sp : Sp) : Prop where
  len : ∀ vs H Q E, sp vs H Q E → vs.length = ps.length
  run : ∀ (A : Around) (outer : List Env) (s : Shared) (H : Hp) (args : Args) (us : List Value) (vs : List V) (Q : VK) (E : XK) (p : Addr × Obj), RoomH k A → PinOk outer H s p → Env0 P w K mg base A outer s H → BindsTo s fd args (ps.zip us) → Vals vs us → sp vs H Q E →
    codeAny (model P w) A (.call (.ref f) args) (CR CX0 outer P w H s Q E) s
theorem fn_of {P : Program} {w : World} {K : PySem.W.Frag} {mg : Str → Option Value} {base : Heap} {k : Nat} {f : Addr} {name qual : Str} {params : Arguments} {body : List Stmt} {scope : Scope} {dV kV doc pm cdv ct oc : Value} {an od : Option Addr}
    {osl : Array (Option Value)} {N ps : List Str} {sp : Sp} (lk : K.lookup f = some ⟨oc, od, .func (PySem.W.fnOf name qual params body scope dV kV doc pm an cdv ct), osl⟩) (hcd : PySem.W.codeIn K cdv qual = true) (S : FnScope N ps scope)
    (len : ∀ vs H Q E, sp vs H Q E → vs.length = ps.length)
    (hbody : ∀ (A : Around) (outer : List Env) (s : Shared) (H : Hp) (vs : List V) (Q : VK) (E : XK) (p : Addr × Obj), RoomH k (A.deeper (envOfC qual scope s.heap.objs.size f cdv)) → sp vs H Q E →
      ∃ t, PSs (cxH CX0 P w K mg base N qual scope f cdv A outer s H E p) body t ∧ t { nx := fun _ H' => Q .non H', rt := Q } (L2.start N vs) H) :
    FnZ P w K mg base (k + 1) f (PySem.W.fnOf name qual params body scope dV kV doc pm an cdv ct) ps sp := by
  refine ⟨len, fun A outer s H args us vs Q E p hr hpin e0 hb r hsp => ?_⟩
  have hl := len _ _ _ _ hsp
  have KX : K.In s.heap := e0.mod.kin.keeps fun b o e => (e0.bs b o e).1
  have lim : s.heap.NoLimit := e0.mod.nolimit.keeps fun b o e => (e0.bs b o e).1
  have kinds : ∀ y ∈ ps.zip us, scope.names.lookup y.1 = some .local ∨ (scope.names.lookup y.1 = some .cell ∧ ((cellsFrom (s.heap.objs.size + 1) scope.names []).lookup y.1).isSome = true) := by
    intro y hy
    rcases S.par y.1 (List.of_mem_zip (a := y.1) (b := y.2) hy).1 with q | q
    · exact .inl q
    · exact .inr ⟨q, PySem.W.cellsFrom_some _ _ _ (.inl q)⟩
  refine codeAny_call_function hr.depth (KX _ _ lk) rfl S.co S.gen rfl (PySem.W.codeRec_of KX hcd) (hb _ _ _ _ ?_)
  refine wpAny_newFunctionEnv_cells S.kind kinds fun env he s1 x => ?_
  subst he
  refine ⟨lim.keeps x.toInCall.keep, codeAny_func ?_⟩
  obtain ⟨t, ht, hq⟩ := hbody A outer s H vs Q E p (hr.deeper _) hsp
  refine wpAny_mono (ht.run [] s1 (L2.start N vs) H _ (inv_startH S hpin e0 hl r x) hq) (fun fl s' z => ?_) fun e s' z => z
  cases fl with
  | ret u =>
    obtain ⟨v, σ', H', J, rv, q⟩ := z
    exact ⟨v, H', J.os, J.bare, J.base, J.hok, rv, q⟩
  | next =>
    obtain ⟨σ', H', J, q⟩ := z
    exact ⟨.non, H', J.os, J.bare, J.base, J.hok, rfl, q⟩
  | brk => exact z.choose_spec.choose_spec.2.elim
  | cont => exact z.choose_spec.choose_spec.2.elim
/-- such a def by its name -/
structure CalZ (P : Program) (w : World) (K : PySem.W.Frag) (mg : Str → Option Value) (base : Heap) (k : Nat) (x : Str) (sp : Sp) : Prop where
  ex : ∃ (f : Addr) (fd : FuncData) (ps : List Str), FnZ P w K mg base k f fd ps sp ∧ mg x = some (.ref f) ∧ PySem.W.keepIn K (.ref f) = true ∧ Binds K fd ps []
section
variable {X : Cx} {k : Nat} {x : Str} {sp : Sp} {q pos : Pos} {e : Expr} {es : List Expr} {t : TA}
theorem pe_c (c : CalZ X.prog X.w X.K X.mg X.base k x sp) (hr : RoomH k X.A) (hc : ∃ p, p ∈ X.pn) (hg : Gl X x)
    (ha : PA X (e :: es) t) (hdb : (x == ("__debug__" : Str)) = false := by decide) (he : starEach (e :: es) X.env = (false, eval e X.env) :: starEach es X.env := by rfl) (hpl : (backTo pos (starEach es X.env)).any (·.1) = false := by rfl) :
    PE X (.Call (.Name x q) (e :: es) [] pos) (tCall sp [] C8.E0 t) := by
  obtain ⟨f, fd, ps, F, hm, hk, hb⟩ := c.ex
  obtain ⟨p, hp⟩ := hc
  refine ⟨fun pins s σ H Q I h => ?_⟩
  refine wpAny_Call_Name_kw (ld_glob I hg hm ?_ hdb)
  refine PySem.W.callWith_K (h₀ := X.base) I.ok.mod.kin hk (thn (ha.run pos pins s σ H _ I h) fun us s1 ⟨vs, H1, I1, r, q1⟩ => ⟨I1.kIn, ?_⟩) he hpl
  have q2 : sp vs H1 Q C8.E0 := by
    have z : sp (vs ++ []) H1 Q C8.E0 := q1
    rw [List.append_nil] at z
    exact z
  have hl : us.length = ps.length := by rw [← r.length]; exact F.len _ _ _ _ q2
  have b := hb s1 us I1.kIn (by rw [List.append_nil]; exact hl)
  rw [List.append_nil] at b
  have P1 := I1.pin p (List.mem_append_left _ hp)
  have hpin : PinOk X.stack H1 s1 p := ⟨P1.1, P1.2.1, fun hm => (List.mem_cons.mp (I1.stkSub p.1 hm)).elim P1.2.2.1 P1.2.2.2.1, P1.2.2.2.2⟩
  refine wpAny_call (codeAny_mono (F.run X.A X.stack s1 H1 ⟨us, []⟩ us vs Q C8.E0 p hr hpin I1.env0 b r q2) fun r' s' hq => ?_)
  cases r' with
  | error e => exact hq.elim
  | ok fl =>
    cases fl with
    | ret u => exact I1.after hq
    | next => exact hq.elim
    | brk => exact hq.elim
    | cont => exact hq.elim
end
end VHot

set_option Elab.async false
set_option linter.all false
set_option maxRecDepth 100000
set_option maxHeartbeats 400000
namespace LW
open PySem PySem.Spec PyProof.Rows L2 LamX NdefX VB VM VP VJ VE VX VQ VZ VY VF
section
variable {P : Program} {w : World} {K : PySem.W.Frag} {mg : Str → Option Value} {base : Heap}
/-- two texts that are the same, told within an except suite -/
def spLikeS : Sp := fun vs H Q _ => ∃ x : Str, vs = [.str x, .str x] ∧ Q (.bl true) H
theorem c_likeS (D : Df K mg "_law_like" s__law_like) (z_isinstance : mg "isinstance" = none) (z_bool : mg "bool" = none) (z_str : mg "str" = none) : VHot.CalZ P w K mg base 1 "_law_like" spLikeS := by
  obtain ⟨f, fd, F, hm⟩ := D
  have bh : Binds K fd ["actual", "due"] [] := F.bindsN fun _ _ _ _ _ _ us hl => match us, hl with | [_, _], _ => rfl
  refine ⟨f, fd, ["actual", "due"], ?_, hm, F.kp, bh⟩
  obtain ⟨oc, od, dV, kV, doc, pm, an, cdv, ct, osl, rfl, lk, hcd2, _, _⟩ := F.ex
  refine VHot.fn_of lk hcd2 sc__law_like (fun vs H Q E h => ?_) fun A outer s H vs Q E p hr h => ?_
  · obtain ⟨x, rfl, _⟩ := h
    rfl
  obtain ⟨x, rfl, q⟩ := h
  refine ⟨_, (pss_cons (ps_if (pt_cmpR op_isN (pv 1) pe_non (nomark _))
      (pss_one (ps_ret (pe_cmpR op_isN (pv 0) pe_non (nomark _))))
      pss_nil)
    (pss_cons (ps_if (pt_val (pe_callB (VK.isi (K := K) rfl) (by rfl) z_isinstance (by decide +kernel) (pa_cons (pv 1) (pa_cons (pe_bltn (v := .ty "bool") (by rfl) z_bool (by decide +kernel) rfl) pa_nil))))
      (pss_one (VO.ps_never _))
      pss_nil)
    (pss_cons (ps_if (pt_val (pe_callB (VK.isi (K := K) rfl) (by rfl) z_isinstance (by decide +kernel) (pa_cons (pv 1) (pa_cons (pe_bltn (v := .ty "str") (by rfl) z_str (by decide +kernel) rfl) pa_nil))))
      (pss_one (ps_ret (pe_and (pe_callB (VK.isi (K := K) rfl) (by rfl) z_isinstance (by decide +kernel) (pa_cons (pv 0) (pa_cons (pe_bltn (v := .ty "str") (by rfl) z_str (by decide +kernel) rfl) pa_nil))) (pe_one (pe_cmpR op_eq (pv 0) (pv 1) (nomark _))))))
      pss_nil)
    (pss_cons (VO.ps_never _) (pss_cons (VO.ps_never _) (pss_cons (VO.ps_never _) (pss_one (VO.ps_never _)))))))), ?_⟩
  have tx : TyX K H (.str x) (.type "str") := dp_ty (.str x)
  refine ⟨_, rfl, rfl, _, rfl, ?_⟩
  refine ite2 (fun c => absurd (of_decide_eq_true c) (by intro z; cases z)) (fun _ => ?_)
  refine ⟨_, rfl, _, _, _, _, false, rfl, .ty _, tx, kit_ty (by decide +kernel), _, rfl, iteF ?_⟩
  refine ⟨_, rfl, _, _, _, _, true, rfl, .ty _, tx, kit_ty (by decide +kernel), _, rfl, iteT ?_⟩
  refine ⟨_, rfl, _, _, _, _, true, rfl, .ty _, tx, kit_ty (by decide +kernel), _, rfl, iteT ?_⟩
  refine ⟨_, rfl, _, rfl, rfl, ?_⟩
  rw [decide_eq_true rfl]
  exact q
def spUnk (K : PySem.W.Frag) (C : Addr) : Sp := fun vs H Q _ => ∃ (φ : Addr → Prop) (p : Addr) (n : Int) (E0 : List Ed) (kd : Int), vs = [.ref p, .int kd] ∧ SysAt K φ C H p n E0 ∧ 1 ≤ n ∧ n ≤ 60 ∧ E0.length ≤ 1000 ∧ (kd = 0 ∨ kd = 1) ∧ ∀ H', Same H H' → Q (.bl true) H'
theorem c_unk {C CU : Addr} (D : Df K mg "_law_unknown" s__law_unknown) (e_UnknownModel : VY.OwnI K mg "UnknownModel" CU) (xf_UnknownModel : XfC K CU) (no_UnknownModel_model : PySem.W.findIn K (.ref CU) "model" = some none)
    (c_allows : VE.CalX P w K mg base 7 "allows" (spAllowX K C CU)) (c_is_difference : VE.CalX P w K mg base 8 "is_difference" (spDiffX K C CU)) (c__law_likeZ : VHot.CalZ P w K mg base 1 "_law_like" spLikeS) : C8.Cal P w K mg base 9 "_law_unknown" (spUnk K C) [] := by
  refine D.cal sc__law_unknown (fun _ _ _ _ _ _ us hl => match us, hl with | [_, _], _ => rfl) (fun vs H Q E h => ?_) (fun f cdv A outer s H vs Q E hr h => ?_)
  · obtain ⟨φ, p, n, E0, kd, rfl, _⟩ := h
    rfl
  obtain ⟨φ, p, n, E0, kd, rfl, SA, n1, n60, lenE, hkd, q⟩ := h
  have hz := L2H.roomH_of (hr.mono (show 1 ≤ 8 by decide))
  refine ⟨_, (pss_cons (VF.ps_mix (K := K) rfl rfl rfl takes0 (fun W pn xe tk _ => (pss_one (ps_if (pt_cmpR op_eq (pv 1) pe_int (nomark _))
        (pss_one (ps_expr (VE.pe_cX c_allows hr (by first | decide | omega) rfl tk (pa_cons (pv 0) (pa_cons (pe_tup (pa_cons pe_str (pa_cons (pe_tup pa_nil) pa_nil))) (pa_cons pe_str pa_nil))))))
        (pss_one (ps_expr (VE.pe_cX c_is_difference hr (by first | decide | omega) rfl tk (pa_cons (pv 0) (pa_cons (pv 0) (pa_cons pe_str (pa_cons (pe_tup (pa_cons pe_str (pa_cons (pe_tup pa_nil) pa_nil))) pa_nil)))))))))) (.cons ⟨rfl, by decide, .inl e_UnknownModel.at_⟩ (.inr ⟨_, 2, rfl, rfl, sc__law_unknown.nd, rfl, rfl⟩) (fun a ob cls d pn zc hf => (pss_one (ps_ret (VHot.pe_c c__law_likeZ ⟨hz.dp, hz.un⟩ ⟨_, List.mem_cons_self⟩ rfl (pa_cons (pe_xf xf_UnknownModel no_UnknownModel_model zc hf (pv 2)) (pa_cons (pe_ix (VK.ixL (K := K) rfl) (pe_lst (pa_cons pe_str (pa_cons pe_str pa_nil))) (pv 1) (fun _ _ => rfl)) pa_nil)))))) .nil))
    (pss_one (ps_ret pe_bl))), ?_⟩
  have zl := sizeLine_eq
  rcases hkd with rfl | rfl
  · refine ⟨_, rfl, rfl, _, rfl, iteT ?_⟩
    refine ⟨_, rfl, Nat.zero_le _, fun u nu => ⟨(by show 2 ≤ sizeLine; omega), fun b nb => ?_⟩⟩
    have s1 := same_upd nu (.tup [])
    have hu1 : upd H u (.tup []) u = some (.tup []) := upd_same
    generalize upd H u (.tup []) = H1 at s1 hu1 nb ⊢
    have s2 := s1.trans (same_upd nb (.tup [.str "trace", .ref u]))
    have hu2 := same_upd nb (.tup [.str "trace", .ref u]) _ _ hu1
    have hb2 : upd H1 b (.tup [.str "trace", .ref u]) b = some (.tup [.str "trace", .ref u]) := upd_same
    generalize upd H1 b (.tup [.str "trace", .ref u]) = H2 at s2 hu2 hb2 ⊢
    refine ⟨φ, p, b, u, n, E0, [], [], 0, "trace", rfl, SA.same s2, n1, n60, lenE, .inl (.inl hu2), .inl ⟨rfl, .inl (.inl hb2)⟩, fun x hx => absurd hx List.not_mem_nil, by decide, by decide +kernel, fun hm => absurd hm (by decide +kernel), fun _ d H3 s3 hd => ?_⟩
    refine ⟨true, e_UnknownModel.te, fun _ a na => ?_, fun z => Bool.noConfusion z⟩
    refine ⟨_, rfl, rfl, rfl, d, _, _, rfl, hd, rfl, (by show 2 ≤ sizeLine; omega), fun t nt => ?_⟩
    exact ⟨_, rfl, t, _, _, _, rfl, rfl, SqL.of upd_same, rfl, "trace", rfl, q _ ((s2.trans s3).trans (same_upd nt _))⟩
  · refine ⟨_, rfl, rfl, _, rfl, iteF ?_⟩
    refine ⟨_, rfl, _, rfl, Nat.zero_le _, fun u nu => ⟨(by show 2 ≤ sizeLine; omega), fun b nb => ?_⟩⟩
    have s1 := same_upd nu (.tup [])
    have hu1 : upd H u (.tup []) u = some (.tup []) := upd_same
    generalize upd H u (.tup []) = H1 at s1 hu1 nb ⊢
    have s2 := s1.trans (same_upd nb (.tup [.str "trace", .ref u]))
    have hu2 := same_upd nb (.tup [.str "trace", .ref u]) _ _ hu1
    have hb2 : upd H1 b (.tup [.str "trace", .ref u]) b = some (.tup [.str "trace", .ref u]) := upd_same
    generalize upd H1 b (.tup [.str "trace", .ref u]) = H2 at s2 hu2 hb2 ⊢
    refine ⟨φ, φ, p, p, b, u, n, n, E0, E0, [], [], 0, "failure", rfl, SA.same s2, n1, n60, lenE, SA.same s2, n1, n60, lenE, .inl (.inl hu2), .inl ⟨rfl, .inl (.inl hb2)⟩, fun x hx => absurd hx List.not_mem_nil, by decide, by decide +kernel, fun hm => absurd hm (by decide +kernel), fun _ d H3 s3 hd => ?_⟩
    refine ⟨true, e_UnknownModel.te, fun _ a na => ?_, fun z => Bool.noConfusion z⟩
    refine ⟨_, rfl, rfl, rfl, d, _, _, rfl, hd, rfl, (by show 2 ≤ sizeLine; omega), fun t nt => ?_⟩
    exact ⟨_, rfl, t, _, _, _, rfl, rfl, SqL.of upd_same, rfl, "failure", rfl, q _ ((s2.trans s3).trans (same_upd nt _))⟩
end
end LW

set_option Elab.async false
set_option linter.all false
set_option maxRecDepth 100000
set_option maxHeartbeats 400000
namespace LW
open PySem PySem.Spec PyProof.Rows L2 LamX NdefX VB VM VP VJ VE VX VQ VZ VY VF
abbrev s_law : Stmt := top 65
theorem sc_law : FnScope ["script", "first", "second", "one", "two", "quick", "k", "draws", "trace", "offers", "behaviour", "model", "due"] ["script"] (defScope s_law) := ⟨rfl, rfl, rfl, by decide +kernel, rfl, by decide +kernel, by decide +kernel⟩
section
variable {P : Program} {w : World} {K : PySem.W.Frag} {mg : Str → Option Value} {base : Heap}
theorem hang_congr {E E' : List Ed} (h : ∀ e, e ∈ E ↔ e ∈ E') {xs : List Str} (g : HangP E xs) : HangP E' xs := by
  obtain ⟨i, c0, cs, hi, h0, hr, s, hs, hh⟩ := g
  exact ⟨i, c0, cs, hi, h0.congr h fun _ => Iff.rfl, runs_congr h hr, s, hs, fun z => hh (halt_congr (fun e => (h e).symm) z)⟩
theorem allow_congr {E E' : List Ed} (h : ∀ e, e ∈ E ↔ e ∈ E') {xs os : List Str} {k : Nat} {md : Str} (g : AllowP E xs k os md) : AllowP E' xs k os md := by
  rcases g with ⟨a, b⟩ | ⟨a, c0, cs, h0, hr, b⟩ | ⟨a, c0, cs, h0, hr, s, hs, ht, b⟩
  · exact .inl ⟨a, hang_congr h b⟩
  · exact .inr (.inl ⟨a, c0, cs, h0.congr h fun _ => Iff.rfl, runs_congr h hr, b⟩)
  · exact .inr (.inr ⟨a, c0, cs, h0.congr h fun _ => Iff.rfl, runs_congr h hr, s, hs, (tg_nil_congr h s _).1 ht, fun x hx => b x (by rw [acs_congr h]; exact hx)⟩)
theorem beh_congr {E E' : List Ed} (h : ∀ e, e ∈ E ↔ e ∈ E') {cs : List Int} {os : List Str} : ∀ {k : Nat}, BehP E cs k os → BehP E' cs k os
  | 0, g => g
  | 1, ⟨s, hs, hh⟩ => ⟨s, hs, fun z => hh (halt_congr (fun e => (h e).symm) z)⟩
  | _ + 2, ⟨s, hs, ht, e⟩ => ⟨s, hs, (tg_nil_congr h s _).1 ht, by rw [← acs_congr h]; exact e⟩
theorem looks_kinds : ∀ md ∈ MODS, ∀ k, k ≤ 2 → looksB md (kdN k) = decide (kdN k ∈ kinds md) := by
  intro md hm k hk
  have kk : k = 0 ∨ k = 1 ∨ k = 2 := by omega
  rcases List.mem_cons.mp hm with rfl | hm
  · rcases kk with rfl | rfl | rfl <;> decide +kernel
  rcases List.mem_cons.mp hm with rfl | hm
  · rcases kk with rfl | rfl | rfl <;> decide +kernel
  rw [List.mem_singleton.mp hm]
  rcases kk with rfl | rfl | rfl <;> decide +kernel
/-- what stands throughout -/
structure Lw (K : PySem.W.Frag) (C : Addr) (φ ψ : Addr → Prop) (sa t1 l1 t2 l2 x1 x2 ql qa qb : Addr) (ns : List Int) (n1 n2 : Int) (L1 L2 : List (Addr × Ed)) (E1 E2 : List Ed) (H : Hp) : Prop where
  hs : SqL K H sa (ns.map V.int)
  p1 : PartAt K H t1 l1 n1 L1
  p2 : PartAt K H t2 l2 n2 L2
  s1 : SysAt K φ C H x1 n1 E1
  s2 : SysAt K ψ C H x2 n2 E2
  ql : H ql = some (.lst [.ref qa, .ref qb])
  qa : QAt K H qa n2 (L2.map (·.2))
  qb : QAt K H qb n1 (L1.map (·.2))
theorem Lw.same {C : Addr} {φ ψ : Addr → Prop} {sa t1 l1 t2 l2 x1 x2 ql qa qb : Addr} {ns : List Int} {n1 n2 : Int} {L1 L2 : List (Addr × Ed)} {E1 E2 : List Ed} {H H' : Hp} (L : Lw K C φ ψ sa t1 l1 t2 l2 x1 x2 ql qa qb ns n1 n2 L1 L2 E1 E2 H) (s : Same H H') :
    Lw K C φ ψ sa t1 l1 t2 l2 x1 x2 ql qa qb ns n1 n2 L1 L2 E1 E2 H' := ⟨s.seq L.hs, L.p1.ext (.of s), L.p2.ext (.of s), L.s1.same s, L.s2.same s, s _ _ L.ql, L.qa.same s, L.qb.same s⟩
theorem sq_extN {H H' : Hp} {a : Addr} {xs : List V} (h : SqL K H a xs) (e : ExtN H H') : SqL K H' a xs := by
  rcases h with (h | ⟨o, h⟩) | h
  · exact .inl (.inl (e _ _ h fun _ z => by cases z))
  · exact .inl (.inr ⟨o, e _ _ h fun _ z => by cases z⟩)
  · exact .inr h
def spLaw (K : PySem.W.Frag) (T : List (Addr × Str)) : Sp := fun vs H Q _ => ∃ (a : Addr) (ns : List Int), vs = [.ref a] ∧ SqL K H a (ns.map V.int) ∧ Tabs T H ∧ ∀ H', Q (.bl true) H'
theorem f_law {T : List (Addr × Str)} {C CU f : Addr} {fd : FuncData} (F : FnP K "law" s_law f fd) (z_range : mg "range" = none)
    (c__law_cell : C8.Cal P w K mg base 1 "_law_cell" (spCell K) []) (c__law_draws : C8.Cal P w K mg base 1 "_law_draws" spDraws []) (c__law_like : C8.Cal P w K mg base 4 "_law_like" (spLike K 4) []) (c__law_few : C8.Cal P w K mg base 1 "_law_few" (spFew K) [])
    (c__law_pair : C8.Cal P w K mg base 6 "_law_pair" (spPair K T) []) (c__law_made : C8.Cal P w K mg base 7 "_law_made" (spMadeU K C) []) (c__law_quick : C8.Cal P w K mg base 2 "_law_quick" (spQuick K) []) (c__law_trace : C8.Cal P w K mg base 2 "_law_trace" (spTrc K) [])
    (c__law_allows : C8.Cal P w K mg base 4 "_law_allows" (spQAll K) []) (c__law_has : C8.Cal P w K mg base 3 "_law_has" (spQHas K) []) (c__law_looks : C8.Cal P w K mg base 1 "_law_looks" spLooks [])
    (c_allows : C8.Cal P w K mg base 7 "allows" (calm (spAllowX K C CU)) []) (c_is_difference : C8.Cal P w K mg base 8 "is_difference" (calm (spDiffX K C CU)) []) (c__law_unknown : C8.Cal P w K mg base 9 "_law_unknown" (spUnk K C) []) :
    FnOk P w K mg base CX0 14 f fd ["script"] (spLaw K T) := by
  refine F.ok sc_law (fun vs H Q E h => ?_) (fun cdv A outer s H vs Q E0 hr h => ?_)
  · obtain ⟨a, ns, rfl, _⟩ := h
    rfl
  obtain ⟨sa, ns, rfl, hS, hT, q⟩ := h
  suffices hh : ∃ t0, PSs (cxOf CX0 P w K mg base ["script", "first", "second", "one", "two", "quick", "k", "draws", "trace", "offers", "behaviour", "model", "due"] "law" (defScope s_law) f cdv A outer s H E0).nox (defBody s_law) t0 ∧
      t0 { nx := fun _ H' => Q .non H', rt := Q } (start ["script", "first", "second", "one", "two", "quick", "k", "draws", "trace", "offers", "behaviour", "model", "due"] [.ref sa]) H by
    obtain ⟨t0, a, b⟩ := hh
    exact ⟨t0, a.nox, b⟩
  refine ⟨_, (pss_cons (ps_asg (C8.pe_c c__law_pair hr (by first | decide | omega) rfl (pa_cons (C8.pe_c c__law_cell hr (by first | decide | omega) rfl (pa_cons (pv 0) (pa_cons pe_int pa_nil))) (pa_cons (C8.pe_c c__law_cell hr (by first | decide | omega) rfl (pa_cons (pv 0) (pa_cons pe_int pa_nil))) (pa_cons (C8.pe_c c__law_cell hr (by first | decide | omega) rfl (pa_cons (pv 0) (pa_cons pe_int pa_nil))) pa_nil)))) (pg_lst rfl (pgs_cons (pg_name (i := 1) sc_law.nd rfl (Or.inl rfl)) (pgs_cons (pg_name (i := 2) sc_law.nd rfl (Or.inl rfl)) pgs_nil))))
    (pss_cons (ps_set (i := 3) sc_law.nd rfl (Or.inl rfl) (C8.pe_c c__law_made hr (by first | decide | omega) rfl (pa_cons (pv 1) pa_nil)))
    (pss_cons (ps_set (i := 4) sc_law.nd rfl (Or.inl rfl) (C8.pe_c c__law_made hr (by first | decide | omega) rfl (pa_cons (pv 2) pa_nil)))
    (pss_cons (ps_set (i := 5) sc_law.nd rfl (Or.inl rfl) (pe_lst (pa_cons (C8.pe_c c__law_quick hr (by first | decide | omega) rfl (pa_cons (pv 2) pa_nil)) (pa_cons (C8.pe_c c__law_quick hr (by first | decide | omega) rfl (pa_cons (pv 1) pa_nil)) pa_nil))))
    (pss_cons (ps_for PassesOwn.never rfl (pi_range1 rfl z_range (pa_cons pe_int pa_nil)) (pg_name (i := 6) sc_law.nd rfl (Or.inl rfl))
      (pss_cons (ps_set (i := 7) sc_law.nd rfl (Or.inl rfl) (C8.pe_c c__law_draws hr (by first | decide | omega) rfl (pa_cons (C8.pe_c c__law_cell hr (by first | decide | omega) rfl (pa_cons (pv 0) (pa_cons (pe_op op_add pe_int (pv 6)) pa_nil))) (pa_cons pe_int pa_nil))))
      (pss_cons (ps_set (i := 8) sc_law.nd rfl (Or.inl rfl) (C8.pe_c c__law_trace hr (by first | decide | omega) rfl (pa_cons (pe_ix (VK.ixL (K := K) rfl) (pv 5) (pe_op op_mod (pe_ix (VK.ixL (K := K) rfl) (pv 7) pe_int (fun _ _ => rfl)) pe_int) (fun _ _ => rfl)) (pa_cons (pv 7) pa_nil))))
      (pss_cons (ps_set (i := 9) sc_law.nd rfl (Or.inl rfl) (pe_dget (hu_of hr) (pe_dget (hu_of hr) (pe_ix (VK.ixL (K := K) rfl) (pv 5) pe_int (fun _ _ => rfl)) pe_str (fun _ _ => rfl)) (pe_op op_modN (pe_ix (VK.ixL (K := K) rfl) (pv 7) pe_int (fun _ _ => rfl)) (pe_ix (VK.ixT (K := K) rfl) (pv 2) pe_int (fun _ _ => rfl))) (fun _ _ => rfl)))
      (pss_cons (ps_if (pt_cmpR op_eq (pe_op op_mod (pe_ix (VK.ixL (K := K) rfl) (pv 7) pe_int (fun _ _ => rfl)) pe_int) pe_int (nomark _))
        (pss_one (ps_set (i := 9) sc_law.nd rfl (Or.inl rfl) (C8.pe_c c__law_few hr (by first | decide | omega) rfl (pa_cons (pe_op op_fdiv (pe_ix (VK.ixL (K := K) rfl) (pv 7) pe_int (fun _ _ => rfl)) pe_int) (pa_cons (pe_lst (pa_cons pe_str (pa_cons pe_str (pa_cons pe_str (pa_cons pe_str pa_nil))))) pa_nil)))))
        pss_nil)
      (pss_one (ps_for PassesOwn.never rfl (pi_list (pe_lst (pa_cons (pe_tup (pa_cons pe_str (pa_cons (pv 8) pa_nil))) (pa_cons (pe_tup (pa_cons pe_str (pa_cons (pv 8) pa_nil))) (pa_cons (pe_tup (pa_cons pe_str (pa_cons (pv 8) (pa_cons (pv 9) pa_nil)))) pa_nil))))) (pg_name (i := 10) sc_law.nd rfl (Or.inl rfl))
        (pss_one (ps_for PassesOwn.never rfl (pi_list (pe_lst (pa_cons pe_str (pa_cons pe_str (pa_cons pe_str pa_nil))))) (pg_name (i := 11) sc_law.nd rfl (Or.inl rfl))
          (pss_cons (ps_set (i := 12) sc_law.nd rfl (Or.inl rfl) (C8.pe_c c__law_allows hr (by first | decide | omega) rfl (pa_cons (pe_ix (VK.ixL (K := K) rfl) (pv 5) pe_int (fun _ _ => rfl)) (pa_cons (pv 10) (pa_cons (pv 11) pa_nil)))))
          (pss_cons (ps_if (pt_not (pt_val (C8.pe_c c__law_like hr (by first | decide | omega) rfl (pa_cons (C8.pe_c c_allows hr (by first | decide | omega) rfl (pa_cons (pv 3) (pa_cons (pv 10) (pa_cons (pv 11) pa_nil)))) (pa_cons (pv 12) pa_nil)))))
            (pss_one (ps_ret pe_bl))
            pss_nil)
          (pss_cons (ps_set (i := 12) sc_law.nd rfl (Or.inl rfl) (pe_and (C8.pe_c c__law_has hr (by first | decide | omega) rfl (pa_cons (pe_ix (VK.ixL (K := K) rfl) (pv 5) pe_int (fun _ _ => rfl)) (pa_cons (pv 10) pa_nil))) (pe_and (C8.pe_c c__law_looks hr (by first | decide | omega) rfl (pa_cons (pv 11) (pa_cons (pe_ix (VK.ixT (K := K) rfl) (pv 10) pe_int (fun _ _ => rfl)) pa_nil))) (pe_one (pe_not (pv 12))))))
          (pss_one (ps_if (pt_not (pt_val (C8.pe_c c__law_like hr (by first | decide | omega) rfl (pa_cons (C8.pe_c c_is_difference hr (by first | decide | omega) rfl (pa_cons (pv 3) (pa_cons (pv 4) (pa_cons (pv 11) (pa_cons (pv 10) pa_nil))))) (pa_cons (pv 12) pa_nil)))))
            (pss_one (ps_ret pe_bl))
            pss_nil))))))))))))))
    (pss_one (ps_ret (pe_and (C8.pe_c c__law_unknown hr (by first | decide | omega) rfl (pa_cons (pv 3) (pa_cons pe_int pa_nil))) (pe_one (C8.pe_c c__law_unknown hr (by first | decide | omega) rfl (pa_cons (pv 4) (pa_cons pe_int pa_nil)))))))))))), ?_⟩
  have zl := sizeLine_eq
  refine ⟨_, rfl, sa, ns, 0, rfl, hS, by decide, fun r0 _ => ?_⟩
  refine ⟨_, rfl, sa, ns, 1, rfl, hS, by decide, fun r1 _ => ?_⟩
  refine ⟨_, rfl, sa, ns, 2, rfl, hS, by decide, fun r2 _ => ?_⟩
  refine ⟨r0, r1, r2, rfl, hT, fun p t1 l1 t2 l2 n1 n2 L1 L2 H1 x1 hp P1 P2 => ?_⟩
  have hS1 := sq_extN hS x1
  clear hT hS
  refine ⟨p, _, rfl, SqL.of hp, rfl, _, _, rfl, _, _, rfl, rfl, ?_⟩
  refine ⟨_, rfl, t1, l1, n1, L1, rfl, .inl (.inl P1.t), SqL.of P1.l, P1.e, P1.n1, by have := P1.n6; omega, P1.few, P1.len, P1.ok, fun φ o1 E1 H2 s2 SA1 m1 => ?_⟩
  have P12 := P1.ext (.of s2)
  have P22 := P2.ext (.of s2)
  refine ⟨_, rfl, t2, l2, n2, L2, rfl, .inl (.inl P22.t), SqL.of P22.l, P22.e, P22.n1, by have := P22.n6; omega, P22.few, P22.len, P22.ok, fun ψ o2 E2 H3 s3 SA2 m2 => ?_⟩
  have P13 := P12.ext (.of s3)
  have P23 := P22.ext (.of s3)
  refine ⟨_, rfl, t2, l2, n2, L2, rfl, .inl (.inl P23.t), SqL.of P23.l, P23.e, P23.len, P23.ok, P23.n1, by have := P23.n6; omega, fun qa H4 s4 QA => ?_⟩
  have P14 := P13.ext (.of s4)
  refine ⟨_, rfl, t1, l1, n1, L1, rfl, .inl (.inl P14.t), SqL.of P14.l, P14.e, P14.len, P14.ok, P14.n1, by have := P14.n6; omega, fun qb H5 s5 QB => ?_⟩
  refine ⟨(by show 2 ≤ sizeLine; omega), fun ql nql => ?_⟩
  have s6 := same_upd nql (.lst [.ref qa, .ref qb])
  have s36 := (s4.trans s5).trans s6
  have W : Lw K C φ ψ sa t1 l1 t2 l2 o1 o2 ql qa qb ns n1 n2 L1 L2 E1 E2 (upd H5 ql (.lst [.ref qa, .ref qb])) :=
    ⟨((s2.trans s3).trans s36).seq hS1, P13.ext (.of s36), P23.ext (.of s36), SA1.same (s3.trans s36), SA2.same s36, upd_same, QA.same (s5.trans s6), QB.same s6⟩
  have le1 : E1.length ≤ 1000 := by
    have z := nd_le E1 (L1.map (·.2)) (List.nodup_iff_pairwise_ne.mpr (SA1.asc.imp fun z e => by rw [e] at z; exact ltE_irrefl _ z)) fun e he => (m1 e).1 he
    rw [List.length_map] at z
    have := P1.len
    omega
  have le2 : E2.length ≤ 1000 := by
    have z := nd_le E2 (L2.map (·.2)) (List.nodup_iff_pairwise_ne.mpr (SA2.asc.imp fun z e => by rw [e] at z; exact ltE_irrefl _ z)) fun e he => (m2 e).1 he
    rw [List.length_map] at z
    have := P2.len
    omega
  generalize upd H5 ql (.lst [.ref qa, .ref qb]) = H6 at W ⊢
  clear QA QB P14 P13 P23 P12 P22 s2 s3 s4 s5 s6 s36 nql SA1 SA2 hS1 x1 hp
  refine ⟨4, rfl, by decide, by decide, for_range (lo := 0) (n := 4) (fun i σ H' => ∃ r6 r7 r8 r9 r10 r11 r12 : Option V, σ = [some (.ref sa), some (.ref t1), some (.ref t2), some (.ref o1), some (.ref o2), some (.ref ql), r6, r7, r8, r9, r10, r11, r12] ∧ Lw K C φ ψ sa t1 l1 t2 l2 o1 o2 ql qa qb ns n1 n2 L1 L2 E1 E2 H')
    ⟨none, none, none, none, none, none, none, rfl, W⟩ ?_ ?_⟩
  · rintro i σ H7 hi ⟨r6, r7, r8, r9, r10, r11, r12, rfl, W7⟩
    refine ⟨_, rfl, _, rfl, _, _, rfl, rfl, sa, ns, 3 + (0 + (i : Nat)), rfl, W7.hs, by omega, fun r3 _ => ?_⟩
    refine ⟨r3, 9, rfl, by decide, by decide, fun d ds nd hds rds => ?_⟩
    have lds : ds.length = 9 := hds
    have s8 := same_upd nd (.lst (ds.map V.int))
    have hd8 : upd H7 d (.lst (ds.map V.int)) d = some (.lst (ds.map V.int)) := upd_same
    have W8 := W7.same s8
    generalize upd H7 d (.lst (ds.map V.int)) = H8 at W8 hd8 ⊢
    have dAt : ∀ i : Nat, i < 9 → ∃ x : Int, atI (ds.map V.int) (i : Nat) = some (.int x) ∧ 0 ≤ x := fun i hi => by
      obtain ⟨x, hx, ex⟩ := pickI ds V.int (r := (i : Int)) (by omega) (by omega)
      exact ⟨x, ex, (rds x hx).1⟩
    obtain ⟨x8, e8, _⟩ := dAt 8 (by decide)
    obtain ⟨x7, e7, p7⟩ := dAt 7 (by decide)
    obtain ⟨x6, e6, _⟩ := dAt 6 (by decide)
    have pick : ∃ qi ni Li, atI [V.ref qa, V.ref qb] (x8 % 2) = some (.ref qi) ∧ QAt K H8 qi ni Li := by
      have h0 := Int.emod_nonneg x8 (show (2 : Int) ≠ 0 by decide)
      have h1 := Int.emod_lt_of_pos x8 (show (0 : Int) < 2 by decide)
      have hh : x8 % 2 = 0 ∨ x8 % 2 = 1 := by omega
      rcases hh with e | e
      · exact ⟨qa, _, _, by rw [e] <;> rfl, W8.qa⟩
      · exact ⟨qb, _, _, by rw [e] <;> rfl, W8.qb⟩
    obtain ⟨qi, ni, Li, eqi, QI⟩ := pick
    refine ⟨_, rfl, _, rfl, d, _, _, .int x8, rfl, rfl, SqL.of hd8, e8, _, _, rfl, rfl, (by show (0 : Int) < 2; decide), ql, _, _, _, rfl, rfl, SqL.of W8.ql, eqi, _, rfl, qi, d, ni, Li, ds, rfl, QI, hd8, lds, rds, fun tr H9 xs s9 htr lxs => ?_⟩
    have W9 := W8.same s9
    have hd9 := s9 _ _ hd8
    obtain ⟨dO, f1, f2⟩ := W9.qa.offers
    have n20 : 0 < n2 := by have := P2.n1; omega
    obtain ⟨v, f3, oa, rfl, f4⟩ := f2.at_ (x := x6.fmod n2) (Int.fmod_nonneg_of_pos _ n20) (Int.fmod_lt_of_pos _ n20)
    refine ⟨_, rfl, ql, _, _, _, rfl, rfl, SqL.of W9.ql, rfl, qa, _, rfl, f1, ?_⟩
    refine ⟨_, rfl, d, _, _, .int x6, rfl, rfl, SqL.of hd9, e6, _, rfl, t2, _, _, _, rfl, rfl, .inl (.inl W9.p2.t), rfl, _, _, rfl, rfl, (by omega), dO, _, rfl, f3, ?_⟩
    refine nmS ?_
    refine seqJ (fun σ H' => ∃ (of : Addr) (os : List Str), σ = [some (.ref sa), some (.ref t1), some (.ref t2), some (.ref o1), some (.ref o2), some (.ref ql), some (.int (0 + (i : Nat))), some (.ref d), some (.ref tr), some (.ref of), r10, r11, r12] ∧ Same H9 H' ∧ SqT K H' of (os.map V.str) ∧ OkR os ∧ os.length ≤ 1000) (fun N hN => ?_) (fun σ H10 ⟨of, os, eσ, s10, hof, oko, los⟩ => ?_)
    · refine ⟨_, rfl, d, _, _, .int x7, rfl, rfl, SqL.of hd9, e7, _, _, rfl, rfl, (by show (0 : Int) < 3; decide), rfl, _, rfl, ?_⟩
      refine ite2 (fun c => ?_) (fun c => ?_)
      · refine ⟨_, rfl, d, _, _, .int x7, rfl, rfl, SqL.of hd9, e7, _, _, rfl, rfl, ⟨by decide, by decide⟩, ?_⟩
        refine ⟨(by show 4 ≤ sizeLine; omega), fun tl ntl => ?_⟩
        have sl := same_upd ntl (.lst [V.str "a", .str "b", .str "c", .str "tick"])
        refine ⟨x7 / 3, tl, ["a", "b", "c", "tick"], rfl, SqL.of upd_same, by decide, Int.ediv_nonneg p7 (by decide), fun p H' ss s' hp sub ls => ?_⟩
        refine nmS (hN _ _ ⟨p, ss, rfl, sl.trans s', .inl (.inl hp), fun x hx => ?_, ?_⟩)
        · have ok4 : ∀ x ∈ (["a", "b", "c", "tick"] : List Str), PyData.strOk x = true := by decide +kernel
          exact ok4 x (sub x hx)
        · have : (["a", "b", "c", "tick"] : List Str).length = 4 := rfl
          omega
      · exact hN _ _ ⟨oa, _, rfl, Same.refl H9, f4, off_ok W9.qa.ok _, Nat.le_trans (srtAcs_len _ _) W9.qa.len⟩
    subst eσ
    have W10 := W9.same s10
    have htr10 := VB.Same.sqT s10 htr
    clear f4 f3 f2 f1 e6 e7 e8 hd9 hd8 hds W9 W8 QI
    refine ⟨_, rfl, (by show 2 ≤ sizeLine; omega), fun b0 nb0 => ?_⟩
    have sb0 := same_upd nb0 (.tup [.str "trace", .ref tr])
    have hb0 : upd H10 b0 (.tup [.str "trace", .ref tr]) b0 = some (.tup [.str "trace", .ref tr]) := upd_same
    generalize upd H10 b0 (.tup [.str "trace", .ref tr]) = G1 at sb0 hb0 ⊢
    refine ⟨_, rfl, (by show 2 ≤ sizeLine; omega), fun b1 nb1 => ?_⟩
    have sb1 := same_upd nb1 (.tup [.str "divergence", .ref tr])
    have hb1 : upd G1 b1 (.tup [.str "divergence", .ref tr]) b1 = some (.tup [.str "divergence", .ref tr]) := upd_same
    have hb0' := sb1 _ _ hb0
    generalize upd G1 b1 (.tup [.str "divergence", .ref tr]) = G2 at sb1 hb1 hb0' ⊢
    refine ⟨_, rfl, _, rfl, (by show 3 ≤ sizeLine; omega), fun b2 nb2 => ?_⟩
    have sb2 := same_upd nb2 (.tup [.str "failure", .ref tr, .ref of])
    have hb2 : upd G2 b2 (.tup [.str "failure", .ref tr, .ref of]) b2 = some (.tup [.str "failure", .ref tr, .ref of]) := upd_same
    have hb0'' := sb2 _ _ hb0'
    have hb1'' := sb2 _ _ hb1
    generalize upd G2 b2 (.tup [.str "failure", .ref tr, .ref of]) = G3 at sb2 hb2 hb0'' hb1'' ⊢
    refine ⟨(by show 3 ≤ sizeLine; omega), fun bl nbl => ?_⟩
    have sbl := same_upd nbl (.lst [.ref b0, .ref b1, .ref b2])
    have hbl : upd G3 bl (.lst [.ref b0, .ref b1, .ref b2]) bl = some (.lst [.ref b0, .ref b1, .ref b2]) := upd_same
    have s1b := ((sb0.trans sb1).trans sb2).trans sbl
    have WB := W10.same s1b
    have htrB := VB.Same.sqT s1b htr10
    have hofB := VB.Same.sqT s1b hof
    have k0 : BhS K (upd G3 bl (.lst [.ref b0, .ref b1, .ref b2])) b0 tr 0 os := .inl ⟨rfl, .inl (.inl (sbl _ _ hb0''))⟩
    have k1 : BhS K (upd G3 bl (.lst [.ref b0, .ref b1, .ref b2])) b1 tr 1 os := .inr (.inl ⟨rfl, .inl (.inl (sbl _ _ hb1''))⟩)
    have k2 : BhS K (upd G3 bl (.lst [.ref b0, .ref b1, .ref b2])) b2 tr 2 os := .inr (.inr ⟨rfl, of, .inl (.inl (sbl _ _ hb2)), hofB⟩)
    generalize upd G3 bl (.lst [.ref b0, .ref b1, .ref b2]) = GB at hbl WB htrB hofB k0 k1 k2 ⊢
    clear hb0'' hb1'' hb2 sb0 sb1 sb2 sbl s1b hb0' hb0 hb1 W10 htr10 hof htr s10 s9
    refine ⟨bl, rfl, ⟨_, SqL.of hbl⟩, for_list (K := K) (a := bl) (xs := [.ref b0, .ref b1, .ref b2])
      (fun j σ H' => ∃ r10 r11 r12 : Option V, σ = [some (.ref sa), some (.ref t1), some (.ref t2), some (.ref o1), some (.ref o2), some (.ref ql), some (.int (0 + (i : Nat))), some (.ref d), some (.ref tr), some (.ref of), r10, r11, r12] ∧ Same GB H')
      ⟨_, _, _, rfl, Same.refl GB⟩ (fun j σ H' _ ⟨_, _, _, _, z⟩ => SqL.of (z _ _ hbl)) ?_ ?_⟩
    · rintro j v σ H11 hv ⟨r10, r11, r12, rfl, s11⟩
      obtain ⟨b, k, rfl, hk2, hB⟩ : ∃ (b : Addr) (k : Nat), v = .ref b ∧ k ≤ 2 ∧ BhS K GB b tr k os := by
        have lt := (List.getElem?_eq_some_iff.mp hv).1
        have hj : j = 0 ∨ j = 1 ∨ j = 2 := by
          have : [V.ref b0, V.ref b1, V.ref b2].length = 3 := rfl
          omega
        rcases hj with rfl | rfl | rfl
        · cases hv; exact ⟨b0, 0, rfl, by decide, k0⟩
        · cases hv; exact ⟨b1, 1, rfl, by decide, k1⟩
        · cases hv; exact ⟨b2, 2, rfl, by decide, k2⟩
      refine ⟨(by show 3 ≤ sizeLine; omega), fun ml nml => ?_⟩
      have s12 := s11.trans (same_upd nml (.lst [.str "traces", .str "failures", .str "divergences"]))
      have hml : upd H11 ml (.lst [.str "traces", .str "failures", .str "divergences"]) ml = some (.lst (MODS.map V.str)) := upd_same
      generalize upd H11 ml (.lst [.str "traces", .str "failures", .str "divergences"]) = H12 at s12 hml ⊢
      refine ⟨ml, rfl, ⟨_, SqL.of hml⟩, for_list (K := K) (a := ml) (xs := MODS.map V.str)
        (fun m σ H' => ∃ r11 r12 : Option V, σ = [some (.ref sa), some (.ref t1), some (.ref t2), some (.ref o1), some (.ref o2), some (.ref ql), some (.int (0 + (i : Nat))), some (.ref d), some (.ref tr), some (.ref of), some (.ref b), r11, r12] ∧ Same H12 H')
        ⟨_, _, rfl, Same.refl H12⟩ (fun j σ H' _ ⟨_, _, _, z⟩ => SqL.of (z _ _ hml)) ?_ ?_⟩
      · rintro m v σ H13 hv2 ⟨r11, r12, rfl, s13⟩
        rw [List.getElem?_map] at hv2
        obtain ⟨md, hmd, rfl⟩ := Option.map_eq_some_iff.mp hv2
        have hm : md ∈ MODS := List.mem_of_getElem? hmd
        have sG := s12.trans s13
        have lmd : md.length ≤ 1000 := by
          have z : ∀ x ∈ MODS, x.length ≤ 1000 := by decide +kernel
          exact z md hm
        have W13 := WB.same sG
        obtain ⟨ys, hY, y0, y1⟩ := hB.at_
        have n1a := P1.n1
        have n1b := P1.n6
        have n2a := P2.n1
        have n2b := P2.n6
        refine ⟨_, rfl, ql, _, _, _, rfl, rfl, SqL.of W13.ql, rfl, _, rfl, _, rfl, qb, b, tr, n1, L1.map (·.2), xs, os, k, md, rfl, W13.qb, VB.Same.sqT sG htrB, hB.same sG, oko, fun r1 H14 s14 hr1 => nmS ?_⟩
        have sG4 := sG.trans s14
        have W14 := W13.same s14
        refine ⟨_, rfl, _, rfl, _, rfl, φ, o1, b, tr, n1, E1, xs, os, k, md, rfl, W14.s1, n1a, by omega, le1, VB.Same.sqT sG4 htrB, hB.same sG4, oko, los, lmd, fun _ r H15 s15 hr => ?_, fun hn => absurd hm hn⟩
        have eq1 : r = r1 := by
          refine Bool.eq_iff_iff.mpr (hr.trans (Iff.trans ?_ hr1.symm))
          exact ⟨allow_congr m1, allow_congr fun e => (m1 e).symm⟩
        rw [eq1]
        refine ⟨_, rfl, .bl r1, .bl r1, .bool r1, rfl, .bl r1, .bl r1, by show 0 < 4; decide, rfl, fun H16 s16 => ⟨_, rfl, iteF ?_⟩⟩
        have sG6 := (sG4.trans s15).trans s16
        have W16 := W14.same (s15.trans s16)
        refine nxT ?_
        refine setJ (fun v H' => Same H16 H' ∧ ∃ r3 : Bool, v = .bl r3 ∧ (r3 = true ↔ DiffP E1 E2 xs k os md)) (fun Q' fin => ?_) (fun v H17 ⟨s17, r3, ev, hr3⟩ => ?_)
        · refine ⟨_, rfl, ql, _, _, _, rfl, rfl, SqL.of W16.ql, rfl, _, rfl, qa, b, tr, n2, L2.map (·.2), xs, os, k, rfl, W16.qa, VB.Same.sqT sG6 htrB, hB.same sG6, oko, fun r2 H17 c0 cs s17 hc0 hrn hr2 => ⟨r2, rfl, ?_⟩⟩
          have bE : BehP (L2.map (·.2)) cs k os ↔ BehP E2 cs k os := ⟨beh_congr fun e => (m2 e).symm, beh_congr m2⟩
          have hc0' : IsClo E2 [0] c0 := hc0.congr (fun e => (m2 e).symm) fun _ => Iff.rfl
          have hrn' : Runs E2 c0 xs cs := runs_congr (fun e => (m2 e).symm) hrn
          refine ite2b (fun e2 => ?_) (fun e2 => ?_)
          · refine ⟨_, rfl, _, rfl, b, _, _, _, rfl, rfl, VB.Same.sqT (sG6.trans s17) hY, y0, md, kdN k, rfl, _, rfl, ?_⟩
            rw [looks_kinds md hm k hk2]
            refine ite2b (fun e3 => ?_) (fun e3 => ?_)
            · refine ⟨_, rfl, r1, rfl, fin _ _ ⟨s17, _, rfl, ⟨fun z => ⟨of_decide_eq_true e3, ⟨c0, cs, hc0', hrn', bE.1 (hr2.1 e2)⟩, fun y => ?_⟩, fun ⟨_, _, z⟩ => ?_⟩⟩⟩
              · rw [hr1.2 (allow_congr m1 y)] at z
                cases z
              · cases r1 with
                | false => rfl
                | true => exact absurd (allow_congr (fun e => (m1 e).symm) (hr1.1 rfl)) z
            · exact fin _ _ ⟨s17, false, rfl, ⟨fun z => (by cases z), fun z => absurd z.1 (of_decide_eq_false e3)⟩⟩
          · refine fin _ _ ⟨s17, false, rfl, ⟨fun z => (by cases z), fun ⟨_, ⟨d0, ds', hd0, hrd, z⟩, _⟩ => ?_⟩⟩
            rw [hd0.uniq hc0'] at hrd
            rw [runs_uniq hrd hrn'] at z
            rw [hr2.2 (bE.2 z)] at e2
            cases e2
        subst ev
        have sG7 := sG6.trans s17
        have W17 := W16.same s17
        refine ⟨_, rfl, _, rfl, _, rfl, _, rfl, φ, ψ, o1, o2, b, tr, n1, n2, E1, E2, xs, os, k, md, rfl, W17.s1, n1a, by omega, le1, W17.s2, n2a, by omega, le2, VB.Same.sqT sG7 htrB, hB.same sG7, oko, los, lmd, fun _ r4 H18 s18 hr4 => ?_, fun hn => absurd hm hn⟩
        have eq2 : r4 = r3 := Bool.eq_iff_iff.mpr (hr4.trans hr3.symm)
        rw [eq2]
        refine ⟨_, rfl, .bl r3, .bl r3, .bool r3, rfl, .bl r3, .bl r3, by show 0 < 4; decide, rfl, fun H19 s19 => ⟨_, rfl, iteF ?_⟩⟩
        exact ⟨_, _, rfl, s13.trans ((((s14.trans s15).trans s16).trans s17).trans (s18.trans s19))⟩
      · rintro σ H13 ⟨r11, r12, rfl, s13⟩
        exact ⟨_, _, _, rfl, s12.trans s13⟩
    · rintro σ H11 ⟨r10, r11, r12, rfl, s11⟩
      exact ⟨_, _, _, _, _, _, _, rfl, WB.same s11⟩
  · rintro σ H7 ⟨r6, r7, r8, r9, r10, r11, r12, rfl, W7⟩
    refine ⟨_, rfl, φ, o1, n1, E1, 0, rfl, W7.s1, P1.n1, by have := P1.n6; omega, le1, .inl rfl, fun H8 s8 => ?_⟩
    refine ⟨_, rfl, ?_⟩
    refine iteT ?_
    exact ⟨_, rfl, ψ, o2, n2, E2, 1, rfl, W7.s2.same s8, P2.n1, by have := P2.n6; omega, le2, .inr rfl, fun H9 s9 => q H9⟩
end
end LW

set_option Elab.async false
set_option linter.all false
set_option maxRecDepth 100000
set_option maxHeartbeats 4000000
namespace VHK
open PySem PySem.Spec PyProof.Rows L2 LamX NdefX He
/-! the facts of a head over what the names reach and the table of the interpreter's statics -/
def asS (g : Addr → Option Obj) (n : Nat) : List Addr := He.asD g n ++ [cStatics]
def obsS (n : Nat) (fa : List Fa) (fn : List DefD) (ex : PySem.W.Frag → Bool) (g : Addr → Option Obj) : AlX := (obsT fa fn [] (frT g (asS g n)), ex (frT g (asS g n)))
theorem says_of {n : Nat} {fa : List Fa} {fn : List DefD} {ex : PySem.W.Frag → Bool} {w : World} {h : Heap} (e : obsS n fa fn ex h.get? = valX fn [] w) : SaysX fa fn [] [] ex w h (frT h.get? (asS h.get? n)) :=
  ⟨congrArg (fun z : AlX => z.1) e, congrArg (fun z : AlX => z.2) e, fun p hp => absurd hp List.not_mem_nil, fun p hp => absurd hp List.not_mem_nil, fun p hp => absurd hp List.not_mem_nil⟩
def hookS (n : Nat) (fa : List Fa) (fn : List DefD) (ex : PySem.W.Frag → Bool) : PySem.W.Hook where
  α := AlX
  obs := fun s => obsS n fa fn ex s.heap.get?
  val := fun w => valX fn [] w
  says := fun w h => ∃ K : PySem.W.Frag, K.In h ∧ SaysX fa fn [] [] ex w h K
  of := fun _ _ e => ⟨_, frT_in, says_of e⟩
  keeps := fun _ _ _ ⟨K, hK, c⟩ k => ⟨K, PySem.W.Frag.In.keeps hK k, ⟨c.t, c.more, c.hd, c.out, fun p hp => absurd hp List.not_mem_nil⟩⟩
theorem obsS_eq {n : Nat} {fa : List Fa} {fn : List DefD} {ex : PySem.W.Frag → Bool} {g : Addr → Option Obj} {s : Shared} (h : ∀ a, g a = s.heap.get? a) : obsS n fa fn ex g = (hookS n fa fn ex).obs s := by
  have e : g = s.heap.get? := funext h
  rw [e] <;> rfl
/-- .. with tables -/
def obsR (n : Nat) (fa : List Fa) (fn : List DefD) (ts : List Tab) (ex : PySem.W.Frag → Bool) (g : Addr → Option Obj) : AlX := (obsT fa fn ts (frT g (asS g n)), ex (frT g (asS g n)))
theorem saysR_of {n : Nat} {fa : List Fa} {fn : List DefD} {ts : List Tab} {ex : PySem.W.Frag → Bool} {w : World} {h : Heap} (e : obsR n fa fn ts ex h.get? = valX fn ts w) : SaysX fa fn ts [] ex w h (frT h.get? (asS h.get? n)) :=
  ⟨congrArg (fun z : AlX => z.1) e, congrArg (fun z : AlX => z.2) e, fun p hp => absurd hp List.not_mem_nil, fun p hp => absurd hp List.not_mem_nil, fun p hp => absurd hp List.not_mem_nil⟩
def hookR (n : Nat) (fa : List Fa) (fn : List DefD) (ts : List Tab) (ex : PySem.W.Frag → Bool) : PySem.W.Hook where
  α := AlX
  obs := fun s => obsR n fa fn ts ex s.heap.get?
  val := fun w => valX fn ts w
  says := fun w h => ∃ K : PySem.W.Frag, K.In h ∧ SaysX fa fn ts [] ex w h K
  of := fun _ _ e => ⟨_, frT_in, saysR_of e⟩
  keeps := fun _ _ _ ⟨K, hK, c⟩ k => ⟨K, PySem.W.Frag.In.keeps hK k, ⟨c.t, c.more, c.hd, c.out, fun p hp => absurd hp List.not_mem_nil⟩⟩
theorem obsR_eq {n : Nat} {fa : List Fa} {fn : List DefD} {ts : List Tab} {ex : PySem.W.Frag → Bool} {g : Addr → Option Obj} {s : Shared} (h : ∀ a, g a = s.heap.get? a) : obsR n fa fn ts ex g = (hookR n fa fn ts ex).obs s := by
  have e : g = s.heap.get? := funext h
  rw [e] <;> rfl
end VHK
namespace VHK
open PySem PySem.Spec PyProof.Rows L2 LamX NdefX He
/-! .. with the tables of code too -/
def obsQ (n : Nat) (fa : List Fa) (fn : List DefD) (ts : List Tab) (tf : List Defn) (ex : PySem.W.Frag → Bool) (g : Addr → Option Obj) : AlX := (obsT fa fn ts (frT g (asS g n)), ex (frT g (asS g n)) && tabsB g tf (frT g (asS g n)))
theorem tabs_at {g : Addr → Option Obj} {tf : List Defn} {K : PySem.W.Frag} (h : tabsB g tf K = true) {p : Defn} (hp : p ∈ tf) : PySem.W.codeHdIn K (cT K p).1 (cT K p).2 = true ∧ ∃ o, g (cT K p).2 = some o ∧ emptyTab o = true := by
  obtain ⟨h1, h2⟩ := ba (List.all_eq_true.mp h p hp)
  refine ⟨h1, ?_⟩
  cases e : g (cT K p).2 with
  | none => rw [e] at h2; cases h2
  | some o => rw [e] at h2; exact ⟨o, rfl, h2⟩
theorem saysQ_of {n : Nat} {fa : List Fa} {fn : List DefD} {ts : List Tab} {tf : List Defn} {ex : PySem.W.Frag → Bool} {w : World} {h : Heap} (e : obsQ n fa fn ts tf ex h.get? = valX fn ts w) : SaysX fa fn ts tf ex w h (frT h.get? (asS h.get? n)) := by
  have e2 : (ex (frT h.get? (asS h.get? n)) && tabsB h.get? tf (frT h.get? (asS h.get? n))) = true := congrArg (fun z : AlX => z.2) e
  obtain ⟨h1, h2⟩ := ba e2
  refine ⟨congrArg (fun z : AlX => z.1) e, h1, fun p hp => (tabs_at h2 hp).1, fun p hp => ?_, fun p hp => ?_⟩
  · obtain ⟨_, o, q, z⟩ := tabs_at h2 hp
    exact frT_none q z
  · obtain ⟨_, o, q, z⟩ := tabs_at h2 hp
    rw [q, emptyTab_eq z]
def hookQ (n : Nat) (fa : List Fa) (fn : List DefD) (ts : List Tab) (tf : List Defn) (ex : PySem.W.Frag → Bool) : PySem.W.Hook where
  α := AlX
  obs := fun s => obsQ n fa fn ts tf ex s.heap.get?
  val := fun w => valX fn ts w
  says := fun w h => ∃ K : PySem.W.Frag, K.In h ∧ SaysX fa fn ts tf ex w h K
  of := fun _ _ e => ⟨_, frT_in, saysQ_of e⟩
  keeps := fun _ _ _ ⟨K, hK, c⟩ k => ⟨K, PySem.W.Frag.In.keeps hK k, ⟨c.t, c.more, c.hd, c.out, fun p hp => k _ _ (c.empty p hp)⟩⟩
theorem obsQ_eq {n : Nat} {fa : List Fa} {fn : List DefD} {ts : List Tab} {tf : List Defn} {ex : PySem.W.Frag → Bool} {g : Addr → Option Obj} {s : Shared} (h : ∀ a, g a = s.heap.get? a) : obsQ n fa fn ts tf ex g = (hookQ n fa fn ts tf ex).obs s := by
  have e : g = s.heap.get? := funext h
  rw [e] <;> rfl
/-- a written tuple of values at an address -/
def tupAt (K : PySem.W.Frag) (a : Addr) (vs : List V) : Bool := match K.lookup a with
  | some ⟨.type c, _, .seq its _, _⟩ => decide (c = "tuple") && (decide (its.size ≤ sizeLine) && relAll vs its.toList)
  | _ => false
theorem tupAt_ok {K : PySem.W.Frag} {a : Addr} {vs : List V} (h : tupAt K a vs = true) (H : Hp) : SqT K H a vs := by
  unfold tupAt at h
  cases q : K.lookup a with
  | none => rw [q] at h; cases h
  | some o =>
    obtain ⟨oc, od, dt, osl⟩ := o
    rw [q] at h
    cases oc with
    | type c =>
      cases dt with
      | seq its n =>
        obtain ⟨h1, h2⟩ := ba h
        obtain ⟨h3, h4⟩ := ba h2
        exact .inr ⟨_, its, n, q, by rw [of_decide_eq_true h1], rfl, of_decide_eq_true h3, relAll_ok h4⟩
      | _ => cases h
    | _ => cases h
/-- what a written dict holds under a text, an address -/
def atKey (K : PySem.W.Frag) (d : Addr) (x : Str) : Addr := match PySem.W.nsIn K d x with
  | some (some (.ref a)) => a
  | _ => 0
end VHK

set_option Elab.async false
set_option linter.all false
set_option maxRecDepth 100000
set_option maxHeartbeats 0
namespace LW
open PySem PySem.Spec PyProof.Rows L2 LamX NdefX VB VM VP VE VX VF VY
def dd (x : Str) (st : Stmt) : He.DefD := ⟨(x, none), x, x, defArgs st, defBody st, defScope st, [], []⟩
def dm (c m q : Str) (st : Stmt) : He.DefD := ⟨(c, some m), m, q, defArgs st, defBody st, defScope st, [], []⟩
def fn : List He.DefD := [dd "closure" s_closure, dd "after" s_after, dd "states_after" s_states_after, dd "is_trace" s_is_trace, dd "stable_offers" s_stable_offers, dd "offers_among" s_offers_among, dd "diverging" s_diverging, dd "diverging_among" s_diverging_among, dd "is_divergence" s_is_divergence, dd "is_behaviour" s_is_behaviour, dd "is_model" s_is_model, dd "check_model" s_check_model, dd "looks_at" s_looks_at, dd "has_part" s_has_part, dd "is_within" s_is_within, dd "allows" s_allows, dd "may_hang" s_may_hang, dd "is_difference" s_is_difference, dd "is_event" s_is_event, dd "has_form" s_has_form, dd "is_action" s_is_action, dd "check_edges" s_check_edges, dd "_law_cell" s__law_cell, dd "_law_draws" s__law_draws, dd "_law_like" s__law_like, dd "_law_few" s__law_few, dd "_law_system" s__law_system, dd "_law_made" s__law_made, dd "_law_once" s__law_once, dd "_law_quick" s__law_quick, dd "_law_starts" s__law_starts, dd "_law_go" s__law_go, dd "_law_along" s__law_along, dd "_law_shown" s__law_shown, dd "_law_does" s__law_does, dd "_law_part_of" s__law_part_of, dd "_law_any_lost" s__law_any_lost, dd "_law_hangs" s__law_hangs, dd "_law_has" s__law_has, dd "_law_allows" s__law_allows, dd "_law_looks" s__law_looks, dd "_law_near" s__law_near, dd "_law_pair" s__law_pair, dd "_law_unknown" s__law_unknown, dd "_law_trace" s__law_trace, dd "law" s_law, dm "System" "__init__" "System.__init__" s_System___init__, dm "System" "targets" "System.targets" s_System_targets, dm "System" "offers" "System.offers" s_System_offers, dm "System" "is_stable" "System.is_stable" s_System_is_stable, dm "System" "_check_state" "System._check_state" s_System__check_state, dm "UnknownModel" "__init__" "UnknownModel.__init__" s_UnknownModel___init__]
def fa : List He.Fa := [.glo "closure", .glo "after", .glo "states_after", .glo "is_trace", .glo "stable_offers", .glo "offers_among", .glo "diverging", .glo "diverging_among", .glo "is_divergence", .glo "is_behaviour", .glo "is_model", .glo "check_model", .glo "looks_at", .glo "has_part", .glo "is_within", .glo "allows", .glo "may_hang", .glo "is_difference", .glo "is_event", .glo "has_form", .glo "is_action", .glo "check_edges", .glo "_law_cell", .glo "_law_draws", .glo "_law_like", .glo "_law_few", .glo "_law_system", .glo "_law_made", .glo "_law_once", .glo "_law_quick", .glo "_law_starts", .glo "_law_go", .glo "_law_along", .glo "_law_shown", .glo "_law_does", .glo "_law_part_of", .glo "_law_any_lost", .glo "_law_hangs", .glo "_law_has", .glo "_law_allows", .glo "_law_looks", .glo "_law_near", .glo "_law_pair", .glo "_law_unknown", .glo "_law_trace", .glo "law", .free "len", .free "range", .free "abs", .free "int", .free "isinstance", .free "bool", .free "str", .free "list", .free "tuple", .free "set", .free "sorted", .free "all", .free "any", .glo "KINDS_IN_MODELS", .str "LOWER" "abcdefghijklmnopqrstuvwxyz", .str "DIGITS" "0123456789", .int "LONGEST_NAME" 12, .glo "NO_EVENTS", .int "MOST_STATES" 20000, .glo "System", .cls "System", .noat "System" "count", .noat "System" "edges", .noat "System" "_leaving", .noat "System" "_targets", .mkr "System", .meth "System" "targets", .meth "System" "offers", .meth "System" "is_stable", .meth "System" "_check_state", .glo "BadArgument", .exc "BadArgument", .exm "BadArgument" "BadArgument" true, .glo "BadSystem", .exc "BadSystem", .exm "BadSystem" "BadSystem" true, .glo "UnknownModel", .exm "UnknownModel" "UnknownModel" true, .glo "ParleyError"]
abbrev loose : List Str := (["KINDS_IN_MODELS", "LOWER", "DIGITS", "LONGEST_NAME", "NO_EVENTS", "MOST_STATES", "ParleyError", "BadArgument", "BadSystem", "UnknownModel", "System", "_wall", "closure", "after", "states_after", "is_trace", "stable_offers", "offers_among", "diverging", "diverging_among", "is_divergence", "is_behaviour", "is_model", "check_model"] : List Str) ++ (["looks_at", "has_part", "is_within", "allows", "may_hang", "is_difference", "is_event", "has_form", "is_action", "check_edges", "_law_cell", "_law_draws", "_law_like", "_law_few", "_law_system", "_law_made", "_law_once", "_law_quick", "_law_starts", "_law_go", "_law_along", "_law_shown", "_law_does", "_law_part_of"] : List Str) ++ (["_law_any_lost", "_law_hangs", "_law_has", "_law_allows", "_law_looks", "_law_near", "_law_pair", "_law_unknown", "_law_trace"] : List Str)
abbrev lawAt : Nat := 65
theorem i_closure : fn[0]? = some (dd "closure" s_closure) := rfl
theorem i_after : fn[1]? = some (dd "after" s_after) := rfl
theorem i_states_after : fn[2]? = some (dd "states_after" s_states_after) := rfl
theorem i_is_trace : fn[3]? = some (dd "is_trace" s_is_trace) := rfl
theorem i_stable_offers : fn[4]? = some (dd "stable_offers" s_stable_offers) := rfl
theorem i_offers_among : fn[5]? = some (dd "offers_among" s_offers_among) := rfl
theorem i_diverging : fn[6]? = some (dd "diverging" s_diverging) := rfl
theorem i_diverging_among : fn[7]? = some (dd "diverging_among" s_diverging_among) := rfl
theorem i_is_divergence : fn[8]? = some (dd "is_divergence" s_is_divergence) := rfl
theorem i_is_behaviour : fn[9]? = some (dd "is_behaviour" s_is_behaviour) := rfl
theorem i_is_model : fn[10]? = some (dd "is_model" s_is_model) := rfl
theorem i_check_model : fn[11]? = some (dd "check_model" s_check_model) := rfl
theorem i_looks_at : fn[12]? = some (dd "looks_at" s_looks_at) := rfl
theorem i_has_part : fn[13]? = some (dd "has_part" s_has_part) := rfl
theorem i_is_within : fn[14]? = some (dd "is_within" s_is_within) := rfl
theorem i_allows : fn[15]? = some (dd "allows" s_allows) := rfl
theorem i_may_hang : fn[16]? = some (dd "may_hang" s_may_hang) := rfl
theorem i_is_difference : fn[17]? = some (dd "is_difference" s_is_difference) := rfl
theorem i_is_event : fn[18]? = some (dd "is_event" s_is_event) := rfl
theorem i_has_form : fn[19]? = some (dd "has_form" s_has_form) := rfl
theorem i_is_action : fn[20]? = some (dd "is_action" s_is_action) := rfl
theorem i_check_edges : fn[21]? = some (dd "check_edges" s_check_edges) := rfl
theorem i__law_cell : fn[22]? = some (dd "_law_cell" s__law_cell) := rfl
theorem i__law_draws : fn[23]? = some (dd "_law_draws" s__law_draws) := rfl
theorem i__law_like : fn[24]? = some (dd "_law_like" s__law_like) := rfl
theorem i__law_few : fn[25]? = some (dd "_law_few" s__law_few) := rfl
theorem i__law_system : fn[26]? = some (dd "_law_system" s__law_system) := rfl
theorem i__law_made : fn[27]? = some (dd "_law_made" s__law_made) := rfl
theorem i__law_once : fn[28]? = some (dd "_law_once" s__law_once) := rfl
theorem i__law_quick : fn[29]? = some (dd "_law_quick" s__law_quick) := rfl
theorem i__law_starts : fn[30]? = some (dd "_law_starts" s__law_starts) := rfl
theorem i__law_go : fn[31]? = some (dd "_law_go" s__law_go) := rfl
theorem i__law_along : fn[32]? = some (dd "_law_along" s__law_along) := rfl
theorem i__law_shown : fn[33]? = some (dd "_law_shown" s__law_shown) := rfl
theorem i__law_does : fn[34]? = some (dd "_law_does" s__law_does) := rfl
theorem i__law_part_of : fn[35]? = some (dd "_law_part_of" s__law_part_of) := rfl
theorem i__law_any_lost : fn[36]? = some (dd "_law_any_lost" s__law_any_lost) := rfl
theorem i__law_hangs : fn[37]? = some (dd "_law_hangs" s__law_hangs) := rfl
theorem i__law_has : fn[38]? = some (dd "_law_has" s__law_has) := rfl
theorem i__law_allows : fn[39]? = some (dd "_law_allows" s__law_allows) := rfl
theorem i__law_looks : fn[40]? = some (dd "_law_looks" s__law_looks) := rfl
theorem i__law_near : fn[41]? = some (dd "_law_near" s__law_near) := rfl
theorem i__law_pair : fn[42]? = some (dd "_law_pair" s__law_pair) := rfl
theorem i__law_unknown : fn[43]? = some (dd "_law_unknown" s__law_unknown) := rfl
theorem i__law_trace : fn[44]? = some (dd "_law_trace" s__law_trace) := rfl
theorem i_law : fn[45]? = some (dd "law" s_law) := rfl
theorem i_System___init__ : fn[46]? = some (dm "System" "__init__" "System.__init__" s_System___init__) := rfl
theorem i_System_targets : fn[47]? = some (dm "System" "targets" "System.targets" s_System_targets) := rfl
theorem i_System_offers : fn[48]? = some (dm "System" "offers" "System.offers" s_System_offers) := rfl
theorem i_System_is_stable : fn[49]? = some (dm "System" "is_stable" "System.is_stable" s_System_is_stable) := rfl
theorem i_System__check_state : fn[50]? = some (dm "System" "_check_state" "System._check_state" s_System__check_state) := rfl
theorem i_UnknownModel___init__ : fn[51]? = some (dm "UnknownModel" "__init__" "UnknownModel.__init__" s_UnknownModel___init__) := rfl
theorem j_closure : fa[0]? = some (.glo "closure") := rfl
theorem j_after : fa[1]? = some (.glo "after") := rfl
theorem j_states_after : fa[2]? = some (.glo "states_after") := rfl
theorem j_is_trace : fa[3]? = some (.glo "is_trace") := rfl
theorem j_stable_offers : fa[4]? = some (.glo "stable_offers") := rfl
theorem j_offers_among : fa[5]? = some (.glo "offers_among") := rfl
theorem j_diverging : fa[6]? = some (.glo "diverging") := rfl
theorem j_diverging_among : fa[7]? = some (.glo "diverging_among") := rfl
theorem j_is_divergence : fa[8]? = some (.glo "is_divergence") := rfl
theorem j_is_behaviour : fa[9]? = some (.glo "is_behaviour") := rfl
theorem j_is_model : fa[10]? = some (.glo "is_model") := rfl
theorem j_check_model : fa[11]? = some (.glo "check_model") := rfl
theorem j_looks_at : fa[12]? = some (.glo "looks_at") := rfl
theorem j_has_part : fa[13]? = some (.glo "has_part") := rfl
theorem j_is_within : fa[14]? = some (.glo "is_within") := rfl
theorem j_allows : fa[15]? = some (.glo "allows") := rfl
theorem j_may_hang : fa[16]? = some (.glo "may_hang") := rfl
theorem j_is_difference : fa[17]? = some (.glo "is_difference") := rfl
theorem j_is_event : fa[18]? = some (.glo "is_event") := rfl
theorem j_has_form : fa[19]? = some (.glo "has_form") := rfl
theorem j_is_action : fa[20]? = some (.glo "is_action") := rfl
theorem j_check_edges : fa[21]? = some (.glo "check_edges") := rfl
theorem j__law_cell : fa[22]? = some (.glo "_law_cell") := rfl
theorem j__law_draws : fa[23]? = some (.glo "_law_draws") := rfl
theorem j__law_like : fa[24]? = some (.glo "_law_like") := rfl
theorem j__law_few : fa[25]? = some (.glo "_law_few") := rfl
theorem j__law_system : fa[26]? = some (.glo "_law_system") := rfl
theorem j__law_made : fa[27]? = some (.glo "_law_made") := rfl
theorem j__law_once : fa[28]? = some (.glo "_law_once") := rfl
theorem j__law_quick : fa[29]? = some (.glo "_law_quick") := rfl
theorem j__law_starts : fa[30]? = some (.glo "_law_starts") := rfl
theorem j__law_go : fa[31]? = some (.glo "_law_go") := rfl
theorem j__law_along : fa[32]? = some (.glo "_law_along") := rfl
theorem j__law_shown : fa[33]? = some (.glo "_law_shown") := rfl
theorem j__law_does : fa[34]? = some (.glo "_law_does") := rfl
theorem j__law_part_of : fa[35]? = some (.glo "_law_part_of") := rfl
theorem j__law_any_lost : fa[36]? = some (.glo "_law_any_lost") := rfl
theorem j__law_hangs : fa[37]? = some (.glo "_law_hangs") := rfl
theorem j__law_has : fa[38]? = some (.glo "_law_has") := rfl
theorem j__law_allows : fa[39]? = some (.glo "_law_allows") := rfl
theorem j__law_looks : fa[40]? = some (.glo "_law_looks") := rfl
theorem j__law_near : fa[41]? = some (.glo "_law_near") := rfl
theorem j__law_pair : fa[42]? = some (.glo "_law_pair") := rfl
theorem j__law_unknown : fa[43]? = some (.glo "_law_unknown") := rfl
theorem j__law_trace : fa[44]? = some (.glo "_law_trace") := rfl
theorem j_law : fa[45]? = some (.glo "law") := rfl
theorem j_len : fa[46]? = some (.free "len") := rfl
theorem j_range : fa[47]? = some (.free "range") := rfl
theorem j_abs : fa[48]? = some (.free "abs") := rfl
theorem j_int : fa[49]? = some (.free "int") := rfl
theorem j_isinstance : fa[50]? = some (.free "isinstance") := rfl
theorem j_bool : fa[51]? = some (.free "bool") := rfl
theorem j_str : fa[52]? = some (.free "str") := rfl
theorem j_list : fa[53]? = some (.free "list") := rfl
theorem j_tuple : fa[54]? = some (.free "tuple") := rfl
theorem j_set : fa[55]? = some (.free "set") := rfl
theorem j_sorted : fa[56]? = some (.free "sorted") := rfl
theorem j_all : fa[57]? = some (.free "all") := rfl
theorem j_any : fa[58]? = some (.free "any") := rfl
theorem j_KINDS_IN_MODELS : fa[59]? = some (.glo "KINDS_IN_MODELS") := rfl
theorem j_LOWER : fa[60]? = some (.str "LOWER" "abcdefghijklmnopqrstuvwxyz") := rfl
theorem j_DIGITS : fa[61]? = some (.str "DIGITS" "0123456789") := rfl
theorem j_LONGEST_NAME : fa[62]? = some (.int "LONGEST_NAME" 12) := rfl
theorem j_NO_EVENTS : fa[63]? = some (.glo "NO_EVENTS") := rfl
theorem j_MOST_STATES : fa[64]? = some (.int "MOST_STATES" 20000) := rfl
theorem j_System : fa[65]? = some (.glo "System") := rfl
theorem j_cls_System : fa[66]? = some (.cls "System") := rfl
theorem j_noat_System_count : fa[67]? = some (.noat "System" "count") := rfl
theorem j_noat_System_edges : fa[68]? = some (.noat "System" "edges") := rfl
theorem j_noat_System__leaving : fa[69]? = some (.noat "System" "_leaving") := rfl
theorem j_noat_System__targets : fa[70]? = some (.noat "System" "_targets") := rfl
theorem j_mkr_System : fa[71]? = some (.mkr "System") := rfl
theorem j_meth_System_targets : fa[72]? = some (.meth "System" "targets") := rfl
theorem j_meth_System_offers : fa[73]? = some (.meth "System" "offers") := rfl
theorem j_meth_System_is_stable : fa[74]? = some (.meth "System" "is_stable") := rfl
theorem j_meth_System__check_state : fa[75]? = some (.meth "System" "_check_state") := rfl
theorem j_BadArgument : fa[76]? = some (.glo "BadArgument") := rfl
theorem j_exc_BadArgument : fa[77]? = some (.exc "BadArgument") := rfl
theorem j_exm_BadArgument : fa[78]? = some (.exm "BadArgument" "BadArgument" true) := rfl
theorem j_BadSystem : fa[79]? = some (.glo "BadSystem") := rfl
theorem j_exc_BadSystem : fa[80]? = some (.exc "BadSystem") := rfl
theorem j_exm_BadSystem : fa[81]? = some (.exm "BadSystem" "BadSystem" true) := rfl
theorem j_UnknownModel : fa[82]? = some (.glo "UnknownModel") := rfl
theorem j_exm_UnknownModel : fa[83]? = some (.exm "UnknownModel" "UnknownModel" true) := rfl
theorem j_ParleyError : fa[84]? = some (.glo "ParleyError") := rfl
def ts : List He.Tab := [((fun K => He.ga K "KINDS_IN_MODELS"), MODS)]
def tf : List He.Defn := [("_law_near", none)]
def exk (K : PySem.W.Frag) : Bool := MODS.all fun m => VHK.tupAt K (VHK.atKey K (He.ga K "KINDS_IN_MODELS") m) ((kinds m).map V.str)
def ex (K : PySem.W.Frag) : Bool := He.tupB K "NO_EVENTS" (noEv.map He.Dv.str) && (He.valsB K (He.ga K "KINDS_IN_MODELS") (MODS.map fun m => (m, He.Dv.adr fun K => VHK.atKey K (He.ga K "KINDS_IN_MODELS") m)) && (exk K &&
  (VF.oexB K (He.ga K "UnknownModel") "model" (He.fAd K ("UnknownModel", some "__init__")) && VF.baseB K (He.ga K "ParleyError"))))
abbrev RR : PySem.W.OpenRow := PySem.W.OpenLaw.row PySem.Challenge.rw_parley_k20_what_is_allowed
abbrev hk : PySem.W.Hook := VHK.hookQ 5 fa fn ts tf ex
def ob (s : PySem.W.SharedT) : He.AlX := VHK.obsQ 5 fa fn ts tf ex (HandSHeadRun.getT s)
theorem ob_eq (s : PySem.W.SharedT) : ob s = hk.obs s.abs := VHK.obsQ_eq (HandSHeadRun.getT_eq s)
theorem runF (w : World) : HandSHeadRun.RunEq RR (PySem.W.view RR.prog [lawAt]) hk ob 4000 loose (w.withFollow "special-get-raises" false) := by
  intro os
  kernel_rfl
theorem runT (w : World) : HandSHeadRun.RunEq RR (PySem.W.view RR.prog [lawAt]) hk ob 4000 loose (w.withFollow "special-get-raises" true) := by
  intro os
  kernel_rfl
theorem run (w : World) : HandSHeadRun.RunEq RR (PySem.W.view RR.prog [lawAt]) hk ob 4000 loose w := PySem.W.byRow2 "special-get-raises" runF runT w
section
variable {P : Program} {w : World} {K : PySem.W.Frag} {h : Heap} {mg : Str → Option Value} {f : Addr}
theorem df_of (X : K.In h) (G : h.Ns mainGlobals mg) (c : He.SaysD fa fn K) {x : Str} {st : Stmt} {i j : Nat} (hi : fn[i]? = some (dd x st)) (hj : fa[j]? = some (.glo x)) : Df K mg x st := by
  obtain ⟨fd, F⟩ := c.def_ i hi
  exact ⟨He.ga K x, fd, F, He.glo_ok X G (c.fact j hj)⟩
theorem says_klist {ts : List He.Tab} (c : He.SaysT fa fn ts w K) (i : Nat) {t : He.Tab} (h : ts[i]? = some t) : VL.KList K w (t.1 K) t.2 := by
  have e := congrArg (fun z : He.AlT => z.2[i]?) c
  have e1 : (ts.map fun t => He.dicW K (t.1 K))[i]? = (ts.map fun t => some (He.keysIn w.params t.2))[i]? := e
  rw [List.getElem?_map, List.getElem?_map, h] at e1
  exact VL.klist_of (Option.some.inj e1)
theorem no_events (c : He.SaysX fa fn ts tf ex w h K) : ∀ H, SqT K H (He.ga K "NO_EVENTS") (noEv.map V.str) := fun H =>
  He.tupB_ok (Bool.and_eq_true_iff.mp c.more).1 H
theorem more_of (c : He.SaysX fa fn ts tf ex w h K) : (∀ md ∈ MODS, ∃ a, KDct K w (He.ga K "KINDS_IN_MODELS") md (.ref a) ∧ ∀ H, SqT K H a ((kinds md).map V.str)) ∧ VF.oexB K (He.ga K "UnknownModel") "model" (He.fAd K ("UnknownModel", some "__init__")) = true ∧ VF.baseB K (He.ga K "ParleyError") = true := by
  obtain ⟨_, c1⟩ := Bool.and_eq_true_iff.mp c.more
  obtain ⟨c2, c1⟩ := Bool.and_eq_true_iff.mp c1
  obtain ⟨c3, c1⟩ := Bool.and_eq_true_iff.mp c1
  obtain ⟨c4, c5⟩ := Bool.and_eq_true_iff.mp c1
  refine ⟨fun md hm => ⟨VHK.atKey K (He.ga K "KINDS_IN_MODELS") md, ?_, fun H => VHK.tupAt_ok (List.all_eq_true.mp c3 md hm) H⟩, c4, c5⟩
  obtain ⟨es, n, kd⟩ := c.t.tab 0
  obtain ⟨u, e, r⟩ := He.valsB_ok c2 (q := (md, He.Dv.adr fun K => VHK.atKey K (He.ga K "KINDS_IN_MODELS") md)) (List.mem_map.mpr ⟨md, hm, rfl⟩)
  exact ⟨es, n, u, kd.at_, kd.lit, e, r⟩
theorem own_of (X : K.In h) (G : h.Ns mainGlobals mg) (c : He.SaysD fa fn K) {x : Str} {j1 j2 j3 : Nat} (h1 : fa[j1]? = some (.glo x)) (h2 : fa[j2]? = some (.exc x)) (h3 : fa[j3]? = some (.exm x x true)) : VE.Own K mg x (He.ga K x) := by
  obtain ⟨a, b, d, e⟩ := He.exc_ok (c.fact _ h2)
  exact ⟨He.glo_ok X G (c.fact _ h1), a, b, d, e, He.exm_ok (c.fact _ h3)⟩
theorem facts (X : K.In h) (G : h.Ns mainGlobals mg) (hfa : mg ("law" : Str) = some (.ref f)) (c : He.SaysX fa fn ts tf ex w h K) :
    LamX.LawAtS PySem.Challenge.rw_parley_k20_what_is_allowed w K CX0 14 63 "script" mg f h := by
  have cd := c.t.d
  obtain ⟨fd, F⟩ := cd.def_ _ i_law
  have e := hfa.symm.trans (He.glo_ok X G (cd.fact _ j_law))
  cases e
  obtain ⟨fh, Fh⟩ := cd.def_ _ i__law_near
  obtain ⟨oc, od, dV, kV, doc, pm, an, cdv, ct, osl, efh, lk, hcd2, _, _⟩ := Fh.ex
  obtain ⟨c0, ec0⟩ := He.codeIn_ref hcd2
  have hcode : fh.code = .ref c0 := by rw [efh]; exact ec0
  have lk2 : K.lookup (He.fAd K ("_law_near", none)) = some ⟨oc, od, .func fh, osl⟩ := lk
  have eco : He.codeOf K ("_law_near", none) = c0 := He.codeOf_eq lk2 hcode
  have mT : (("_law_near", none) : He.Defn) ∈ tf := List.mem_cons_self
  refine ⟨fd, [He.cT K ("_law_near", none)], spLaw K [((He.cT K ("_law_near", none)).2, qn)], fun p hp => ?_, fun p hp => ?_, fun p hp => ?_, ?_, fun H a ns hl _ hT hS => ?_, fun base kin hns hTB => ?_⟩
  · rw [List.mem_singleton.mp hp]; exact c.empty _ mT
  · rw [List.mem_singleton.mp hp]; exact c.out _ mT
  · rw [List.mem_singleton.mp hp]; exact PySem.W.codeHd_of_K X (c.hd _ mT)
  · have b := FunD.bindsA (ps := ["script"]) F fun _ _ _ _ _ _ us hl => match us, hl with | [_], _ => rfl
    exact fun s v => b s [v] rfl
  · refine ⟨a, ns, rfl, hS, fun p hp => ?_, fun _ => rfl⟩
    rw [List.mem_singleton.mp hp]
    exact TabS.nil (hT _ List.mem_cons_self)
  · have z : ∀ {x : Str} {j : Nat}, fa[j]? = some (.free x) → mg x = none := fun hj => He.free_ok X G (cd.fact _ hj)
    have gs : ∀ {x y : Str} {j : Nat}, fa[j]? = some (.str x y) → ∃ u, mg x = some u ∧ RelV (.str y) u := fun hj => by
      obtain ⟨t, e⟩ := He.str_ok X G (cd.fact _ hj)
      exact ⟨_, e, t, rfl⟩
    have gi : ∀ {x : Str} {y : Int} {j : Nat}, fa[j]? = some (.int x y) → ∃ u, mg x = some u ∧ RelV (.int y) u := fun hj => by
      obtain ⟨t, e⟩ := He.int_ok X G (cd.fact _ hj)
      exact ⟨_, e, t, rfl⟩
    have gg : ∀ {x : Str} {j : Nat}, fa[j]? = some (.glo x) → ∃ u, mg x = some u ∧ RelV (.ref (He.ga K x)) u := fun hj => ⟨_, He.glo_ok X G (cd.fact _ hj), rfl⟩
    have d : ∀ {x : Str} {st : Stmt} {i j : Nat}, fn[i]? = some (dd x st) → fa[j]? = some (.glo x) → Df K mg x st := fun hi hj => df_of X G cd hi hj
    have k_cell := c_cell (P := (PySem.Challenge.rw_parley_k20_what_is_allowed).prog) (w := w) (base := base) (d i__law_cell j__law_cell) (z j_len) (z j_abs) (z j_int)
    have k_draws := c_draws (P := (PySem.Challenge.rw_parley_k20_what_is_allowed).prog) (w := w) (base := base) (d i__law_draws j__law_draws) (z j_range) (z j_int)
    have k_like := c_like (P := (PySem.Challenge.rw_parley_k20_what_is_allowed).prog) (w := w) (base := base) (d i__law_like j__law_like) (z j_isinstance) (z j_bool) (z j_str) (z j_int) (z j_list) (z j_tuple) (z j_len) (z j_range) (z j_all) 4
    have k_likeS := c_likeS (P := (PySem.Challenge.rw_parley_k20_what_is_allowed).prog) (w := w) (base := base) (d i__law_like j__law_like) (z j_isinstance) (z j_bool) (z j_str)
    have k_form := c_form (P := (PySem.Challenge.rw_parley_k20_what_is_allowed).prog) (w := w) (base := base) (d i_has_form j_has_form) (z j_len) (z j_all) (gi j_LONGEST_NAME)
    have k_event := c_event (d i_is_event j_is_event) (gs j_LOWER) (gs j_DIGITS) (gg j_NO_EVENTS) (no_events c) k_form
    have k_action := c_action (d i_is_action j_is_action) k_event
    have k_system := c_system5 (d i__law_system j__law_system) (z j_range) k_draws
    have e_system := own_of X G cd j_BadSystem j_exc_BadSystem j_exm_BadSystem
    have e_argument := own_of X G cd j_BadArgument j_exc_BadArgument j_exm_BadArgument
    have k_check := c_checkX (d i_check_edges j_check_edges) (z j_sorted) (z j_set) (gi j_MOST_STATES) e_system k_action
    have TX : SysTxt K (He.ga K "System") := ⟨He.cls_ok (cd.fact _ j_cls_System), He.noat_ok (cd.fact _ j_noat_System_count), He.noat_ok (cd.fact _ j_noat_System_edges), He.noat_ok (cd.fact _ j_noat_System__leaving), He.noat_ok (cd.fact _ j_noat_System__targets)⟩
    obtain ⟨fi, Fi⟩ := cd.def_ _ i_System___init__
    obtain ⟨ft, Ft⟩ := cd.def_ _ i_System_targets
    obtain ⟨fs, Fs⟩ := cd.def_ _ i_System__check_state
    obtain ⟨fo, Fo⟩ := cd.def_ _ i_System_offers
    obtain ⟨fst, Fst⟩ := cd.def_ _ i_System_is_stable
    have o_init := c_initX (P := (PySem.Challenge.rw_parley_k20_what_is_allowed).prog) (w := w) (mg := mg) (base := base) TX Fi (z j_range) (z j_sorted) (z j_set) (z j_tuple) k_check
    have b_init : L2.Binds K fi ["self", "count", "edges"] [] := Fi.bindsN fun _ _ _ _ _ _ us hl => match us, hl with | [_, _, _], _ => rfl
    have k_mk : VE.MakX (PySem.Challenge.rw_parley_k20_what_is_allowed).prog w K mg base 5 "System" (He.ga K "System") (spInitX K (He.ga K "System") (He.ga K "BadSystem")) := ⟨_, fi, _, He.mkr_ok (cd.fact _ j_mkr_System), o_init, He.glo_ok X G (cd.fact _ j_System), b_init⟩
    have k_state := c_stateX (P := (PySem.Challenge.rw_parley_k20_what_is_allowed).prog) (w := w) (mg := mg) (base := base) TX (He.meth_ok (cd.fact _ j_meth_System__check_state)) Fs e_argument
    have k_targets := c_targetsX TX (He.meth_ok (cd.fact _ j_meth_System_targets)) Ft (z j_list) k_state
    have k_closure := c_closure (d i_closure j_closure) (z j_list) (z j_set) (z j_sorted) (z j_tuple) (VX.metCalm k_targets)
    have k_after := c_after TX (d i_after j_after) k_closure (VX.metCalm k_targets)
    have k_states := c_states (d i_states_after j_states_after) k_closure k_after
    have k_among := c_among (d i_diverging_among j_diverging_among) (z j_tuple) (VX.metCalm k_targets)
    have k_isdiv := c_isdiv (d i_is_divergence j_is_divergence) (z j_len) k_states k_among
    have k_offers := c_offersX TX (He.meth_ok (cd.fact _ j_meth_System_offers)) Fo (z j_tuple) (z j_sorted) (z j_set) k_state
    have k_stable := c_stableX TX (He.meth_ok (cd.fact _ j_meth_System_is_stable)) Fst k_state
    have k_amongO := c_amongO (d i_offers_among j_offers_among) (z j_set) (z j_sorted) (VX.metCalm k_offers) (VX.metCalm k_stable)
    have k_sto := c_sto (d i_stable_offers j_stable_offers) k_states k_amongO
    have k_ist := c_istrace (d i_is_trace j_is_trace) (z j_len) k_states
    have k_beh := c_beh (d i_is_behaviour j_is_behaviour) k_ist k_isdiv k_sto
    have k_dvg := c_diverging TX (d i_diverging j_diverging) (z j_list) (z j_range) k_among
    have k_hang := c_hang (d i_may_hang j_may_hang) (z j_any) k_dvg k_closure k_after
    have kM : VL.KList K w (He.ga K "KINDS_IN_MODELS") MODS := says_klist c.t 0 rfl
    obtain ⟨kK, hx1, hx2⟩ := more_of c
    have k_model := c_model (P := (PySem.Challenge.rw_parley_k20_what_is_allowed).prog) (w := w) (base := base) (d i_is_model j_is_model) (gg j_KINDS_IN_MODELS) kM
    obtain ⟨fx, Fx⟩ := cd.def_ _ i_UnknownModel___init__
    obtain ⟨x1, x2, x3, x4, x5⟩ := VF.oexB_ok hx1
    have bx := VF.baseB_ok (He.glo_ok X G (cd.fact _ j_ParleyError)) hx2
    have e_unknown : VY.OwnI K mg "UnknownModel" (He.ga K "UnknownModel") := ⟨He.glo_ok X G (cd.fact _ j_UnknownModel), He.exm_ok (cd.fact _ j_exm_UnknownModel)⟩
    have o_unknown := c_unknown (P := (PySem.Challenge.rw_parley_k20_what_is_allowed).prog) (w := w) (base := base) (mg := mg) x1 x3 Fx bx
    have of_unknown : VY.OwnF (PySem.Challenge.rw_parley_k20_what_is_allowed).prog w K mg base "UnknownModel" (He.ga K "UnknownModel") "model" := ⟨e_unknown, x1, x2, x3, _, fx, _, x4, x5, o_unknown, Fx.bindsN fun _ _ _ _ _ _ us hl => match us, hl with | [_, _], _ => rfl⟩
    have k_chk := c_check (d i_check_model j_check_model) of_unknown k_model
    have k_lat := c_lat (P := (PySem.Challenge.rw_parley_k20_what_is_allowed).prog) (w := w) (base := base) (d i_looks_at j_looks_at) (gg j_KINDS_IN_MODELS) kK
    have k_within := c_within (P := (PySem.Challenge.rw_parley_k20_what_is_allowed).prog) (w := w) (base := base) (d i_is_within j_is_within)
    have k_hasp := c_hasp (d i_has_part j_has_part) k_within
    have k_allows := c_allows (d i_allows j_allows) k_chk k_hang k_ist k_sto k_hasp
    have k_diff := c_diff (d i_is_difference j_is_difference) k_chk k_lat k_beh k_allows
    have k_few := c_few (P := (PySem.Challenge.rw_parley_k20_what_is_allowed).prog) (w := w) (base := base) (d i__law_few j__law_few) (z j_len) (z j_range) (z j_sorted) (z j_tuple)
    have k_onceI := c_onceI (P := (PySem.Challenge.rw_parley_k20_what_is_allowed).prog) (w := w) (base := base) (d i__law_once j__law_once)
    have k_onceR := c_onceR (P := (PySem.Challenge.rw_parley_k20_what_is_allowed).prog) (w := w) (base := base) (d i__law_once j__law_once)
    have k_quick := c_quick (d i__law_quick j__law_quick) (z j_range) (z j_list) (z j_len) (z j_any) (z j_sorted) (z j_tuple) k_onceI
    have k_qst := c_qst (P := (PySem.Challenge.rw_parley_k20_what_is_allowed).prog) (w := w) (base := base) (d i__law_starts j__law_starts) (z j_sorted) (z j_tuple)
    have k_qgo := c_qgo (P := (PySem.Challenge.rw_parley_k20_what_is_allowed).prog) (w := w) (base := base) (d i__law_go j__law_go) (z j_sorted) (z j_tuple)
    have k_qal := c_qal (d i__law_along j__law_along) k_qst k_qgo
    have k_qany := c_qany (P := (PySem.Challenge.rw_parley_k20_what_is_allowed).prog) (w := w) (base := base) (d i__law_any_lost j__law_any_lost) (z j_any)
    have k_qha := c_qha (d i__law_hangs j__law_hangs) k_qst k_qgo k_qany
    have k_qsh := c_qsh (d i__law_shown j__law_shown) (z j_sorted) (z j_len) k_onceR
    have k_qdo := c_qdo (P := (PySem.Challenge.rw_parley_k20_what_is_allowed).prog) (w := w) (base := base) (d i__law_does j__law_does) (z j_sorted)
    have k_part := c_part (P := (PySem.Challenge.rw_parley_k20_what_is_allowed).prog) (w := w) (base := base) (d i__law_part_of j__law_part_of) (z j_all)
    have k_qhas := c_qhas (d i__law_has j__law_has) (z j_len) k_qal k_qany k_qsh
    have k_qall := c_qall (d i__law_allows j__law_allows) (z j_any) k_qha k_qhas k_qal k_qsh k_part
    have k_looks := c_looks (P := (PySem.Challenge.rw_parley_k20_what_is_allowed).prog) (w := w) (base := base) (d i__law_looks j__law_looks)
    have tb : TabB base mg c0 (He.cT K ("_law_near", none)).2 := by
      have t := hTB _ List.mem_cons_self
      have e : (He.cT K ("_law_near", none)).1 = c0 := eco
      rw [e] at t
      exact t
    have k_near := c_near (T := [((He.cT K ("_law_near", none)).2, qn)]) Fh (He.glo_ok X G (cd.fact _ j__law_near)) hcode tb List.mem_cons_self (fun p hp _ => by rw [List.mem_singleton.mp hp]) (z j_len) (z j_list) (z j_range) (z j_sorted) k_draws
    have k_pair := c_pair (d i__law_pair j__law_pair) k_draws k_system k_near
    have k_made := c_madeU (d i__law_made j__law_made) (z j_list) (VX.makCalm k_mk)
    have k_trc := c_trc (d i__law_trace j__law_trace) (z j_range) (z j_len) k_qst k_qgo k_qdo
    have k_unk := c_unk (d i__law_unknown j__law_unknown) e_unknown x2 x3 k_allows k_diff k_likeS
    exact f_law (CU := He.ga K "UnknownModel") F (z j_range) k_cell k_draws k_like k_few k_pair k_made k_quick k_trc k_qall k_qhas k_looks (VX.calCalm k_allows) (VX.calCalm k_diff) k_unk
end
end LW
open PySem PySem.W PySem.Calls PyProof.Rows
theorem PySem.Challenge.cw_parley_k20_what_is_allowed_holds : PySem.Challenge.rw_parley_k20_what_is_allowed.Holds := by
  w_on; o_law
  refine HandSHeadRun.head_any (r := OpenLaw.row PySem.Challenge.rw_parley_k20_what_is_allowed) (q := view (OpenLaw.row PySem.Challenge.rw_parley_k20_what_is_allowed).prog [LW.lawAt]) (H := LW.hk) (ob := LW.ob) (M := 4000) (loose := LW.loose) (d := HandSHeadRun.topDef (OpenLaw.row PySem.Challenge.rw_parley_k20_what_is_allowed).prog LW.lawAt) (kwd := []) LW.ob_eq
    (by kernel_rfl) (fun s => by kernel_rfl) LW.run (by kernel_rfl) (by kernel_rfl) (by kernel_rfl) (by rfl) (by first | assumption | decide +kernel) (by decide +kernel) ⟨rfl, rfl, rfl, rfl, rfl, by decide +kernel⟩ ?hw ?hc
  case hw => w_witness2
  case hc =>
    refine LamX.walk_ofTsE (l := PySem.Challenge.rw_parley_k20_what_is_allowed) (n := 63) (k := 14) (x := "script") (CX := fun _ => L2.CX0) rfl (by decide) (by kernel_rfl) ⟨rfl, by decide, by decide⟩ ?F (fun _ _ _ _ _ z => z)
    intro w mg fa h Y G hmg0
    obtain ⟨K, KX, c⟩ := Y
    have hmg : mg ("law" : PySem.Str) = some (.ref fa) := by
      have e : (HandSHeadRun.topDef (OpenLaw.row PySem.Challenge.rw_parley_k20_what_is_allowed).prog LW.lawAt).name = ("law" : PySem.Str) := by kernel_rfl
      rw [← e]
      exact hmg0
    exact ⟨K, KX, LW.facts KX G hmg c⟩

