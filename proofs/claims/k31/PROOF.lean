import PyProof.Rows.All
import Wide.All
import OpenK.AllK
import Wide.FinOn
import KE.KLam
import HandS.ForMost
import HandS.Codes
import HandS.Lambda
import HandS.Nested
import HandS.NestedK
import HandS.CallLocal
import KE.DatumOrd
import HandS.Rev
import HandS.SortInts
import KE.SortData
import HandS.SortKw
import KE.KDictLaws
import HandS.SetKeys
import HandS.Wide
import HandS.WideMore
import HandS.Conv
import HandS.IsInst
import HandS.WrittenGet
import HandS.HeadHook4
import HandS.HeadWalk
import HandS.Defaults
import HandS.TupSets
import KE.KeyNested
import HandS.OwnEq
import HandS.Deep
import HandS.DictTup
import PyProof.DictMoreH
import PySem.Challenge.RW_parley_k31_pictures_of_normal_forms
import HandS.Walk
import HandS.ExcOwn
import HandS.TryOnly
import HandS.HeadHook1
import HandS.Style
import HandS.Strs
import KE.DataCmp
import HandS.DictComp
import HandS.TupAny
import KE.GoesEnumKw
import HandS.Text
import HandS.More
import HandS.HeadHook3
import KE.KDictWalk
import PyProof.AutoSeq1
import KE.SortKeyHeap
import HandS.Exc
import PyProof.TupleOfSeq
import HandS.ExcInit
import HandS.ExcField
import HandS.ClsMeth
import HandS.FStr
import HandS.TryMany
import HandS.Call
import HandS.Flow
import KE.KDictKeyed
import HandS.TupLen
import HandS.TupLe
import KE.KDictDisplayH
import HandS.ExcIs
import HandS.Head0
import HandS.Head1
import HandS.Head2
import HandS.HeadEnd
import HandS.HeadHook2
set_option Elab.async false
set_option linter.all false
set_option maxRecDepth 100000
set_option maxHeartbeats 4000000
namespace VA
open PySem PySem.Spec PyProof.Rows L2 LamX NdefX
/-! lambdas as made functions: F's statements are not used, b is the expression -/
def LamO (f : Addr) (F : NF) (b : Expr) : HO :=
  .ext fun h => ∃ (od : Option Addr) (sl : Array (Option Value)) (pm ctv : Value),
    h.get? f = some (⟨.type "function", od, .func (PySem.W.kla_fn F.name F.qual F.params b F.scope F.cl pm (.ref F.c) ctv), sl⟩ : Obj)
theorem lamO_ne {f : Addr} {F : NF} {b : Expr} (ps : Array Value) : LamO f F b ≠ .tbl ps := by
  intro z; unfold LamO at z; cases z
theorem lamO_at {P : Program} {w : World} {H : Hp} {h : Heap} {f : Addr} {F : NF} {b : Expr}
    (hok : HOk P w H h) (e : H f = some (LamO f F b)) :
    ∃ (od : Option Addr) (sl : Array (Option Value)) (pm ctv : Value),
      h.get? f = some (⟨.type "function", od, .func (PySem.W.kla_fn F.name F.qual F.params b F.scope F.cl pm (.ref F.c) ctv), sl⟩ : Obj) := by
  have z := hok f _ e
  exact z.1
abbrev lamF (q : Str) (params : Arguments) (scope : Scope) (cl : List (Str × Addr)) (c : Addr) : NF :=
  ⟨"<lambda>", q, params, [], scope, cl, c⟩
section
variable {X : Cx} {pins : List (Addr × Obj)} {σ : L2.St} {H : Hp} {s : Shared}
theorem inv_lam {F : NF} {b : Expr} {o : Obj} {t' : Nat} {pm ctv : Value} (I : Inv X pins σ H s)
    (ho : o = { cls := .type "function", data := .func (PySem.W.kla_fn F.name F.qual F.params b F.scope F.cl pm (.ref F.c) ctv) }) :
    Inv X pins σ (upd H s.heap.objs.size (LamO s.heap.objs.size F b)) { s with heap := s.heap.push o, toks := t' } := by
  subst ho
  have e : (s.heap.push ({ cls := .type "function", data := .func (PySem.W.kla_fn F.name F.qual F.params b F.scope F.cl pm (.ref F.c) ctv) } : Obj)).get? s.heap.objs.size
      = some ({ cls := .type "function", data := .func (PySem.W.kla_fn F.name F.qual F.params b F.scope F.cl pm (.ref F.c) ctv) } : Obj) :=
    Heap.get?_push_size _ rfl
  refine I.laid (a := s.heap.objs.size) (fun b u q => Heap.get?_push_of_some _ q) (Nat.le_refl _) ⟨⟨_, _, pm, ctv, e⟩, ⟨_, e⟩, ?_⟩
  rintro h1 h2 ⟨od, sl, p, t, z⟩ st
  exact ⟨od, sl, p, t, st _ z⟩
theorem lam_mk {T : List (Addr × Str)} {c P : Addr} {params : Arguments} {body : Expr} {scope : Scope} {pos : Pos}
    {E : Value → Shared → Prop} {Q : Value → Shared → Prop} (I : Inv X pins σ H s) (TB : TabB X.base X.mg c P)
    (hcode : X.env.code = .ref c) (hm : (P, X.env.qual ++ "<lambda>") ∈ T)
    (hu : ∀ p ∈ T, p.1 = P → p.2 = X.env.qual ++ "<lambda>") (hT : Tabs T H)
    (hdef : defaultsOf params X.env = ([], []))
    (hfree : ∀ y ∈ scope.names, y.2 = .free → ∃ c, X.env.cells.lookup y.1 = some c)
    (h : ∀ (f c' : Addr) (H1 : Hp) (s' : Shared), Inv X pins σ H1 s' → ExtN H H1 → (∀ b, H1 b = Option.none → H b = Option.none) →
      Tabs T H1 → H f = none →
      H1 f = some (LamO f (lamF (X.env.qual ++ "<lambda>") params scope (cloFrom X.env.cells scope.names []) c') body) →
      H1 c' = some (CodeO c' (X.env.qual ++ "<lambda>")) → Q (.ref f) s') :
    wpAny (model X.prog X.w) X.A (eval (.Lambda params body scope pos) X.env) Q E s := by
  obtain ⟨ps, hP, ht, ha⟩ := hT _ hm
  refine PySem.W.kla_eval hdef ?_
  have bP : s.heap.BuiltinsAt X.mg P := TB.bm.keeps I.bk
  have hP' : s.heap.get? P = some { cls := .none, data := .fields ps } := I.hok P _ hP
  cases hc : codeAmong pos ps.toList with
  | none =>
    refine PySem.W.kla_makeFunction (mg := X.mg) (c := c) (P := P) (ps := ps) (closure_ok hfree) I.ok.glob (I.mod.glob.keeps I.bk)
      hcode (TB.code.keeps I.bk) hP' ht hc TB.gP bP ?_
    rintro c' ctv h' tk hx hge hlt ⟨c2, oc, vs, t, e2, hoc, hd, hv⟩ htb
    cases e2
    have nC : H c' = none := I.hok.fresh hge
    have I1 := inv_table (t' := tk) (q := X.env.qual ++ "<lambda>") (more := #[rawInt pos.line, rawInt pos.col, .ref c']) (h' := h')
      I hP (fun b o hb e => hx b o hb e) htb hge ⟨oc, vs, t, hoc, hd, hv⟩
    have hE : ExtN H (upd (upd H P (.tbl (ps ++ #[rawInt pos.line, rawInt pos.col, .ref c']))) c' (CodeO c' (X.env.qual ++ "<lambda>"))) := by
      intro b o e n
      have n1 : b ≠ P := fun z => n ps (Option.some.inj (e.symm.trans (by rw [z]; exact hP)))
      rw [upd_ne (ne_of_none e nC), upd_ne n1, e]
    have eL : (ps ++ #[rawInt pos.line, rawInt pos.col, .ref c']).toList = ps.toList ++ [rawInt pos.line, rawInt pos.col, .ref c'] := by simp
    have T1 : Tabs T (upd (upd H P (.tbl (ps ++ #[rawInt pos.line, rawInt pos.col, .ref c']))) c' (CodeO c' (X.env.qual ++ "<lambda>"))) := by
      intro p hp
      by_cases hb : p.1 = P
      · rw [hu p hp hb, hb]
        refine ⟨_, by rw [upd_ne (ne_of_none hP nC), upd_same], by rw [eL]; exact PySem.TriplesOk_snoc _ _ _ _ ht, fun p' cv hcv => ?_⟩
        rw [eL] at hcv
        rcases among_app _ ht hcv with z | z
        · obtain ⟨c0, e1, e2⟩ := ha p' cv z
          exact ⟨c0, e1, hE _ _ e2 codeO_ne⟩
        · exact ⟨c', z, upd_same⟩
      · obtain ⟨ps', a1, a2, a3⟩ := hT p hp
        refine ⟨ps', ?_, a2, fun p' cv hcv => ?_⟩
        · rw [upd_ne (ne_of_none a1 nC), upd_ne hb, a1]
        · obtain ⟨c0, e1, e2⟩ := a3 p' cv hcv
          exact ⟨c0, e1, hE _ _ e2 codeO_ne⟩
    have nF := I1.hok.fresh (Nat.le_refl _)
    have I2 := inv_lam (F := lamF (X.env.qual ++ "<lambda>") params scope (cloFrom X.env.cells scope.names []) c') (b := body) (t' := tk)
      (pm := (X.mg "__name__").getD .none) (ctv := ctv) I1 rfl
    refine h h'.objs.size c' _ _ I2 ?_ (fun b e => upd_none (upd_none (upd_none e))) (T1.ext fun b o e => ?_)
      (I.hok.fresh (Nat.le_trans hge (Nat.le_of_lt hlt))) upd_same ?_
    · intro b o e n
      have e1 := hE b o e n
      exact (upd_ne (ne_of_none e1 nF)).trans e1
    · exact (upd_ne (ne_of_none e nF)).trans e
    · exact (upd_ne (Nat.ne_of_lt hlt)).trans upd_same
  | some cv =>
    obtain ⟨c', e, hco⟩ := ha pos cv hc
    subst e
    refine PySem.W.kla_makeFunctionHit (mg := X.mg) (c := c) (P := P) (ps := ps) (closure_ok hfree) I.ok.glob (I.mod.glob.keeps I.bk)
      hcode (TB.code.keeps I.bk) hP' ht hc bP ?_
    intro ctv h' tk hx hsz
    have I1 : Inv X pins σ H { s with heap := h', toks := tk } := I.kept hx
    have nF : H h'.objs.size = none := I1.hok.fresh (Nat.le_refl _)
    have I2 := inv_lam (F := lamF (X.env.qual ++ "<lambda>") params scope (cloFrom X.env.cells scope.names []) c') (b := body) (t' := tk)
      (pm := (X.mg "__name__").getD .none) (ctv := ctv) I1 rfl
    refine h h'.objs.size c' _ _ I2 ?_ (fun b e => upd_none e) (hT.ext fun b o e => ?_) nF upd_same ?_
    · intro b o e n
      exact (upd_ne (ne_of_none e nF)).trans e
    · exact (upd_ne (ne_of_none e nF)).trans e
    · exact (upd_ne (ne_of_none hco nF)).trans hco
/-- the reading of «lambda ..: b» as a value -/
def tLam (T : List (Addr × Str)) (mk : Addr → NF) (b : Expr) : TE := fun σ H Q => Tabs T H ∧
  ∀ (f c' : Addr) (H1 : Hp), ExtN H H1 → (∀ b, H1 b = Option.none → H b = Option.none) → Tabs T H1 → H f = none →
    H1 f = some (LamO f (mk c') b) → H1 c' = some (CodeO c' (mk c').qual) → Q (.ref f) H1
theorem pe_lam {T : List (Addr × Str)} {c P : Addr} {params : Arguments} {body : Expr} {scope : Scope} {pos : Pos}
    (TB : TabB X.base X.mg c P) (hcode : X.env.code = .ref c) (hm : (P, X.env.qual ++ "<lambda>") ∈ T)
    (hu : ∀ p ∈ T, p.1 = P → p.2 = X.env.qual ++ "<lambda>") (hdef : defaultsOf params X.env = ([], []))
    (hfree : ∀ y ∈ scope.names, y.2 = .free → X.env.scope.names.lookup y.1 = some .cell ∨ X.env.scope.names.lookup y.1 = some .free) :
    PE X (.Lambda params body scope pos) (tLam T (lamF (X.env.qual ++ "<lambda>") params scope (cloFrom X.env.cells scope.names [])) body) := by
  refine ⟨fun pins s σ H Q I h => ?_⟩
  obtain ⟨hT, h⟩ := h
  refine lam_mk I TB hcode hm hu hT hdef (fun y hy e => ?_) fun f c' H1 s' I1 eN nn T1 f0 f1 c1 => ?_
  · exact (hfree y hy e).elim (fun z => I.ok.has _ (.inl z)) fun z => I.ok.has _ (.inr z)
  · exact ⟨.ref f, H1, I1, rfl, h f c' H1 eN nn T1 f0 f1 c1⟩
end
/-! a value that may be called: φ tells what must stand in the heap -/
structure VCall (P : Program) (w : World) (K : PySem.W.Frag) (mg : Str → Option Value) (base : Heap) (k : Nat) (f : Addr) (φ : Hp → Prop) (sp : Sp) : Prop where
  fn : ∀ (h : Heap) (H : Hp), HOk P w H h → K.In h → φ H → PySem.W.FnAt f h
  run : ∀ (A : Around) (outer : List Env) (s : Shared) (H : Hp) (us : List Value) (vs : List V) (Q : VK) (E : XK), Room k A →
    Env0 P w K mg base A outer s H → φ H → Vals vs us → sp vs H Q E →
    codeAny (model P w) A (.call (.ref f) ⟨us, []⟩) (CR CX0 outer P w H s Q E) s
section
variable {P : Program} {w : World} {K : PySem.W.Frag} {mg : Str → Option Value} {base : Heap} {k j : Nat} {f : Addr} {φ : Hp → Prop} {sp sp' : Sp}
theorem VCall.mono (c : VCall P w K mg base j f φ sp) (h : j ≤ k) : VCall P w K mg base k f φ sp :=
  ⟨c.fn, fun A outer s H us vs Q E hr => c.run A outer s H us vs Q E (hr.mono h)⟩
theorem VCall.imp (c : VCall P w K mg base k f φ sp) (h : ∀ vs H Q E, sp' vs H Q E → sp vs H Q E) : VCall P w K mg base k f φ sp' :=
  ⟨c.fn, fun A outer s H us vs Q E hr e0 hf r q => c.run A outer s H us vs Q E hr e0 hf r (h _ _ _ _ q)⟩
/-- a def of the module -/
theorem VCall.def_ {fd : FuncData} {ps : List Str} (F : FnOk P w K mg base CX0 k f fd ps sp) (b : Binds K fd ps [])
    (lk : ∃ oc od sl, K.lookup f = some ⟨oc, od, .func fd, sl⟩) : VCall P w K mg base k f (fun _ => True) sp := by
  obtain ⟨oc, od, sl, lk⟩ := lk
  refine ⟨fun h H _ kin _ => ⟨oc, od, fd, sl, kin _ _ lk⟩, fun A outer s H us vs Q E hr e0 _ r q => ?_⟩
  have KX : K.In s.heap := e0.mod.kin.keeps fun b o e => (e0.bs b o e).1
  have hl : us.length = ps.length := by rw [← r.length]; exact F.len _ _ _ _ q
  have hb := b s us KX (by simpa using hl)
  rw [List.append_nil] at hb
  exact F.run A outer s H ⟨us, []⟩ us vs Q E hr e0 hb r q
end
end VA

set_option Elab.async false
set_option linter.all false
set_option maxRecDepth 100000
set_option maxHeartbeats 4000000
namespace VA
open PySem PySem.Spec PyProof.Rows L2 LamX NdefX
section
variable {prog : Program} {w : World} {A : Around} {E : Value → Shared → Prop} {s : Shared}
/-- the test of a slice of step one -/
def selF (a n : Int) (i : Nat) : Bool :=
  if (1 : Int) > 0 then a ≤ i && i < n && (i - a) % 1 == 0
  else n < i && i ≤ a && (a - i) % (-1) == 0
theorem sel_from (a n k : Nat) (hk : k < n) : selF (a : Int) (n : Int) k = decide (a ≤ k) := by
  unfold selF
  by_cases h : a ≤ k
  · have h1 : (a : Int) ≤ k := by omega
    have h2 : (k : Int) < n := by omega
    have h3 : ((k : Int) - a) % 1 = 0 := by omega
    simp [h, h1, h2, h3]
  · have h1 : ¬ (a : Int) ≤ k := by omega
    simp [h, h1]
theorem keep_from (a : Nat) : ∀ (xs : List Value) (i n : Nat), i + xs.length ≤ n →
    (xs.zipIdx i).filterMap (fun (x, k) => if selF (a : Int) (n : Int) k then none else some x) = xs.take (a - i)
  | [], i, n, _ => by simp
  | x :: xs, i, n, h => by
    have hn : i + 1 + xs.length ≤ n := by rw [List.length_cons] at h; omega
    have hk : i < n := by rw [List.length_cons] at h; omega
    rw [List.zipIdx_cons, List.filterMap_cons, keep_from a xs (i + 1) n hn]
    have hs := sel_from a n i hk
    by_cases q : a ≤ i
    · have e : a - i = 0 := by omega
      have e2 : a - (i + 1) = 0 := by omega
      simp [hs, q, e, e2]
    · have e : a - i = (a - (i + 1)) + 1 := by omega
      simp [hs, q, e]
theorem bounds_from {a n : Nat} (h : a ≤ n) : sliceBounds (some (a : Int)) none none n = ((a : Int), (n : Int), 1) := by
  simp only [sliceBounds, Option.getD_none]
  have h1 : ¬ ((a : Int) < 0) := by omega
  simp only [h1, if_false, show (1 : Int) > 0 by decide, if_true]
  congr 1
  omega
theorem delItem_tail {l sl : Addr} {items : List Value} {n : Nat} {vl : Value} {a : Nat} {Q : Unit → Shared → Prop}
    (e : s.heap.get? l = some { cls := .type "list", data := .seq items.toArray n }) (hs : s.heap.IsSliceOf sl vl .none .none)
    (pl : IsPart vl (some (a : Int))) (ha : a ≤ items.length) (hsz : items.length ≤ sizeLine)
    (h : Q () { s with heap := s.heap.update l (Obj.mapSeq fun xs => (xs.toList.zipIdx.filterMap fun (x, k) => if selF (a : Int) (items.length : Int) k then none else some x).toArray) }) :
    wpAny (model prog w) A (delItem (.ref l) (.ref sl)) Q E s := by
  have hl : s.heap.IsList l items.toArray := PySem.IsL.isList e
  obtain ⟨os, hos, hcs, hds⟩ := id hs
  have hTs : s.TypeIs (.ref sl) "slice" := ⟨os, hos, hcs⟩
  have hstep : ¬ ((rawPart none == rawInt 0) = true) := Bool.false_ne_true
  have hz' : ((fun xs : Array Value => (xs.toList.zipIdx.filterMap fun (x, k) => if selF (a : Int) (items.length : Int) k then none else some x).toArray) items.toArray).size ≤ sizeLine + 1 := by
    show (items.zipIdx.filterMap _).toArray.size ≤ _
    rw [List.size_toArray]
    refine Nat.le_trans (List.length_filterMap_le _ _) ?_
    rw [List.length_zipIdx]; omega
  unfold delItem
  try with_reducible refine wpAny_holding ?_
  first | refine wpAny_bind (wpAny_pure ?_) | skip
  refine wpAny_bind (wpAny_sequenceKey hl.typeIs (by decide) ?_)
  refine wpAny_bind (wpAny_callSpecial?_slot (name := Str.ofString "__delitem__") hl.typeIs PySem.F.slot_list_delitem
    (wpAny_call_entry PySem.F.slot_list_delitem hl.typeIs PySem.F.entry_list_delitem ?_ (PySem.F.args_list_delitem_2 _ _)))
  show wpAny _ _ (Builtin.List.listSubscript? (.ref sl) >>= _) _ _ s
  refine wpAny_bind ?_
  unfold Builtin.List.listSubscript?
  refine wpAny_bind (wpAny_specialOf hTs slice_no_index ?_)
  simp only [Option.isNone_none, if_true]
  refine wpAny_pure ?_
  show wpAny _ _ (typeOf (.ref sl) >>= _) _ _ s
  refine wpAny_bind (wpAny_typeOf hTs ?_)
  first
    | rw [if_neg (by decide)]
    | refine PySem.W.KFB.if_not (by decide) ?_
  rw [listSliceParts_eq]
  refine wpAny_bind (wpAny_bind (wpAny_field hos hds (x := .none) rfl (wpAny_bind (wpAny_listPart .none ?_))))
  rw [if_neg hstep]
  refine wpAny_bind (wpAny_field hos hds (x := vl) rfl (wpAny_bind (wpAny_listPart pl ?_)))
  refine wpAny_bind (wpAny_field hos hds (x := .none) rfl (wpAny_bind (wpAny_listPart .none (wpAny_pure ?_))))
  unfold Builtin.List.listItems
  refine wpAny_bind (wpAny_bind (wpAny_seqItems e rfl (wpAny_pure ?_)))
  refine wpAny_bind (wpAny_of_eq ((sliceIndices_raw (some (a : Int)) none none items.toArray.size (by simp)).trans (congrArg (pure : Int × Int × Int → Sem (Int × Int × Int)) (bounds_from (n := items.toArray.size) (by simpa using ha)))) ?_)
  refine wpAny_bind (wpAny_rule ?_)
  have esz : ((items.toArray.size : Nat) : Int) = (items.length : Int) := by rw [List.size_toArray]
  rw [esz]
  refine wpAny_bind (wpAny_updateSeq (hz := by rw [List.size_toArray]; exact hsz) (_hz' := hz') e rfl ?_)
  refine wpAny_bind (wpAny_letGo ?_)
  first
    | exact wpAny_bind (wpAny_pure (wpAny_pure ⟨.none, rfl, wpAny_pure h⟩))
    | exact wpAny_pure ⟨.none, rfl, wpAny_pure h⟩
end
section
variable {X : Cx} {pos tpos p2 : Pos}
/-- del xs[a:] of a list -/
def tDelFrom (to tl : TE) : TS := fun D σ H => to σ H fun x H1 => tl σ H1 fun y H2 =>
  ∃ (l : Addr) (xs : List V) (a : Nat), x = .ref l ∧ y = .int a ∧ H2 l = some (.lst xs) ∧ a ≤ xs.length ∧ D.nx σ (upd H2 l (.lst (xs.take a)))
theorem ps_delFrom {o lo : Expr} {to tl : TE} (ho : PE X o to) (hl : PE X lo tl) :
    PS X (.Delete [.Subscript o (.Slice (some lo) none none p2) tpos] pos) (tDelFrom to tl) := by
  refine ⟨fun pins s σ H D I h => ?_⟩
  refine wpAny_Delete (wpAny_deleteEach_cons (wpAny_delete_Subscript (thn (ho.run pins s σ H _ I h) fun u s1 ⟨x, H1, I1, rx, q1⟩ => ?_)))
  refine wpAny_Slice ?_
  rw [evalPart_some]
  refine thn (hl.run pins s1 σ H1 _ I1 q1) fun vl s2 ⟨y, H2, I2, ry, q2⟩ => ?_
  rw [evalPart_none]
  refine wpAny_pure (wpAny_pure ?_)
  obtain ⟨l, xs, a, ex, ey, hH, ha, q⟩ := q2
  subst ex
  subst ey
  cases (show u = Value.ref l from rx)
  obtain ⟨t, rfl⟩ := (show ∃ t, vl = Value.int (a : Int) t from ry)
  have I3 : Inv X pins σ H2 { s2 with heap := s2.heap.push { cls := .type "slice", data := .fields #[.int (a : Int) t, .none, .none] } } :=
    I2.kept (t' := s2.toks) fun b ob q => Heap.get?_push_of_some _ q
  obtain ⟨hz, its, n, rv, hlen, e⟩ := I3.lstM hH
  refine delItem_tail (n := n) e (Heap.IsSliceOf.new ..) (.int _ _) (by omega) (by omega) ?_
  refine wpAny_deleteEach_nil ⟨σ, upd H2 l (.lst (xs.take a)), ?_, q⟩
  refine I3.lset (its' := its.take a) (t' := s2.toks) hH e ?_ (rv.take _) (by rw [List.length_take]; omega)
  show (List.filterMap _ (its.toArray.toList.zipIdx)).toArray = _
  rw [List.toList_toArray]
  exact congrArg List.toArray (keep_from a its 0 its.length (by omega))
end
end VA

set_option Elab.async false
set_option linter.all false
set_option maxRecDepth 100000
set_option maxHeartbeats 4000000
namespace VA
open PySem PySem.Spec PyProof.Rows L2 LamX NdefX
theorem each_vals {β : Type} (emb : β → V) : ∀ {bs : List β} {us : List Value}, Vals (bs.map emb) us → PySem.W.EachIs (fun u b => RelV (emb b) u) us bs
  | [], us, r => by rw [List.map_nil] at r; cases r; exact .nil
  | b :: bs, us, r => by
    rw [List.map_cons] at r
    cases r with
    | cons h t => exact .cons h (each_vals emb t)
theorem vals_each {β : Type} (emb : β → V) : ∀ {bs : List β} {us : List Value}, PySem.W.EachIs (fun u b => RelV (emb b) u) us bs → Vals (bs.map emb) us
  | _, _, .nil => .nil
  | _, _, .cons h t => .cons h (vals_each emb t)
theorem each_reads {β : Type} {X : Cx} {pins : List (Addr × Obj)} {σ : L2.St} {H : Hp} {s : Shared} (I : Inv X pins σ H s) (emb : β → V) (enc : β → PyData) :
    ∀ {bs : List β} {us : List Value}, (∀ b ∈ bs, Dp X.K H (emb b) (enc b)) → Vals (bs.map emb) us → PySem.W.EachIs (fun u b => ∃ as, Reads s.heap u (enc b) as) us bs
  | [], us, _, r => by rw [List.map_nil] at r; cases r; exact .nil
  | b :: bs, us, hd, r => by
    rw [List.map_cons] at r
    cases r with
    | cons h t =>
      exact .cons (Dp.reads I _ _ _ (hd b List.mem_cons_self) h) (each_reads I emb enc (fun c hc => hd c (List.mem_cons_of_mem _ hc)) t)
/-- sorted(xs), any alike data: bs are the items, emb their values, enc their data -/
def rSortedB {β : Type} (K : PySem.W.Frag) (emb : β → V) (enc : β → PyData) : List V → Hp → VK → Prop := fun vs H Q =>
  ∃ (a : Addr) (bs : List β), vs = [V.ref a] ∧ SqL K H a (bs.map emb) ∧ (∀ b ∈ bs, Dp K H (emb b) (enc b)) ∧
    PySem.W.AllAlike (bs.map enc) ∧ PySem.W.Sortable (bs.map enc) ∧ (∀ b ∈ bs, (enc b).depth ≤ 8) ∧
    ∀ p : Addr, H p = none → Q (.ref p) (upd H p (.lst ((bs.mergeSort (PySem.W.dataLe false enc)).map emb)))
section
variable {X : Cx}
theorem cr_sortedB {β : Type} {k : Nat} (emb : β → V) (enc : β → PyData) (hr : Room k X.A) : CallR X (.builtin "sorted") (rSortedB X.K emb enc) := by
  intro pins s σ H vs us Q I r h
  obtain ⟨a, bs, rfl, hs, hd, hal, hk, hdp, q⟩ := h
  obtain ⟨its, rv, hl, hz⟩ := I.list hs
  rw [Vals.ref1 r]
  have hun := hr.un
  have hlen : bs.length ≤ sizeLine := by rw [List.length_map] at hz; exact hz
  refine PySem.W.sorted_data (R := fun u b => RelV (emb b) u) hl.isList (each_vals emb rv) (each_reads I emb enc hd rv) hal hk hlen
    (fun b hb => by have := hdp b hb; omega) fun out ho he => ?_
  obtain ⟨ep, he'⟩ := PyProof.Rows.sortedAll_at s.heap its out.toArray
  have hl2 : ((bs.mergeSort (PySem.W.dataLe false enc)).map emb).length ≤ sizeLine := by
    rw [List.length_map, List.length_mergeSort]; exact hlen
  exact ⟨.ref _, upd H (s.heap.objs.size + 1) (.lst ((bs.mergeSort (PySem.W.dataLe false enc)).map emb)),
    I.laid (t' := s.toks) (fun _ _ => PyProof.Rows.sortedAll_old) (Nat.le_succ _) ⟨hl2, out, ep, vals_each emb he, he'⟩, rfl, q _ (I.hok.fresh (Nat.le_succ _))⟩
/-- max(xs, default=d), whole numbers -/
def rMaxD (K : PySem.W.Frag) : List V → List V → Hp → VK → Prop := fun vs zs H Q =>
  ∃ (a : Addr) (ns : List Int) (d : Int), vs = [V.ref a] ∧ zs = [.int d] ∧ SqL K H a (ns.map V.int) ∧
    Q (.int (match ns with | [] => d | n :: r => r.foldl max n)) H
theorem reads_ints {h : Heap} : ∀ {us : List Value} {ns : List Int}, IntsAre us ns → ReadsAll h us (ns.map .int) []
  | _, _, .nil => .nil
  | _, _, .cons n t r => ReadsAll.cons (as := []) (bs := []) (.int n t) (reads_ints r)
theorem alike_ints (ns : List Int) : PySem.W.AlikeAll (ns.map .int) := by
  refine ⟨fun x hx y hy => ?_, fun x hx => ?_⟩
  · obtain ⟨n, _, rfl⟩ := List.mem_map.mp hx
    obtain ⟨m, _, rfl⟩ := List.mem_map.mp hy
    rfl
  · obtain ⟨n, _, rfl⟩ := List.mem_map.mp hx
    intro z; cases z
theorem depth_ints : ∀ ns : List Int, PyData.depthAll (ns.map PyData.int) = 0
  | [] => rfl
  | n :: r => by
    rw [List.map_cons]
    simp only [PyData.depthAll, PyData.depth, depth_ints r, Nat.max_self]
theorem cr_maxD {k : Nat} (hc : X.calm = true) (hr : Room k X.A) : CallRK X (.builtin "max") [Str.ofString "default"] (rMaxD X.K) := by
  intro pins s σ H vs zs us ws Q I r rz h
  obtain ⟨a, ns, d, rfl, rfl, hs, q⟩ := h
  obtain rfl := Vals.ref1 r
  obtain ⟨w1, rfl, e1⟩ := vals1 rz
  obtain ⟨t, rfl⟩ := e1
  obtain ⟨its, rv, hl, hz⟩ := I.list hs
  have hi := rv.ints
  have hun := hr.un
  have hin : X.A.handled = none := I.ok.hd hc
  refine PySem.W.max_list_default (xs := ns.map .int) hin hl.isList (by simpa using reads_ints (h := s.heap) hi) (alike_ints ns) (by rw [depth_ints]; omega)
    (fun e h' tk hk => ?_) fun y ys i v h' tk bs e hv hr2 hk => ?_
  · have e0 : ns = [] := List.map_eq_nil_iff.mp e
    subst e0
    exact ⟨.int d, H, I.kept (t' := tk) hk, ⟨t, rfl⟩, q⟩
  · cases ns with
    | nil => cases e
    | cons n rr =>
      rw [List.map_cons] at e
      injection e with e1 e2
      subst e1
      subst e2
      rw [PySem.W.maxD_ints] at hr2
      cases hr2 with
      | int z tz => exact ⟨.int (rr.foldl max n), H, I.kept (t' := tk) hk, ⟨tz, rfl⟩, q⟩
end
/-! calls of a value -/
section
variable {X : Cx} {k j i : Nat} {x : Str} {p pos : Pos} {e : Expr} {es : List Expr} {t : TA}
/-- x(..), x a name that holds a function value -/
def tCallVal (P : Program) (w : World) (K : PySem.W.Frag) (mg : Str → Option Value) (base : Heap) (k i : Nat) (t : TA) : TE := fun σ H Q =>
  ∃ (f : Addr) (φ : Hp → Prop) (sp : Sp), σ[i]? = some (some (.ref f)) ∧ VCall P w K mg base k f φ sp ∧ φ H ∧ t σ H fun vs H1 => φ H1 ∧ sp vs H1 Q E0
theorem pe_callVal (hr : Room j X.A) (hk : k ≤ j) (hN : X.N[i]? = some x) (hv : Vis X.env.scope x) (ha : PA X (e :: es) t)
    (hdb : (x == ("__debug__" : Str)) = false := by decide) (hcd : (x == ("__classdict__" : Str)) = false := by decide)
    (he : starEach (e :: es) X.env = (false, eval e X.env) :: starEach es X.env := by rfl) (hpl : (backTo pos (starEach es X.env)).any (·.1) = false := by rfl) :
    PE X (.Call (.Name x p) (e :: es) [] pos) (tCallVal X.prog X.w X.K X.mg X.base k i t) := by
  refine ⟨fun pins s σ H Q I h => ?_⟩
  obtain ⟨f, φ, sp, hs, c, hf, ht⟩ := h
  refine wpAny_Call_Name_kw (thn ((pe_var (pos := p) hN hv hdb hcd).run pins s σ H (fun v H1 => v = .ref f ∧ H1 = H) I ⟨.ref f, hs, rfl, rfl⟩) fun u s1 ⟨v, H1, I1, r1, q1⟩ => ?_)
  obtain ⟨ev, eH⟩ := q1
  subst ev
  subst eH
  obtain rfl : u = Value.ref f := r1
  refine PySem.W.callWith_F (first := []) (c.fn _ _ I1.hok I1.kIn hf) (thn (ha.run pos pins s1 σ _ _ I1 ht) fun us s2 ⟨vs, H2, I2, r, h2, q⟩ => ⟨c.fn _ _ I2.hok I2.kIn h2, ?_⟩) he hpl
  show wpAny _ _ (call (.ref f) us) _ _ _
  refine wpAny_call (codeAny_mono (c.run X.A X.stack s2 H2 us vs Q E0 (hr.mono hk) I2.env0 h2 r q) fun r s' hq => ?_)
  cases r with
  | error e => exact hq.elim
  | ok fl =>
    cases fl with
    | ret u => exact I2.after hq
    | next => exact hq.elim
    | brk => exact hq.elim
    | cont => exact hq.elim
end
/-- a lambda without captured names, by its expression -/
def lamAt (f : Addr) (F : NF) (b : Expr) : Hp → Prop := fun H => H f = some (LamO f F b) ∧ H F.c = some (CodeO F.c F.qual)
section
variable {P : Program} {w : World} {K : PySem.W.Frag} {mg : Str → Option Value} {base : Heap} {N ps : List Str} {F : NF} {b : Expr} {f : Addr} {k : Nat} {sp : Sp}
theorem VCall.lam (S : NScope N ps [] F.scope) (hcl : F.cl = [])
    (hb : ∀ (pm ctv : Value) (us : List Value), us.length = ps.length → bindArgs (PySem.W.kla_fn F.name F.qual F.params b F.scope F.cl pm (.ref F.c) ctv) ⟨us, []⟩ = pure (ps.zip us))
    (len : ∀ vs H Q E, sp vs H Q E → vs.length = ps.length)
    (hbody : ∀ (A : Around) (outer : List Env) (s : Shared) (H : Hp) (vs : List V) (Q : VK) (E : XK), Room k (A.deeper (envF F f s.heap.objs.size)) → lamAt f F b H → sp vs H Q E →
      ∃ t, PE (ncx CX0 P w K mg base N F f A outer s H E).nox b t ∧ t (startF N vs []) H Q) :
    VCall P w K mg base (k + 1) f (lamAt f F b) sp := by
  refine ⟨fun h H hok _ hf => ?_, fun A outer s H us vs Q E hr e0 hf r hsp => ?_⟩
  · obtain ⟨od, sl, pm, ctv, z⟩ := lamO_at hok hf.1
    exact ⟨_, od, _, sl, z⟩
  · have hl := len _ _ _ _ hsp
    have lim : s.heap.NoLimit := e0.mod.nolimit.keeps fun b o e => (e0.bs b o e).1
    obtain ⟨od, sl, pm, ctv, ho⟩ := lamO_at e0.hok hf.1
    refine PySem.W.kla_callFunE hr.depth ho rfl S.co S.gen rfl (codeO_at e0.hok hf.2) ?_
    rw [hb pm ctv us (by rw [← r.length]; exact hl)]
    refine wpAny_pure (wpAny_newFunctionEnv S.nocell (fun ⟨n, _⟩ hy => S.par n (List.of_mem_zip hy).1) (fun h₁ hns hsb => ⟨lim.fresh _ hsb, ?_⟩) S.kind)
    show codeAny _ _ (.expr b (envF F f s.heap.objs.size)) _ _
    have kp : ∀ b o, s.heap.get? b = some o → h₁.get? b = some o := fun b o e =>
      hsb.extBut b o (Nat.ne_of_lt (Heap.lt_size e)) (Heap.get?_push_of_some _ e)
    obtain ⟨t, ht, hq⟩ := hbody A outer s H vs Q E (hr.deeper _) hf hsp
    have C : CellsAt F.cl ([] : List Str) ([] : List (Option V)) s.heap H := by
      have no : ∀ (y : Str) (c : Addr), F.cl.lookup y ≠ some c := fun y c e => by
        rw [hcl] at e
        exact nomatch (show (none : Option Addr) = some c from e)
      exact ⟨rfl, fun y c e => absurd e (no y c), fun x y c e _ => absurd e (no x c), fun i y e => nomatch (show (none : Option Str) = some y from (by simpa using e))⟩
    have J : Inv (ncx CX0 P w K mg base N F f A outer s H E) [] (startF N vs []) H { s with heap := h₁, toks := s.toks + (ps.zip us).length } := inv_startN S hr.hd e0 hl r C hns kp
    refine PySem.W.kla_codeExpr (wpAny_mono (ht.nox.run [] _ (startF N vs []) H Q J hq) (fun v s' z => ?_) fun e s' z => z)
    obtain ⟨w', H', J', rv, q⟩ := z
    exact ⟨w', H', J'.os, J'.bare, J'.base, J'.hok, rv, q⟩
end
end VA

set_option Elab.async false
set_option linter.all false
set_option maxRecDepth 100000
set_option maxHeartbeats 4000000
namespace VS
open PySem PySem.Spec PyProof.Rows L2
/-! sets of keys (whole numbers and texts) that can be walked: as SetR, over the mixed keys -/
def kOf (e : Int × Value) : Key := match e.2 with
  | .int k _ => Sum.inl k
  | .str x _ => Sum.inr x
  | _ => Sum.inl 0
def Fit (w : World) (e : Int × Value) : Prop := ∃ k : Key, keyIs k e.2 = true ∧ e.1 = keyH w k
theorem kOf_is {e : Int × Value} {k : Key} (h : keyIs k e.2 = true) : kOf e = k := by
  unfold kOf
  rcases keyIs_shape h with ⟨i, t, rfl, q⟩ | ⟨x, t, rfl, q⟩ <;> rw [q]
theorem keyIs_kOf {w : World} {e : Int × Value} (g : Fit w e) (k : Key) : keyIs k e.2 = true ↔ kOf e = k := by
  obtain ⟨k0, h0, _⟩ := g
  have e0 := kOf_is h0
  constructor
  · exact kOf_is
  · intro z
    rw [e0] at z
    rw [← z]
    exact h0
theorem fit_scan {w : World} {e : Int × Value} (g : Fit w e) : e.2.scannable = true := by
  obtain ⟨k0, h0, _⟩ := g
  rcases keyIs_shape h0 with ⟨i, t, _, q⟩ | ⟨x, t, _, q⟩ <;> rw [q] <;> rfl
/-- the set at a: its members are those of S, n of them -/
def SetM (w : World) (h : Heap) (a : Addr) (S : Key → Bool) (n : Nat) : Prop :=
  ∃ ob es ep tb, h.get? a = some ob ∧ ob.ExactSet ∧ ob.data = .set es ep tb ∧ (∀ e ∈ es.toList, Fit w e) ∧ (es.toList.map kOf).Nodup ∧
    (∀ k, S k = true ↔ k ∈ es.toList.map kOf) ∧ es.size < scanBound ∧ tb.fits es.size = true ∧ es.size = n ∧ Ris tb.place.toList ∧
    (w.params.followText "set-order" = true ∨ tb.led = true)
section
variable {P : Program} {w : World} {h h' : Heap} {a : Addr} {S : Key → Bool} {n : Nat}
theorem SetM.at (m : SetM w h a S n) (kp : ∀ ob, h.get? a = some ob → h'.get? a = some ob) : SetM w h' a S n := by
  obtain ⟨ob, es, ep, tb, ho, r⟩ := m
  exact ⟨ob, es, ep, tb, kp ob ho, r⟩
theorem fit_elems {l : List (Int × Value)} (g : ∀ e ∈ l, Fit w e) : ElemsOf (mixKind P w) l := by
  intro e he
  obtain ⟨k, h1, h2⟩ := g e he
  exact ⟨⟨k, h1, h2⟩, fit_scan (g e he)⟩
theorem fit_mem {l : List (Int × Value)} (g : ∀ e ∈ l, Fit w e) (k : Key) : k ∈ l.map kOf ↔ ∃ e ∈ l, (mixKind P w).is k e.2 = true := by
  rw [List.mem_map]
  constructor
  · rintro ⟨e, he, q⟩; exact ⟨e, he, (keyIs_kOf (g e he) k).2 q⟩
  · rintro ⟨e, he, q⟩; exact ⟨e, he, (keyIs_kOf (g e he) k).1 q⟩
theorem SetM.setOf (m : SetM w h a S n) : h.SetOf (mixKind P w) a S n := by
  obtain ⟨ob, es, ep, tb, ho, hx, hd, g, nd, hm, hb, hf, hn, _⟩ := m
  exact ⟨ob, es, ep, tb, ho, hx, hd, fit_elems g, fun k => Iff.trans (hm k) (fit_mem g k), hb, hf, hn⟩
end
section
variable {P : Program} {w : World} {A : Around} {E : Value → Shared → Prop} {s : Shared} {a : Addr} {S : Key → Bool} {n : Nat}
theorem add_tailM {gv : Bool → Sem Unit} (hgv : ∀ (b : Bool) (z : Shared) (F : Unit → Shared → Prop), F () z → wpAny (model P w) A (gv b) F E z)
    {ob : Obj} {es : Array (Int × Value)} {ep : Nat} {tb : SetTable} (ho : s.heap.get? a = some ob) (hex : ob.ExactSet) (hd : ob.data = .set es ep tb)
    {e1 : Array (Int × Value)} {t1 : SetTable} {S1 : Key → Bool} (g1 : ∀ e ∈ e1.toList, Fit w e) (nd1 : (e1.toList.map kOf).Nodup)
    (m1 : ∀ k, S1 k = true ↔ k ∈ e1.toList.map kOf) (hb1 : e1.size < scanBound) (hf1 : t1.fits e1.size = true) (hr1 : Ris t1.place.toList)
    (hl1 : w.params.followText "set-order" = true ∨ t1.led = true) {wasDummy : Bool} {F : Option Bool → Shared → Prop}
    (hF : ∀ h', Heap.SameBut a s.heap h' → SetM w h' a S1 e1.size → F (some true) { s with heap := h' }) :
    wpAny (model P w) A (do
      storeSet a e1 t1
      if (!wasDummy && t1.tooFull) = true then do
          gv (relayAll t1 e1 (SetTable.grown e1.size)).2.2
          storeSet a (relayAll t1 e1 (SetTable.grown e1.size)).1 (relayAll t1 e1 (SetTable.grown e1.size)).2.1
          pure (some true)
        else pure (some true)) F E s := by
  have at1 := store_at (es' := e1) (t' := t1) ho hd
  have but1 := Heap.SameBut.update s.heap a (Obj.putSet e1 t1)
  refine wpAny_bind (wpAny_storeSet_of ho hd ?_ (fits_of_scanBound hb1))
  split
  · have p2 := relayAll_perm t1 e1 (SetTable.grown e1.size)
    have f2 := relayAll_fits t1 e1 (SetTable.grown e1.size)
    have r2 := relayAll_ris t1 e1 (SetTable.grown e1.size)
    have l2 := relayAll_led t1 e1 (SetTable.grown e1.size)
    generalize relayAll t1 e1 (SetTable.grown e1.size) = Y at p2 f2 r2 l2 ⊢
    obtain ⟨e2, t2, gave⟩ := Y
    dsimp only at p2 f2 r2 l2 ⊢
    have z2 : e2.size = e1.size := by rw [← Array.length_toList, p2.length_eq, Array.length_toList]
    have b2 : e2.size < scanBound := z2 ▸ hb1
    refine wpAny_bind (hgv _ _ _ (wpAny_bind (wpAny_storeSet_of at1 rfl ?_ (fits_of_scanBound b2))))
    have at2 := store_at (es' := e2) (t' := t2) at1 rfl
    have pk := p2.map kOf
    refine wpAny_pure (hF _ (but1.trans (Heap.SameBut.update _ a _)) ⟨_, e2, _, t2, at2, hex, rfl, ?_, ?_, ?_, b2, f2, z2, r2, ?_⟩)
    · intro e he; exact g1 e (p2.mem_iff.mp he)
    · exact pk.nodup_iff.mpr nd1
    · intro k; exact Iff.trans (m1 k) pk.mem_iff.symm
    · exact hl1.imp id fun z => by rw [l2]; exact z
  · exact wpAny_pure (hF _ but1 ⟨_, e1, _, t1, at1, hex, rfl, g1, nd1, m1, hb1, hf1, rfl, hr1, hl1⟩)
theorem add_hashedM {k : Key} {u : Value} {F : Bool → Shared → Prop} (hkey : (mixKind P w).is k u = true) (hsc : u.scannable = true)
    (m : SetM w s.heap a S n) (room : n + 1 < scanBound)
    (hF : ∀ h', Heap.SameBut a s.heap h' → SetM w h' a (fun j => S j || decide (j = k)) (if S k = true then n else n + 1) → F (!S k) { s with heap := h' }) :
    wpAny (model P w) A (setAddHashed a u ((mixKind P w).hash k)) F E s := by
  obtain ⟨ob, es, ep, tb, ho, hex, hd, g, nd, hm, hb, hf, hn, hr, hl⟩ := m
  have hel : ElemsOf (mixKind P w) es.toList := fit_elems g
  unfold setAddHashed setAddHashedIn
  refine wpAny_holding (wpAny_bind (wpAny_setState_of ho hd hf ?_))
  dsimp only
  rw [byScan_of hsc hb hel]
  simp only [↓reduceIte]
  unfold setAddByScan
  refine wpAny_bind (wpAny_bind (wpAny_rule (wpAny_bind (wpAny_setScan_of hkey ho hd hf hel ?_))))
  cases hfi : List.findIdx? (fun e => (mixKind P w).is k e.2) es.toList with
  | some j =>
    obtain ⟨hj, pj, _⟩ := List.findIdx?_eq_some_iff_getElem.mp hfi
    have inS : S k = true := (hm k).2 ((fit_mem (P := P) (w := w) g k).2 ⟨es.toList[j], List.getElem_mem hj, pj⟩)
    dsimp only
    have mem : ∀ i, (S i || decide (i = k)) = true ↔ i ∈ es.toList.map kOf := by
      intro i
      rw [Bool.or_eq_true, decide_eq_true_eq, ← hm i]
      exact ⟨fun z => z.elim id (fun e => e ▸ inS), .inl⟩
    have q := hF s.heap (Heap.SameBut.refl a s.heap) ⟨ob, es, ep, tb, ho, hex, hd, g, nd, mem, hb, hf, by rw [if_pos inS]; exact hn, hr, hl⟩
    rw [inS] at q
    exact wpAny_pure (wpAny_pure q)
  | none =>
    have out : k ∉ es.toList.map kOf := by
      intro z
      obtain ⟨e, he, q⟩ := (fit_mem (P := P) (w := w) g k).1 z
      have c := List.findIdx?_eq_none_iff.mp hfi e he
      rw [q] at c
      cases c
    have offS : S k = false := by
      cases q : S k with
      | false => rfl
      | true => exact absurd ((hm k).1 q) out
    dsimp only
    have gw : ∀ (b : Bool) {z : Shared} {F' : Unit → Shared → Prop}, F' () z →
        wpAny (model P w) A (match b with | true => rule "set.scan.the-table-gave-way" | false => pure ()) F' E z := by
      intro b z F' q
      cases b
      · exact wpAny_pure q
      · exact wpAny_rule q
    have p1 := layNew_perm tb es ((mixKind P w).hash k) u
    have f1 := layNew_fits tb es ((mixKind P w).hash k) u
    have r1 := layNew_ris tb es ((mixKind P w).hash k) u hr
    have l1 := layNew_led tb es ((mixKind P w).hash k) u
    generalize layNew tb es ((mixKind P w).hash k) u = Y at p1 f1 r1 l1 ⊢
    obtain ⟨e1, t1, wasDummy, gave⟩ := Y
    dsimp only at p1 f1 r1 l1 ⊢
    rw [Array.toList_push] at p1
    have pc : e1.toList.Perm (((mixKind P w).hash k, u) :: es.toList) := p1.trans (List.perm_append_singleton _ _)
    have hk1 : kOf ((mixKind P w).hash k, u) = k := kOf_is hkey
    have pk : (e1.toList.map kOf).Perm (k :: es.toList.map kOf) := by
      have z := pc.map kOf
      rw [List.map_cons, hk1] at z
      exact z
    have g1 : ∀ e ∈ e1.toList, Fit w e := by
      intro e he
      rcases List.mem_cons.mp (pc.mem_iff.mp he) with z | z
      · rw [z]; exact ⟨k, hkey, rfl⟩
      · exact g e z
    have nd1 : (e1.toList.map kOf).Nodup := pk.nodup_iff.mpr (List.nodup_cons.mpr ⟨out, nd⟩)
    have m1 : ∀ i, (S i || decide (i = k)) = true ↔ i ∈ e1.toList.map kOf := by
      intro i
      rw [Bool.or_eq_true, decide_eq_true_eq, hm i, pk.mem_iff, List.mem_cons]
      exact Or.comm
    have sz : e1.size = n + 1 := by rw [← Array.length_toList, pc.length_eq, List.length_cons, Array.length_toList, hn]
    have b1 : e1.size < scanBound := by rw [sz]; exact room
    have led1 : w.params.followText "set-order" = true ∨ t1.led = true := hl.imp id fun z => by rw [l1]; exact z
    have fin : ∀ h', Heap.SameBut a s.heap h' → SetM w h' a (fun j => S j || decide (j = k)) e1.size → F true { s with heap := h' } := by
      intro h' sb r
      have q := hF h' sb
      rw [offS] at q
      rw [sz] at r
      exact q r
    refine wpAny_bind (gw _ ?_)
    split
    · refine wpAny_bind ?_
      rw [hashByValue_scannable 8 hsc]
      refine wpAny_pure (add_tailM ?_ ho hex hd g1 nd1 m1 b1 ?_ ?_ ?_ fun h' sb r => ?_)
      · intro b z F' q
        cases b
        · first | exact wpAny_pure q | exact wpAny_rule q
        · first | exact wpAny_rule q | exact wpAny_pure q
      · first | (split <;> first | exact f1 | exact SetTable.fits_plain_off f1) | exact f1
      · first | (split <;> exact r1) | exact r1
      · first | (split <;> exact led1) | exact led1
      · dsimp only; exact wpAny_pure (fin h' sb r)
    · refine wpAny_bind (wpAny_pure ?_)
      simp only [↓reduceIte]
      refine add_tailM ?_ ho hex hd g1 nd1 m1 b1 f1 r1 led1 fun h' sb r => ?_
      · intro b z F' q
        cases b
        · first | exact wpAny_pure q | exact wpAny_rule q
        · first | exact wpAny_rule q | exact wpAny_pure q
      · dsimp only; exact wpAny_pure (fin h' sb r)
theorem call_addM {k : Key} {u : Value} {F : Value → Shared → Prop} (hkey : (mixKind P w).is k u = true) (hsc : u.scannable = true)
    (m : SetM w s.heap a S n) (room : n + 1 < scanBound)
    (hF : ∀ h', Heap.SameBut a s.heap h' → SetM w h' a (fun j => S j || decide (j = k)) (if S k = true then n else n + 1) → F .none { s with heap := h', toks := s.toks + 1 }) :
    wpAny (model P w) A (call (.builtin "set.add") [.ref a, u]) F E s := by
  have so : s.heap.SetOf (mixKind P w) a S n := m.setOf
  refine wpAny_call_entry PySem.F.slot_set_add so.typeIs PySem.F.entry_set_add ?_ (PySem.F.args_set_add_2 _ _)
  unfold Builtin.«set.add» Builtin.Frozenset.oneOther
  simp only [List.isEmpty_nil, bind_assoc]
  unfold Builtin.Frozenset.addrOf setAdd
  refine wpAny_bind (wpAny_pure ?_)
  try dsimp only
  refine wpAny_bind (wpAny_pure ?_)
  try dsimp only
  refine wpAny_bind (wpAny_holding (wpAny_bind ((mixKind P w).pyHash hkey ?_)))
  refine add_hashedM (s := { s with toks := s.toks + 1 }) hkey hsc m room fun h' sb r => ?_
  show wpAny _ _ (ret Value.none) _ _ _
  exact wpAny_pure ⟨_, rfl, hF h' sb r⟩
theorem freshM {h : Heap} (w : World) : SetM w (h.push { cls := .type "set", dict := none, data := .set #[] 0 (.fresh 0 0 (!w.params.followText "set-order")) }) h.objs.size (fun _ => false) 0 := by
  refine ⟨_, #[], 0, _, Heap.get?_push_size _ rfl, ⟨rfl, rfl, rfl⟩, rfl, (fun e he => by simp at he), (by simp), (fun k => by simp), (by decide), (by rfl), rfl, List.Pairwise.nil, ?_⟩
  show _ ∨ (!w.params.followText "set-order") = true
  cases w.params.followText "set-order"
  · exact .inr rfl
  · exact .inl rfl
end
/-! over the layer -/
def SetMO (w : World) (a : Addr) (S : Key → Bool) (n : Nat) : HO := .ext fun h => SetM w h a S n
section
variable {X : Cx}
theorem setMO_new {w : World} {P : Program} {H : Hp} {h : Heap} {a : Addr} {S : Key → Bool} {n : Nat} (m : SetM w h a S n) : ObjOk P w H h a (SetMO w a S n) := by
  have ⟨o, _, _, _, ho, _⟩ := m
  exact ⟨m, ⟨o, ho⟩, fun _ _ p q => SetM.at p q⟩
theorem setMO_get {pins : List (Addr × Obj)} {σ : L2.St} {H : Hp} {s : Shared} {a : Addr} {S : Key → Bool} {n : Nat} (I : Inv X pins σ H s)
    (ha : H a = some (SetMO X.w a S n)) : SetM X.w s.heap a S n := by
  have z := I.hok a _ ha
  exact z.1
/-- set() -/
def rSet0M (w : World) : List V → Hp → VK → Prop := fun xs H Q => xs = [] ∧ ∀ p, H p = none → Q (.ref p) (upd H p (SetMO w p (fun _ => false) 0))
theorem cr_set0M : CallR X (.type "set") (rSet0M X.w) := by
  intro pins s σ H xs us Q I r h
  obtain ⟨rfl, q⟩ := h
  cases r
  refine setR_new fun _ => ?_
  have fr : H s.heap.objs.size = none := I.hok.fresh (Nat.le_refl _)
  exact ⟨.ref _, upd H s.heap.objs.size (SetMO X.w s.heap.objs.size (fun _ => false) 0),
    I.laid (t' := s.toks) (fun b u e => Heap.get?_push_of_some _ e) (Nat.le_refl _) (setMO_new (freshM X.w)), rfl, q _ fr⟩
/-- found.add(k) -/
def tSAddM (w : World) (to te : TE) : TE := fun σ H Q => to σ H fun x H1 => (∃ a S n, x = V.ref a ∧ H1 a = some (SetMO w a S n)) ∧
  te σ H1 fun y H2 => ∃ (a : Addr) (k : Key) (S : Key → Bool) (n : Nat), x = V.ref a ∧ y = kV k ∧ H2 a = some (SetMO w a S n) ∧ n + 1 < scanBound ∧
    Q .non (upd H2 a (SetMO w a (fun j => S j || decide (j = k)) (if S k = true then n else n + 1)))
variable {o e : Expr} {to te : TE} {apos cpos : Pos}
theorem pe_saddM (ho : PE X o to) (he : PE X e te)
    (hbase : attributeBase o "add" X.env (eval o X.env) = eval o X.env := by rfl)
    (hfew : ((backTo cpos (starEach [e] X.env)).all (fun x => !x.1) && (backToKw cpos (keywordEach [] X.env)).all (fun x => x.1.isSome)
      && decide (([e] : List Expr).length + ([] : List Keyword).length + (if ([] : List Keyword).isEmpty then 0 else 1) < 30)) = true := by rfl)
    (hline : (apos.endLine == cpos.line) = true := by rfl) (hs : starEach [e] X.env = (false, eval e X.env) :: starEach [] X.env := by rfl) :
    PE X (.Call (.Attribute o "add" apos) [e] [] cpos) (tSAddM X.w to te) := by
  refine ⟨fun pins s σ H Q I h => ?_⟩
  refine wpAny_Call_method_late hbase hfew hline rfl (thn (ho.run pins s σ H _ I h) fun v s1 ⟨x, H1, I1, r1, ty, q1⟩ => ?_)
  obtain ⟨a, S, n, ex, hka⟩ := ty
  subst ex
  have m1 := setMO_get I1 hka
  obtain rfl : v = Value.ref a := r1
  have so : s1.heap.SetOf (mixKind X.prog X.w) a S n := m1.setOf
  refine ⟨"set", "set.add", PySem.F.plainAttrs_set, PySem.F.slot_set_add, PySem.F.type_set_add, so.typeIs, so.noDict, ?_⟩
  rw [hs]
  refine Calls.callWith_builtin (by rfl) (Calls.evalArgs_plain (Calls.spliced_cons (thn (he.run pins s1 σ H1 _ I1 q1) fun u s2 ⟨y, H2, I2, ry, q2⟩ => Calls.spliced_nil ?_)))
  obtain ⟨a2, k, S2, n2, ea, ey, hk2, room, q⟩ := q2
  obtain rfl : a = a2 := V.ref.inj ea
  subst ey
  refine call_addM (kV_is ry) (key_scan ry) (setMO_get I2 hk2) room fun h' sb new => ?_
  have there : ∃ o', h'.get? a = some o' := by
    have ⟨o', _, _, _, ho', _⟩ := new
    exact ⟨o', ho'⟩
  exact ⟨.non, upd H2 a (SetMO X.w a (fun j => S2 j || decide (j = k)) (if S2 k = true then n2 else n2 + 1)),
    I2.write (e := a) (t' := s2.toks + 1) (by rw [hk2]; trivial) (.inl rfl) (fun b u' hb hu => (sb.2 b hb).trans hu) there (setMO_new new), rfl, q⟩
/-- the order of texts -/
def leS (a b : Str) : Bool := decide (a.cps.toList ≤ b.cps.toList)
/-- sorted(found), the members texts -/
def rSortedM (w : World) : List V → Hp → VK → Prop := fun vs H Q => ∃ (a : Addr) (S : Key → Bool) (n : Nat), vs = [V.ref a] ∧ H a = some (SetMO w a S n) ∧
  (∀ k, S k = true → ∃ x, k = Sum.inr x) ∧ ∀ (ss : List Str) (p : Addr), ss.Nodup → (∀ x, x ∈ ss ↔ S (Sum.inr x) = true) → ss.length = n → H p = none →
    Q (.ref p) (upd H p (.lst ((ss.mergeSort leS).map V.str)))
theorem key_str {e : Int × Value} {w : World} (g : Fit w e) {x : Str} (hk : kOf e = Sum.inr x) : RelV (V.str x) e.2 := by
  obtain ⟨k0, h0, _⟩ := g
  have e0 := kOf_is h0
  rw [hk] at e0
  subst e0
  rcases keyIs_shape h0 with ⟨i, t, z, _⟩ | ⟨y, t, z, q⟩
  · cases z
  · cases z
    exact ⟨t, q⟩
theorem cr_sortedM {k : Nat} (hc : X.calm = true) (hr : Room k X.A) : CallR X (.builtin "sorted") (rSortedM X.w) := by
  intro pins s σ H vs us Q I r h
  obtain ⟨a, S, n, rfl, ha, ks, q⟩ := h
  obtain ⟨ob, es, ep, tb, ho, hex, hd, g, nd, hm, hb, hf, hn, hri, hl⟩ := setMO_get I ha
  rw [Vals.ref1 r]
  have hun := hr.un
  have hh : X.A.handled = none := I.ok.hd hc
  refine Calls.call_function_entry kind_sorted plain_sorted entry_sorted (args_sorted1 _) ?_
  unfold Builtin.«sorted»
  refine wpAny_bind (m := checkCount "sorted" 1 1 _) (wpAny_pure ?_)
  refine wpAny_bind (collect_set (A := X.A.in1) hh ⟨ob, ho, hex.1, hd⟩ hf hb hri hl fun s1 us1 k1 hz g1 o1 pm => ?_)
  -- the texts, in the order met
  have hv : ∀ u ∈ us1, ∃ x, RelV (V.str x) u ∧ S (Sum.inr x) = true := by
    intro u hu
    obtain ⟨e, he, z⟩ := List.mem_map.mp (pm.mem_iff.mp hu)
    have inS : S (kOf e) = true := (hm _).2 (List.mem_map.mpr ⟨e, he, rfl⟩)
    obtain ⟨x, hx⟩ := ks _ inS
    exact ⟨x, by rw [← z]; exact key_str (g e he) hx, by rw [← hx]; exact inS⟩
  let tx : Value → Str := fun u => match u with | .str x _ => x | _ => Str.empty
  have htx : ∀ {u : Value} {x : Str}, RelV (V.str x) u → tx u = x := by
    intro u x z
    obtain ⟨t, z⟩ := z
    rw [z]
  have each : ∀ l : List Value, (∀ u ∈ l, ∃ x, RelV (V.str x) u ∧ S (Sum.inr x) = true) → PySem.W.EachIs (fun u x => RelV (V.str x) u) l (l.map tx) := by
    intro l
    induction l with
    | nil => intro _; exact .nil
    | cons u l ih =>
      intro hl2
      obtain ⟨x, hx, _⟩ := hl2 u List.mem_cons_self
      exact .cons (by rw [htx hx]; exact hx) (ih fun v hv => hl2 v (List.mem_cons_of_mem _ hv))
  have e1 := each us1 hv
  have pk : ((us1.map tx).map Sum.inr).Perm (es.toList.map kOf) := by
    have z := pm.map (fun u => (Sum.inr (tx u) : Key))
    rw [List.map_map] at z
    rw [List.map_map]
    refine z.trans (List.Perm.of_eq ?_)
    refine List.map_congr_left fun e he => ?_
    obtain ⟨x, hx⟩ := ks _ ((hm _).2 (List.mem_map.mpr ⟨e, he, rfl⟩))
    show (Sum.inr (tx e.2) : Key) = kOf e
    rw [htx (key_str (g e he) hx), hx]
  have ndS : (us1.map tx).Nodup := by
    have z := pk.nodup_iff.mpr nd
    exact List.Pairwise.of_map _ (fun x y hxy e => hxy (congrArg Sum.inr e)) z
  have memS : ∀ x, x ∈ us1.map tx ↔ S (Sum.inr x) = true := by
    intro x
    rw [hm, ← pk.mem_iff]
    refine ⟨fun z => List.mem_map.mpr ⟨x, z, rfl⟩, fun z => ?_⟩
    obtain ⟨y, hy, e⟩ := List.mem_map.mp z
    cases e
    exact hy
  have lenS : (us1.map tx).length = n := by
    rw [List.length_map, pm.length_eq, List.length_map, Array.length_toList]; exact hn
  have few : us1.length ≤ sizeLine := by
    have z := lenS
    rw [List.length_map] at z
    rw [z, ← hn]
    exact fits_of_scanBound hb
  refine wpAny_bind (wpAny_newList ?_ few)
  have hoL : (s1.heap.push (seqObj "list" us1.toArray 0)).get? s1.heap.objs.size = some (seqObj "list" us1.toArray 0) := Heap.get?_push_size _ rfl
  have hbs : ((us1.map tx).map PyData.str).length = us1.length := by rw [List.length_map, List.length_map]
  refine wpAny_bind (wpAny_holding (PySem.W.list_sort_data (enc := PyData.str) (bs := us1.map tx) (R := fun u x => RelV (V.str x) u) hoL e1 ?_ ?_ ?_ (by rw [List.length_map]; exact few) ?_ fun out lo eo => ?_))
  · exact e1.mono fun u x ⟨t, z⟩ => ⟨[], by rw [z]; exact .str x t, by simp⟩
  · intro d hd' d' hd''
    obtain ⟨x, _, rfl⟩ := List.mem_map.mp hd'
    obtain ⟨y, _, rfl⟩ := List.mem_map.mp hd''
    rfl
  · refine .inr fun d hd' => ?_
    obtain ⟨x, _, rfl⟩ := List.mem_map.mp hd'
    exact ⟨fun z => PyData.noConfusion z, fun xs z => PyData.noConfusion z⟩
  · intro b hb'
    show X.A.units + 1 + 1 + 0 < cLine
    omega
  · obtain ⟨c, hc'⟩ := sortedHeap_at (vs := us1) (out := out.toArray) hoL
    have kp : ∀ b u, s.heap.get? b = some u → (PyProof.Rows.sortedHeap (s1.heap.push (seqObj "list" us1.toArray 0)) s1.heap.objs.size us1 out.toArray).get? b = some u := by
      intro b u e
      have z := k1 b u e
      have hlt := Heap.lt_size z
      rw [sortedHeap_old (Nat.ne_of_lt hlt) (by rw [size_push']; exact Nat.lt_succ_of_lt hlt)]
      exact Heap.get?_push_of_some _ z
    have eS : (PySem.W.dataLe false PyData.str : Str → Str → Bool) = leS := PySem.W.dataLe_str (fun x => x)
    rw [eS] at eo
    have fr : H s1.heap.objs.size = none := I.hok.fresh hz
    have rv : Vals ((((us1.map tx).mergeSort leS)).map V.str) out := VA.vals_each V.str eo
    have lim : ((((us1.map tx).mergeSort leS)).map V.str).length ≤ sizeLine := by
      rw [List.length_map, List.length_mergeSort, List.length_map]; exact few
    have J : Inv X pins σ (upd H s1.heap.objs.size (.lst (((us1.map tx).mergeSort leS).map V.str)))
        { s with heap := PyProof.Rows.sortedHeap (s1.heap.push (seqObj "list" us1.toArray 0)) s1.heap.objs.size us1 out.toArray, gens := s1.gens, drawn := s1.drawn, toks := s1.toks } :=
      I.call (ch := []) (Un.laid kp hz fr) (I.hok.laid kp hz ⟨lim, out, c, rv, hc'⟩) (by rw [g1]; exact I.bare) (fun _ z => nomatch z)
    have es' : ({ s1 with heap := PyProof.Rows.sortedHeap (s1.heap.push (seqObj "list" us1.toArray 0)) s1.heap.objs.size us1 out.toArray } : Shared) =
        { s with heap := PyProof.Rows.sortedHeap (s1.heap.push (seqObj "list" us1.toArray 0)) s1.heap.objs.size us1 out.toArray, gens := s1.gens, drawn := s1.drawn, toks := s1.toks } := by
      rw [← o1]
    refine wpAny_pure ⟨_, rfl, ?_⟩
    rw [es']
    exact ⟨.ref _, _, J, rfl, q (us1.map tx) _ ndS memS lenS fr⟩
end
end VS

set_option Elab.async false
set_option linter.all false
set_option maxRecDepth 100000
set_option maxHeartbeats 4000000
namespace VB
open PySem PySem.Spec PyProof.Rows L2 LamX NdefX
/-! a def of the text under its name -/
abbrev FnP (K : PySem.W.Frag) (x : Str) (st : Stmt) (f : Addr) (fd : FuncData) : Prop := FunD K x x (defArgs st) (defBody st) (defScope st) [] [] f fd
def Df (K : PySem.W.Frag) (mg : Str → Option Value) (x : Str) (st : Stmt) : Prop := ∃ (f : Addr) (fd : FuncData), FnP K x st f fd ∧ mg x = some (.ref f)
abbrev BindOk (x : Str) (st : Stmt) (ps : List Str) : Prop := ∀ (kV doc pm : Value) (an : Option Addr) (cdv ct : Value) (us : List Value), us.length = ps.length →
  bindArgs (PySem.W.fnOf x x (defArgs st) (defBody st) (defScope st) .none kV doc pm an cdv ct) ⟨us, []⟩ = pure (ps.zip us)
section
variable {P : Program} {w : World} {K : PySem.W.Frag} {mg : Str → Option Value} {base : Heap}
theorem Df.cal {x : Str} {st : Stmt} {N ps : List Str} {k : Nat} {sp : Sp} (D : Df K mg x st) (S : FnScope N ps (defScope st)) (hb : BindOk x st ps)
    (len : ∀ vs H Q E, sp vs H Q E → vs.length = ps.length)
    (hbody : ∀ (f : Addr) (cdv : Value) (A : Around) (outer : List Env) (s : Shared) (H : Hp) (vs : List V) (Q : VK) (E : XK),
      Room k (A.deeper (envOfC x (defScope st) s.heap.objs.size f cdv)) → sp vs H Q E →
      ∃ t, PSs (cxOf CX0 P w K mg base N x (defScope st) f cdv A outer s H E).nox (defBody st) t ∧ t { nx := fun _ H' => Q .non H', rt := Q } (start N vs) H) :
    C8.Cal P w K mg base (k + 1) x sp [] := by
  obtain ⟨f, fd, F, hm⟩ := D
  refine ⟨f, fd, ps, [], F.ok S len (fun cdv A outer s H vs Q E hr h => ?_), hm, F.kp, F.bindsN hb, .nil⟩
  obtain ⟨t, a, b⟩ := hbody f cdv A outer s H vs Q E hr h
  exact ⟨t, a.nox, b⟩
theorem calMono {x : Str} {j k : Nat} {sp : Sp} {dvs : List V} (c : C8.Cal P w K mg base j x sp dvs) (h : j ≤ k) : C8.Cal P w K mg base k x sp dvs := by
  obtain ⟨f, fd, ps, ds, F, r⟩ := c.ex
  exact ⟨f, fd, ps, ds, F.mono h, r⟩
theorem calImp {x : Str} {k : Nat} {sp sp' : Sp} {dvs : List V} (c : C8.Cal P w K mg base k x sp dvs) (h : ∀ vs H Q E, sp' vs H Q E → sp vs H Q E) : C8.Cal P w K mg base k x sp' dvs := by
  obtain ⟨f, fd, ps, ds, F, r⟩ := c.ex
  exact ⟨f, fd, ps, ds, F.imp h, r⟩
end
/-! heaps -/
/-- all but the object at a is as it was -/
def But (a : Addr) (H H' : Hp) : Prop := ∀ b o, b ≠ a → H b = some o → H' b = some o
/-- tuples and what is locked stay -/
structure Kp (H H' : Hp) : Prop where
  tup : ∀ b xs, H b = some (.tup xs) → H' b = some (.tup xs)
  frz : ∀ b o u, H b = some (.frz o u) → H' b = some (.frz o u)
theorem But.refl (a : Addr) (H : Hp) : But a H H := fun _ _ _ h => h
theorem But.trans {a : Addr} {H H1 H2 : Hp} (x : But a H H1) (y : But a H1 H2) : But a H H2 := fun b o n h => y b o n (x b o n h)
theorem But.of {a : Addr} {H H' : Hp} (x : Same H H') : But a H H' := fun b o _ h => x b o h
theorem But.upd {a : Addr} {H : Hp} (o : HO) : But a H (upd H a o) := fun b u n h => by rw [upd_ne n]; exact h
theorem same_upd {H : Hp} {p : Addr} (h : H p = none) (o : HO) : Same H (upd H p o) := fun b u q => by rw [upd_ne (ne_of_none q h)]; exact q
theorem Kp.refl (H : Hp) : Kp H H := ⟨fun _ _ h => h, fun _ _ _ h => h⟩
theorem Kp.trans {H H1 H2 : Hp} (x : Kp H H1) (y : Kp H1 H2) : Kp H H2 := ⟨fun b xs h => y.tup b xs (x.tup b xs h), fun b o u h => y.frz b o u (x.frz b o u h)⟩
theorem Kp.of {H H' : Hp} (x : Same H H') : Kp H H' := ⟨fun b xs h => x b _ h, fun b o u h => x b _ h⟩
theorem Kp.ofExtN {H H' : Hp} (x : ExtN H H') : Kp H H' := ⟨fun b xs h => x b _ h (fun ps z => by cases z), fun b o u h => x b _ h (fun ps z => by cases z)⟩
theorem Kp.ofBut {a : Addr} {H H' : Hp} {ys : List V} (x : But a H H') (h : H a = some (.lst ys)) : Kp H H' :=
  ⟨fun b xs q => x b _ (ne_of q h (by intro z; cases z)) q, fun b o u q => x b _ (ne_of q h (by intro z; cases z)) q⟩
theorem Kp.updL {H : Hp} {a : Addr} {ys : List V} (h : H a = some (.lst ys)) (o : HO) : Kp H (upd H a o) := Kp.ofBut (But.upd o) h
theorem Kp.updE {H : Hp} {a : Addr} {φ : Heap → Prop} (h : H a = some (.ext φ)) (o : HO) : Kp H (upd H a o) :=
  ⟨fun b xs q => by rw [upd_ne (ne_of q h (by intro z; cases z))]; exact q, fun b u v q => by rw [upd_ne (ne_of q h (by intro z; cases z))]; exact q⟩
theorem Kp.updN {H : Hp} {a : Addr} (h : H a = none) (o : HO) : Kp H (upd H a o) := Kp.of (same_upd h o)
theorem Kp.sqT {K : PySem.W.Frag} {H H' : Hp} {a : Addr} {xs : List V} (x : Kp H H') (h : SqT K H a xs) : SqT K H' a xs := by
  rcases h with (h | ⟨o, h⟩) | h
  · exact .inl (.inl (x.tup _ _ h))
  · exact .inl (.inr ⟨o, x.frz _ _ _ h⟩)
  · exact .inr h
theorem Same.sqT {K : PySem.W.Frag} {H H' : Hp} {a : Addr} {xs : List V} (x : Same H H') (h : SqT K H a xs) : SqT K H' a xs := (Kp.of x).sqT h
theorem same_none {H H' : Hp} (x : Same H H') {b : Addr} (h : H' b = none) : H b = none := x.free h
theorem But.none {a b : Addr} {H H' : Hp} (x : But a H H') (n : b ≠ a) (h : H' b = Option.none) : H b = Option.none := by
  cases q : H b with
  | none => rfl
  | some o => rw [x b o n q] at h; cases h
/-! data of tuples alone -/
mutual
def flatD : PyData → Bool
  | .none => true
  | .bool _ => true
  | .int _ => true
  | .str _ => true
  | .tuple xs => flatAll xs
  | _ => false
def flatAll : List PyData → Bool
  | [] => true
  | x :: xs => flatD x && flatAll xs
end
mutual
theorem Dp.kp {K : PySem.W.Frag} {H H' : Hp} (x : Kp H H') : ∀ (d : PyData) (v : V), flatD d = true → Dp K H v d → Dp K H' v d
  | .none, _, _, h => by cases h; exact .non
  | .bool _, _, _, h => by cases h; exact .bl _
  | .int _, _, _, h => by cases h; exact .int _
  | .str _, _, _, h => by cases h; exact .str _
  | .tuple ds, _, hf, h => by
    cases h with
    | tup h1 h2 => exact .tup (x.sqT h1) (DpAll.kp x ds _ (by simpa only [flatD] using hf) h2)
theorem DpAll.kp {K : PySem.W.Frag} {H H' : Hp} (x : Kp H H') : ∀ (ds : List PyData) (vs : List V), flatAll ds = true → DpAll K H vs ds → DpAll K H' vs ds
  | [], _, _, h => by cases h; exact .nil
  | d :: ds, _, hf, h => by
    cases h with
    | cons h1 h2 =>
      simp only [flatAll, Bool.and_eq_true] at hf
      exact .cons (Dp.kp x d _ hf.1 h1) (DpAll.kp x ds _ hf.2 h2)
end
theorem DpAll.len {K : PySem.W.Frag} {H : Hp} : ∀ {vs : List V} {ds : List PyData}, DpAll K H vs ds → vs.length = ds.length
  | _, _, .nil => rfl
  | _, _, .cons _ t => congrArg Nat.succ (DpAll.len t)
theorem DpAll.get {K : PySem.W.Frag} {H : Hp} : ∀ {vs : List V} {ds : List PyData}, DpAll K H vs ds → ∀ {i : Nat} {d : PyData}, ds[i]? = some d → ∃ v, vs[i]? = some v ∧ Dp K H v d
  | _, _, .nil, i, d, e => by simp at e
  | _, _, .cons (v := v) h t, 0, d, e => by simp at e; subst e; exact ⟨v, rfl, h⟩
  | _, _, .cons h t, i + 1, d, e => by
    obtain ⟨v, h1, h2⟩ := DpAll.get t (i := i) (d := d) (by simpa using e)
    exact ⟨v, by simpa using h1, h2⟩
/-! .. and any list, where all that was tracked stays -/
mutual
theorem Dp.same {K : PySem.W.Frag} {H H' : Hp} (x : Same H H') : ∀ (d : PyData) (v : V), Dp K H v d → Dp K H' v d
  | .none, _, h => by cases h; exact .non
  | .bool _, _, h => by cases h; exact .bl _
  | .int _, _, h => by cases h; exact .int _
  | .str _, _, h => by cases h; exact .str _
  | .tuple ds, _, h => by
    cases h with
    | tup h1 h2 => exact .tup (Same.sqT x h1) (DpAll.same x ds _ h2)
  | .list ds, _, h => by
    cases h with
    | lst h1 h2 => exact .lst (x.seq h1) (DpAll.same x ds _ h2)
theorem DpAll.same {K : PySem.W.Frag} {H H' : Hp} (x : Same H H') : ∀ (ds : List PyData) (vs : List V), DpAll K H vs ds → DpAll K H' vs ds
  | [], _, h => by cases h; exact .nil
  | d :: ds, _, h => by
    cases h with
    | cons h1 h2 => exact .cons (Dp.same x d _ h1) (DpAll.same x ds _ h2)
end
theorem dpAll_strs {K : PySem.W.Frag} {H : Hp} : ∀ ss : List Str, DpAll K H (ss.map V.str) (ss.map PyData.str)
  | [] => .nil
  | s :: ss => .cons (.str s) (dpAll_strs ss)
/-- the order of texts has one sorted list -/
theorem leS_total (a b : Str) : (VS.leS a b || VS.leS b a) = true := by
  unfold VS.leS
  rw [Bool.or_eq_true, decide_eq_true_eq, decide_eq_true_eq]
  exact List.le_total _ _
theorem leS_trans (a b c : Str) (h1 : VS.leS a b = true) (h2 : VS.leS b c = true) : VS.leS a c = true := by
  unfold VS.leS at *
  rw [decide_eq_true_eq] at *
  exact List.le_trans h1 h2
theorem leS_anti {a b : Str} (h1 : VS.leS a b = true) (h2 : VS.leS b a = true) : a = b := by
  unfold VS.leS at *
  rw [decide_eq_true_eq] at *
  exact PyProof.Rows.ext_toList (List.le_antisymm h1 h2)
theorem sort_perm {xs ys : List Str} (h : xs.Perm ys) : xs.mergeSort VS.leS = ys.mergeSort VS.leS := by
  have h1 := List.pairwise_mergeSort (le := VS.leS) leS_trans leS_total xs
  have h2 := List.pairwise_mergeSort (le := VS.leS) leS_trans leS_total ys
  have p : (xs.mergeSort VS.leS).Perm (ys.mergeSort VS.leS) := (List.mergeSort_perm xs _).trans (h.trans (List.mergeSort_perm ys _).symm)
  exact p.eq_of_pairwise (fun a b _ _ x y => leS_anti x y) h1 h2
theorem sort_mem {xs ys : List Str} (n1 : xs.Nodup) (n2 : ys.Nodup) (h : ∀ x, x ∈ xs ↔ x ∈ ys) : xs.mergeSort VS.leS = ys.mergeSort VS.leS :=
  sort_perm ((List.perm_ext_iff_of_nodup n1 n2).mpr h)
end VB

set_option Elab.async false
set_option linter.all false
set_option maxRecDepth 100000
set_option maxHeartbeats 4000000
namespace VK
open PySem PySem.Spec PyProof.Rows L2 LamX NdefX VB
/-! rules told with the written part by its name (within a comprehension's block the context has names of its own) -/
section
variable {X : Cx} {K : PySem.W.Frag} (h : X.K = K)
include h
theorem ixL : IxR X (rIxL K) := by subst h; exact ix_list
theorem ixT : IxR X (rIxT K) := by subst h; exact ix_tup
theorem ixQ : IxR X (rIx K) := by subst h; exact ix_seq
theorem slL : SlR X (rSlL K) := by subst h; exact sl_list
theorem slT : SlR X (rSlT K) := by subst h; exact sl_tup
theorem catT : OpR X (binaryOp .Add) (rCatT K) := by subst h; exact op_catT
theorem inQ : OpR X (compareOp .In) (rIn K false) := by subst h; exact op_in_seq
theorem notInQ : OpR X (compareOp .NotIn) (rIn K true) := by subst h; exact op_notIn_seq
theorem eqD (hu : X.A.units + 64 < cLine) : OpR X (compareOp .Eq) (rEqD K) := by subst h; exact op_eqD hu
theorem neD (hu : X.A.units + 64 < cLine) : OpR X (compareOp .NotEq) (rNeD K) := by subst h; exact op_neD hu
theorem maxL (hc : X.calm = true) : CallR X (.builtin "max") (rMax K) := by subst h; exact cr_max hc
theorem allL (hc : X.calm = true) : CallR X (.builtin "all") (rAll K) := by subst h; exact cr_all hc
theorem isi : CallR X (.builtin "isinstance") (rIsi K) := by subst h; exact call_isi
end
def rLenQ (K : PySem.W.Frag) : List V → Hp → VK → Prop := fun xs H Q => ∃ p ys, xs = [.ref p] ∧ (SqL K H p ys ∨ SqT K H p ys) ∧ Q (.int ys.length) H
def rListQ (K : PySem.W.Frag) : List V → Hp → VK → Prop := fun xs H Q => ∃ p ys, xs = [.ref p] ∧ (SqL K H p ys ∨ SqT K H p ys) ∧ ∀ l, H l = none → Q (.ref l) (upd H l (.lst ys))
def rTupQ (K : PySem.W.Frag) : List V → Hp → VK → Prop := fun xs H Q => ∃ p ys, xs = [.ref p] ∧ ((SqL K H p ys ∧ ∀ l, H l = none → Q (.ref l) (upd H l (.tup ys))) ∨ (SqT K H p ys ∧ Q (.ref p) H))
section
variable {X : Cx} {K : PySem.W.Frag} (h : X.K = K)
include h
theorem lenQ : CallR X (.builtin "len") (rLenQ K) := by subst h; exact call_len_seq
theorem listQ : CallR X (.type "list") (rListQ K) := by subst h; exact call_list_of
theorem tupQ : CallR X (.type "tuple") (rTupQ K) := by subst h; exact call_tuple_of
end
end VK
namespace VK
open PySem PySem.Spec PyProof.Rows L2 LamX NdefX VB
/-- sorted of texts, any number of them -/
def rSortS (K : PySem.W.Frag) : List V → Hp → VK → Prop := fun vs H Q => ∃ (a : Addr) (ss : List Str), vs = [V.ref a] ∧ SqL K H a (ss.map V.str) ∧
  ∀ p : Addr, H p = none → Q (.ref p) (upd H p (.lst ((ss.mergeSort VS.leS).map V.str)))
theorem sortedS {X : Cx} {K : PySem.W.Frag} (h : X.K = K) {k : Nat} (hr : Room k X.A) : CallR X (.builtin "sorted") (rSortS K) := by
  subst h
  intro pins s σ H vs us Q I r hh
  obtain ⟨a, ss, rfl, hs, q⟩ := hh
  have eS : (PySem.W.dataLe false PyData.str : Str → Str → Bool) = VS.leS := PySem.W.dataLe_str (fun x => x)
  refine VA.cr_sortedB V.str PyData.str hr pins s σ H [V.ref a] us Q I r ⟨a, ss, rfl, hs, fun b _ => .str b, ?_, ?_, ?_, fun p np => ?_⟩
  · intro d hd d' hd'
    obtain ⟨x, _, rfl⟩ := List.mem_map.mp hd
    obtain ⟨y, _, rfl⟩ := List.mem_map.mp hd'
    rfl
  · refine .inr fun d hd => ?_
    obtain ⟨x, _, rfl⟩ := List.mem_map.mp hd
    exact ⟨fun z => PyData.noConfusion z, fun xs z => PyData.noConfusion z⟩
  · intro b _
    show (0 : Nat) ≤ 8
    decide
  · rw [eS]
    exact q p np
end VK
namespace VK
open PySem PySem.Spec PyProof.Rows L2 LamX NdefX VB
/-! sets, told with the world by its name -/
section
variable {X : Cx} {w : World} (h : X.w = w)
include h
theorem set0M : CallR X (.type "set") (VS.rSet0M w) := by subst h; exact VS.cr_set0M
theorem sortedM {k : Nat} (hc : X.calm = true) (hr : Room k X.A) : CallR X (.builtin "sorted") (VS.rSortedM w) := by subst h; exact VS.cr_sortedM hc hr
theorem saddM {o e : Expr} {to te : TE} {apos cpos : Pos} (ho : PE X o to) (he : PE X e te)
    (hbase : attributeBase o "add" X.env (eval o X.env) = eval o X.env := by rfl)
    (hfew : ((backTo cpos (starEach [e] X.env)).all (fun x => !x.1) && (backToKw cpos (keywordEach [] X.env)).all (fun x => x.1.isSome)
      && decide (([e] : List Expr).length + ([] : List Keyword).length + (if ([] : List Keyword).isEmpty then 0 else 1) < 30)) = true := by rfl)
    (hline : (apos.endLine == cpos.line) = true := by rfl) (hs : starEach [e] X.env = (false, eval e X.env) :: starEach [] X.env := by rfl) :
    PE X (.Call (.Attribute o "add" apos) [e] [] cpos) (VS.tSAddM w to te) := by subst h; exact VS.pe_saddM ho he hbase hfew hline hs
end
end VK

set_option Elab.async false
set_option linter.all false
set_option maxRecDepth 100000
set_option maxHeartbeats 4000000
namespace VT
open PySem PySem.Spec PyProof.Rows L2
/-! tables of a set up to 2048 slots: what the library says of three masks, said of five. All that speaks of no mask is the library's. -/
/-- the masks up to 1,228 members -/
def Msk (m : Nat) : Prop := m ∈ [7, 31, 127, 511, 2047]
theorem Msk.cases {m : Nat} (h : Msk m) : m = 7 ∨ m = 31 ∨ m = 127 ∨ m = 511 ∨ m = 2047 := by
  unfold Msk at h
  simpa using h
/-- the numbers of a round, as the bits of one number -/
def marks (m : Nat) : Nat → Nat → Nat → Nat
  | 0, _, acc => acc
  | n + 1, i, acc => marks m n ((i * 5 + 1) % (m + 1)) (acc ||| 2 ^ i)
theorem marks_bit (m j : Nat) : ∀ n a acc, (marks m n (lcgN m a) acc).testBit j = true → acc.testBit j = true ∨ ∃ b, b < a + n ∧ lcgN m b = j
  | 0, _, _, z => .inl z
  | n + 1, a, acc, z => by
    rcases marks_bit m j n (a + 1) (acc ||| 2 ^ lcgN m a) z with y | ⟨b, hb, e⟩
    · rw [Nat.testBit_or, Bool.or_eq_true, Nat.testBit_two_pow, decide_eq_true_eq] at y
      exact y.imp_right fun e => ⟨a, by omega, e⟩
    · exact .inr ⟨b, by omega, e⟩
theorem round_full {m : Nat} (h : Msk m) : marks m (m + 1) 0 0 = 2 ^ (m + 1) - 1 ∧ lcgN m (m + 1) = 0 := by
  rcases h.cases with e | e | e | e | e <;> subst e <;> constructor <;> decide +kernel
theorem met_all {m : Nat} (h : Msk m) {j : Nat} (hj : j ≤ m) : ∃ b, b < m + 1 ∧ lcgN m b = j := by
  have z : (marks m (m + 1) (lcgN m 0) 0).testBit j = true := by
    show (marks m (m + 1) 0 0).testBit j = true
    rw [(round_full h).1, Nat.testBit_two_pow_sub_one]
    exact decide_eq_true (Nat.lt_succ_of_le hj)
  rcases marks_bit m j _ _ _ z with y | ⟨b, hb, e⟩
  · rw [Nat.zero_testBit] at y
    cases y
  · exact ⟨b, by omega, e⟩
theorem round_on {m : Nat} (h : Msk m) (k : Nat) : lcgN m (k + (m + 1)) = lcgN m k := by
  induction k with
  | zero => rw [Nat.zero_add]; exact (round_full h).2
  | succ k ih =>
    have e : k + 1 + (m + 1) = (k + (m + 1)) + 1 := by omega
    rw [e]
    unfold lcgN
    rw [ih]
theorem round_from {m : Nat} (h : Msk m) {i j : Nat} (hi : i ≤ m) (hj : j ≤ m) : ∃ k, k < m + 1 ∧ lcgI m i k = j := by
  obtain ⟨a, la, rfl⟩ := met_all h hi
  obtain ⟨b, lb, rfl⟩ := met_all h hj
  by_cases c : a ≤ b
  · exact ⟨b - a, by omega, by rw [lcgN_add, show a + (b - a) = b by omega]⟩
  · exact ⟨b + (m + 1) - a, by omega, by rw [lcgN_add, show a + (b + (m + 1) - a) = b + (m + 1) by omega, round_on h]⟩
/-- where a hash begins -/
abbrev home (m : Nat) (h : Int) : Nat := SetTable.bits h % (m + 1)
theorem way_in (m : Nat) (h : Int) (k : Nat) : way m h k ≤ m := by
  have l : home m h ≤ m := Nat.le_of_lt_succ (Nat.mod_lt _ (Nat.succ_pos _))
  obtain ⟨r1, r2, _⟩ := runEnd_bd l
  have q := nth_in (m := m) k (runAt m (home m h) (SetTable.bits h)) (by show home m h + (SetTable.runEnd m (home m h) - home m h) ≤ m; omega)
  exact Nat.le_trans (Nat.le_add_right _ _) q
/-- the place of the n-th run -/
theorem way_run {m : Nat} (H : Msk m) (h : Int) {j : Nat} (hj : j ≤ m) : ∃ n, n < m + 13 ∧ runI m (SetTable.bits h) n = j := by
  obtain ⟨k, l, e⟩ := round_from H (runI_le m (SetTable.bits h) 12) hj
  exact ⟨12 + k, by omega, (runI_tail (bits_lt h) k).trans e⟩
theorem way_meets {m : Nat} (H : Msk m) (h : Int) {j : Nat} (hj : j ≤ m) : ∃ k, k < 10 * SetTable.turns m ∧ way m h k = j := by
  obtain ⟨n, l, e⟩ := way_run H h hj
  obtain ⟨k, l2, e2⟩ := run_nth m (SetTable.bits h) n
  have ek : way m h k = j := by
    show (nth m _ k).j = j
    rw [e2]
    exact e
  refine ⟨k, ?_, ek⟩
  show k < 10 * (m + 15)
  omega
/-- a table in which each hash finds its own place -/
structure Tbl (t : SetTable) (hs : List Int) : Prop where
  ris : Ris t.place.toList
  dm : t.dummies = #[]
  sz : t.place.size = hs.length
  mok : Msk t.mask
  bd : ∀ y, y ∈ t.place.toList → y ≤ t.mask
  reach : ∀ (i : Nat) (g : Int) (y : Nat), hs[i]? = some g → t.place.toList[i]? = some y → ∃ c, way t.mask g c = y ∧ ∀ d, d < c → way t.mask g d ∈ t.place.toList
theorem msk_odd {m : Nat} (h : Msk m) : m % 2 = 1 := by
  rcases h.cases with e | e | e | e | e <;> rw [e]
theorem msk_le {m : Nat} (h : Msk m) : m ≤ 2047 := by
  rcases h.cases with e | e | e | e | e <;> rw [e] <;> decide
theorem Tbl.first {t : SetTable} {hs : List Int} (T : Tbl t hs) (hl : hs.length ≤ t.mask) (h : Int) : ∃ c, c < 10 * SetTable.turns t.mask ∧ way t.mask h c ∉ t.place.toList ∧ ∀ d, d < c → way t.mask h d ∈ t.place.toList := by
  obtain ⟨j, lj, nj⟩ := st_missing t.place.toList (t.mask + 1) (by rw [Array.length_toList, T.sz]; exact Nat.lt_succ_of_le hl)
  obtain ⟨k, lk, ek⟩ := way_meets T.mok h (Nat.le_of_lt_succ lj)
  obtain ⟨c, c1, c2, c3⟩ := st_least (p := fun d => way t.mask h d ∉ t.place.toList) k (by rw [← ek] at nj; exact nj)
  exact ⟨c, Nat.lt_of_le_of_lt c1 lk, c2, fun d ld => Classical.byContradiction (c3 d ld)⟩
theorem Tbl.before {t : SetTable} {hs : List Int} (T : Tbl t hs) {h : Int} {K i j : Nat} (free : way t.mask h K ∉ t.place.toList) (eh : hs[i]? = some h) (ej : t.place.toList[i]? = some j) : ∃ c, c < K ∧ way t.mask h c = j := by
  obtain ⟨c, ec, occ⟩ := T.reach i h j eh ej
  refine ⟨c, Nat.lt_of_not_le fun z => free ?_, ec⟩
  rcases Nat.eq_or_lt_of_le z with y | y
  · rw [y, ec]
    exact List.mem_of_getElem? ej
  · exact occ K y
/-- a hash more, at the first free place of its way -/
theorem Tbl.put {t : SetTable} {hs : List Int} (T : Tbl t hs) {h : Int} {K : Nat} (free : way t.mask h K ∉ t.place.toList) (occ : ∀ d, d < K → way t.mask h d ∈ t.place.toList) {j at_ : Nat} (ej : j = way t.mask h K) (eat : at_ = SetTable.below t.place j) :
    (t.put j).2 = at_ ∧ at_ ≤ hs.length ∧ Tbl (t.put j).1 (hs.take at_ ++ h :: hs.drop at_) ∧ (t.put j).1.mask = t.mask ∧ (t.put j).1.led = t.led ∧ (t.put j).1.plain = t.plain ∧ (t.put j).1.moves = t.moves ∧ (t.put j).1.finger = t.finger ∧ (t.put j).1.fill = hs.length + 1 := by
  have lat : at_ ≤ hs.length := by
    rw [eat, ← T.sz]
    exact (below_cut T.ris j).1
  have lpl : t.place.toList.length = hs.length := by rw [Array.length_toList, T.sz]
  have rows : (t.put j).1.place.toList = t.place.toList.take at_ ++ j :: t.place.toList.drop at_ := by
    rw [put_place, eat]
  have nDm := put_dm T.dm j
  have more : (t.put j).1.place.size = hs.length + 1 := by
    rw [← Array.length_toList, rows, len_ins _ (by omega), lpl]
  have keep : ∀ {y : Nat}, y ∈ t.place.toList → y ∈ (t.put j).1.place.toList := fun z => by
    rw [rows]
    exact mem_ins.2 (.inr z)
  have ris' : Ris (t.put j).1.place.toList := ris_insert T.ris fun z => free (by
    rw [← ej]
    exact List.mem_of_getElem? (by rw [Array.getElem?_toList]; exact z))
  refine ⟨eat.symm, lat, ⟨ris', nDm, (by rw [len_ins _ lat]; exact more), T.mok, fun y hy => ?_, fun i g y e1 e2 => ?_⟩, rfl, rfl, rfl, rfl, rfl, ?_⟩
  · rw [rows] at hy
    rcases mem_ins.1 hy with rfl | z
    · rw [ej]; exact way_in ..
    · exact T.bd y z
  · show ∃ c, way t.mask g c = y ∧ ∀ d, d < c → way t.mask g d ∈ (t.put j).1.place.toList
    rw [tins_get hs lat] at e1
    rw [rows, tins_get _ (by omega)] at e2
    have old : ∀ i', hs[i']? = some g → t.place.toList[i']? = some y → ∃ c, way t.mask g c = y ∧ ∀ d, d < c → way t.mask g d ∈ (t.put j).1.place.toList := fun i' x1 x2 => by
      obtain ⟨c, c1, c2⟩ := T.reach i' g y x1 x2
      exact ⟨c, c1, fun d ld => keep (c2 d ld)⟩
    rcases Nat.lt_trichotomy i at_ with c | c | c
    · rw [if_pos c] at e1 e2
      exact old i e1 e2
    · rw [if_neg (by omega), if_pos c] at e1 e2
      cases e1
      cases e2
      exact ⟨K, ej.symm, fun d ld => keep (occ d ld)⟩
    · rw [if_neg (by omega), if_neg (by omega)] at e1 e2
      exact old (i - 1) e1 e2
  · show (t.put j).1.place.size + (t.put j).1.dummies.size = _
    rw [more, nDm] <;> rfl
/-! all hashes laid anew -/
abbrev fr (m : Nat) (owner : Array (Option Nat)) (h : Int) : Option Nat := SetTable.layClean.free m owner (SetTable.turns m) (home m h) (SetTable.bits h)
theorem fr_some {m : Nat} (H : Msk m) (owner : Array (Option Nat)) (h : Int) {j : Nat} (hj : j ≤ m) (e : oAt owner j = none) :
    ∃ c, fr m owner h = some (way m h c) ∧ oAt owner (way m h c) = none ∧ ∀ d, d < c → (oAt owner (way m h d)).isNone = false := by
  obtain ⟨n, ln, en⟩ := way_run H h hj
  have ew : way m h (off m (home m h) (SetTable.bits h) n) = j := by
    show SetTable.Probe.j (nth m _ _) = j
    rw [nth_off, itL_run]
    exact en
  obtain ⟨c, c1, c2, c3⟩ := st_least (p := fun d => oAt owner (way m h d) = none) (off m (home m h) (SetTable.bits h) n) (by rw [ew]; exact e)
  have occ : ∀ d, d < c → (oAt owner (way m h d)).isNone = false := fun d ld => by
    have q := c3 d ld
    revert q
    cases oAt owner (way m h d) <;> intro q
    · exact absurd rfl q
    · rfl
  exact ⟨c, free_spec m owner _ n _ _ c (by show n < m + 15; omega) c1 occ (by rw [c2]; rfl), c2, occ⟩
theorem own_more {m : Nat} (H : Msk m) {ds : List Int} {owner : Array (Option Nat)} (W : Own m ds owner) (few : ds.length ≤ m) (h : Int) :
    ∃ j, fr m owner h = some j ∧ Own m (ds ++ [h]) (owner.setIfInBounds j (some ds.length)) := by
  obtain ⟨ps, lps, allp⟩ := W.ps
  obtain ⟨j0, l0, n0⟩ := st_missing ps (m + 1) (by omega)
  have e0 : oAt owner j0 = none := Classical.byContradiction fun z => n0 (allp j0 (Nat.le_of_lt_succ l0) z)
  obtain ⟨c, f1, f2, f3⟩ := fr_some H owner h (Nat.le_of_lt_succ l0) e0
  have inm := way_in m h c
  have ins : way m h c < owner.size := by rw [W.sz]; omega
  refine ⟨way m h c, f1, ?_⟩
  have here := oAt_set_self (some ds.length) ins
  revert f2 inm ins here f3
  generalize ew : way m h c = j
  intro f2 f3 inm ins here
  have stay : ∀ i, oAt owner i ≠ none → oAt (owner.setIfInBounds j (some ds.length)) i ≠ none := fun i z => by
    by_cases e : i = j
    · rw [e, here]; exact Option.some_ne_none _
    · rw [oAt_set_ne _ e]; exact z
  constructor
  · rw [Array.size_setIfInBounds]; exact W.sz
  · intro i k li ei
    by_cases e : i = j
    · rw [e, here] at ei
      cases ei
      refine ⟨h, c, ?_, ew.trans e.symm, fun d ld => stay _ fun z => ?_⟩
      · rw [List.getElem?_concat_length]
      · have y := f3 d ld
        rw [z] at y
        cases y
    · rw [oAt_set_ne _ e] at ei
      obtain ⟨g, d, x1, x2, x3⟩ := W.at_ i k li ei
      exact ⟨g, d, (by rw [List.getElem?_append_left (List.getElem?_eq_some_iff.mp x1).1]; exact x1), x2, fun b lb => stay _ (x3 b lb)⟩
  · intro k lk
    rw [List.length_append, List.length_singleton] at lk
    by_cases e : k = ds.length
    · exact ⟨j, inm, by rw [here, e]⟩
    · obtain ⟨i, li, ei⟩ := W.all k (by omega)
      exact ⟨i, li, by rw [oAt_set_ne _ fun z => by rw [z, f2] at ei; cases ei]; exact ei⟩
  · refine ⟨j :: ps, by rw [List.length_cons, List.length_append, lps] <;> rfl, fun i li z => ?_⟩
    by_cases e : i = j
    · rw [e]; exact List.mem_cons_self
    · rw [oAt_set_ne _ e] at z
      exact List.mem_cons_of_mem _ (allp i li z)
theorem own_all {m : Nat} (H : Msk m) : ∀ (rest ds : List Int) (owner : Array (Option Nat)), Own m ds owner → ds.length + rest.length ≤ m →
    ∃ o2, rest.foldl (stepF m) (some (owner, ds.length)) = some (o2, (ds ++ rest).length) ∧ Own m (ds ++ rest) o2 := by
  intro rest
  induction rest with
  | nil => intro ds owner W _; exact ⟨owner, by rw [List.append_nil] <;> rfl, by rw [List.append_nil]; exact W⟩
  | cons h rest ih =>
    intro ds owner W few
    rw [List.length_cons] at few
    obtain ⟨j, e, W2⟩ := own_more H W (by omega) h
    obtain ⟨o2, e2, W3⟩ := ih _ _ W2 (by rw [List.length_append, List.length_singleton]; omega)
    rw [List.append_assoc, List.singleton_append] at e2 W3
    refine ⟨o2, ?_, W3⟩
    rw [List.foldl_cons]; rw [stepF_some e]
    rw [List.length_append, List.length_singleton] at e2
    exact e2
theorem own_lay {m : Nat} (H : Msk m) (hs : Array Int) (few : hs.size ≤ m) : ∃ owner, SetTable.layClean m hs = some owner ∧ Own m hs.toList owner := by
  obtain ⟨owner, e, W⟩ := own_all H hs.toList [] _ (Own.init m) (by rw [Array.length_toList]; simpa using few)
  refine ⟨owner, ?_, W⟩
  have e' : hs.toList.foldl (stepF m) (some (Array.replicate (m + 1) none, 0)) = some (owner, ([] ++ hs.toList).length) := e
  rw [layClean_eq, e']
  rfl
/-- the rows of the new table -/
theorem live_rows {m : Nat} {hs : List Int} {owner : Array (Option Nat)} (W : Own m hs owner) :
    Ris ((liveOf m owner).map (·.1)) ∧ (∀ y ∈ (liveOf m owner).map (·.1), y ≤ m) ∧ ((liveOf m owner).map (·.2)).Perm (List.range hs.length) := by
  have r := ris_live (fun j => owner.getD j none) (List.range (m + 1)) (by unfold Ris; exact List.pairwise_lt_range)
  have asc : Ris ((liveOf m owner).map (·.1)) := r.1
  have all : ∀ k, k < hs.length → k ∈ (liveOf m owner).map (·.2) := fun k lk => by
    obtain ⟨j, lj, ej⟩ := W.all k lk
    exact List.mem_map.mpr ⟨(j, k), (mem_live W.sz).2 ⟨lj, ej⟩, rfl⟩
  obtain ⟨ps, lps, allp⟩ := W.ps
  have up : (liveOf m owner).length ≤ hs.length := by
    have z := nat_nodup_len ((liveOf m owner).map (·.1)) ps (List.nodup_iff_pairwise_ne.mpr (asc.imp fun y => Nat.ne_of_lt y)) fun x hx => by
      obtain ⟨⟨j, k⟩, hq, rfl⟩ := List.mem_map.mp hx
      obtain ⟨y1, y2⟩ := (mem_live W.sz).1 hq
      exact allp j y1 (by rw [y2]; exact Option.some_ne_none _)
    rw [List.length_map] at z
    omega
  have down : hs.length ≤ (liveOf m owner).length := by
    have z := nat_nodup_len (List.range hs.length) ((liveOf m owner).map (·.2)) List.nodup_range fun k hk => all k (List.mem_range.mp hk)
    rw [List.length_map, List.length_range] at z
    exact z
  refine ⟨asc, fun y hy => ?_, perm_range _ _ (by rw [List.length_map]; omega) all⟩
  obtain ⟨⟨j, k⟩, hq, rfl⟩ := List.mem_map.mp hy
  exact ((mem_live W.sz).1 hq).1
theorem laidAnew (t : SetTable) (hs : Array Int) {wanted m : Nat} (ew : SetTable.sizeAbove wanted - 1 = m) (H : Msk m) (few : hs.size ≤ m) :
    ∃ t' order, t.relaid hs wanted = some (t', order) ∧ order.toList.Perm (List.range hs.size) ∧ Tbl t' (order.toList.map fun i => hs.getD i 0) ∧ t'.mask = m ∧ t'.led = t.led ∧ t'.plain = t.plain ∧ t'.dummies = #[] := by
  obtain ⟨owner, e, W⟩ := own_lay H hs few
  obtain ⟨asc, low, pm⟩ := live_rows W
  refine ⟨tabOf t m owner, ((liveOf m owner).map (·.2)).toArray, by rw [relaid_eq, ew, e] <;> rfl, pm, ?_, rfl, rfl, rfl, rfl⟩
  refine ⟨asc, rfl, ?_, H, low, fun i g y e1 e2 => ?_⟩
  · show ((liveOf m owner).map (·.1)).toArray.size = _
    simp
  · have e1 : (((liveOf m owner).map (·.2)).map fun i => hs.getD i 0)[i]? = some g := e1
    have e2 : ((liveOf m owner).map (·.1))[i]? = some y := e2
    rw [List.getElem?_map, List.getElem?_map] at e1
    rw [List.getElem?_map] at e2
    obtain ⟨⟨j, k⟩, hq, rfl⟩ := Option.map_eq_some_iff.mp e2
    rw [hq] at e1
    have eg : hs.getD k 0 = g := Option.some.inj e1
    obtain ⟨lj, ej⟩ := (mem_live W.sz).1 (List.mem_of_getElem? hq)
    obtain ⟨g2, c, a1, a2, a3⟩ := W.at_ j k lj ej
    have : g2 = g := by
      rw [← eg, Array.getD_eq_getD_getElem?, ← Array.getElem?_toList, a1] <;> rfl
    subst this
    refine ⟨c, a2, fun d ld => ?_⟩
    show way m g2 d ∈ (liveOf m owner).map (·.1)
    obtain ⟨k2, e4⟩ := Option.ne_none_iff_exists'.mp (a3 d ld)
    exact List.mem_map.mpr ⟨(way m g2 d, k2), (mem_live W.sz).2 ⟨way_in m g2 d, e4⟩, rfl⟩
theorem grow_5 : SetTable.sizeAbove (SetTable.grown 5) - 1 = 31 := by decide +kernel
theorem grow_19 : SetTable.sizeAbove (SetTable.grown 19) - 1 = 127 := by decide +kernel
theorem grow_77 : SetTable.sizeAbove (SetTable.grown 77) - 1 = 511 := by decide +kernel
theorem grow_307 : SetTable.sizeAbove (SetTable.grown 307) - 1 = 2047 := by decide +kernel
end VT

set_option Elab.async false
set_option linter.all false
set_option maxRecDepth 100000
set_option maxHeartbeats 4000000
namespace VT
open PySem PySem.Spec PyProof.Rows L2
/-! sets of tuples, any kind of members (Mem), at most 1,200. The table's laws: VTk. -/
section
variable {P : Program} {w : World} {κ : Type} [DecidableEq κ]
/-- no reference -/
def NoRef (v : Value) : Prop := ∀ a, v ≠ .ref a
theorem noRef_of {v : Value} (h : carriedByValue v = true) : NoRef v := fun a e => by
  rw [e] at h
  simp [carriedByValue] at h
theorem class_no {v : Value} (h : NoRef v) (n : Nat) : ofAClassStatement n v = pure false := by
  cases v with
  | ref a => exact absurd rfl (h a)
  | _ => cases n <;> rfl
theorem hash_some {v : Value} (h : NoRef v) (n : Nat) : ∃ b, hashByValue n v = pure b := by
  cases v with
  | ref a => exact absurd rfl (h a)
  | _ => cases n <;> exact ⟨_, rfl⟩
variable {A : Around} {E : Value → Shared → Prop} {s : Shared} {knd : KeyKind P w κ}
theorem items_noRef {k : List κ} {vs : List Value} (h : ItemsAre knd k vs) : ∀ v ∈ vs, NoRef v := fun v hv => noRef_of (h.byValue v hv)
theorem class_tuple {k : List κ} {b : Addr} {Q : Bool → Shared → Prop} (hk : IsTupleKey knd s.heap k b) (h : Q false s) : wpAny (model P w) A (ofAClassStatement 8 (.ref b)) Q E s := by
  have hT := hk.typeIs
  obtain ⟨o, items, n, ho, _, hd, hi⟩ := hk
  have plain := items_noRef hi
  unfold ofAClassStatement
  refine wpAny_bind (wpAny_typeOf hT ?_)
  simp only [show (("tuple" : String) == "tuple") = true by decide, if_true, Bool.not_true, Bool.false_eq_true, if_false]
  try refine wpAny_bind (wpAny_pure ?_)
  try simp only [Bool.not_true, Bool.false_eq_true, if_false]
  show wpAny _ _ (seqItems? (.ref b) >>= _) _ _ s
  refine wpAny_bind (wpAny_seqItems ho hd ?_)
  refine wpAny_bind ?_
  show wpAny _ _ (forIn items _ _) _ _ s
  rw [← Array.forIn_toList]
  refine wpAny_forIn_list _ (fun rest r s' => (r.1 = none ∧ s' = s) ∧ ∀ v ∈ rest, NoRef v) _ ?_ ?_ _ _ ⟨⟨rfl, rfl⟩, plain⟩
  · rintro v rest r s' ⟨⟨hr, rfl⟩, all⟩
    rw [class_no (all v List.mem_cons_self)]
    refine wpAny_bind (wpAny_pure ?_)
    simp only [Bool.false_eq_true, if_false]
    exact wpAny_pure ⟨⟨rfl, rfl⟩, fun u hu => all u (List.mem_cons_of_mem _ hu)⟩
  · rintro ⟨r1, r2⟩ s' ⟨⟨hr, rfl⟩, _⟩
    simp only at hr
    subst hr
    exact wpAny_pure h
theorem byValue_tuple {k : List κ} {b : Addr} {Q : Bool → Shared → Prop} (hk : IsTupleKey knd s.heap k b) (h : ∀ c, Q c s) : wpAny (model P w) A (hashByValue 8 (.ref b)) Q E s := by
  have hT := hk.typeIs
  obtain ⟨o, items, n, ho, _, hd, hi⟩ := hk
  have plain := items_noRef hi
  unfold hashByValue
  refine wpAny_bind (wpAny_specialOf hT F.slot_tuple_hash.lookup ?_)
  show wpAny _ _ (seqItems? (.ref b) >>= _) _ _ s
  refine wpAny_bind (wpAny_seqItems ho hd ?_)
  refine wpAny_bind ?_
  show wpAny _ _ (forIn items _ _) _ _ s
  rw [← Array.forIn_toList]
  refine wpAny_forIn_list _ (fun rest r s' => (r.1 = none ∧ s' = s) ∧ ∀ v ∈ rest, NoRef v) _ ?_ ?_ _ _ ⟨⟨rfl, rfl⟩, plain⟩
  · rintro v rest r s' ⟨⟨hr, rfl⟩, all⟩
    obtain ⟨c, e⟩ := hash_some (all v List.mem_cons_self) 7
    rw [e]
    refine wpAny_bind (wpAny_pure ?_)
    cases c with
    | true =>
      simp only [Bool.not_true, Bool.false_eq_true, if_false]
      exact wpAny_pure ⟨⟨rfl, rfl⟩, fun u hu => all u (List.mem_cons_of_mem _ hu)⟩
    | false =>
      simp only [Bool.not_false, if_true]
      exact wpAny_pure (wpAny_pure (h false))
  · rintro ⟨r1, r2⟩ s' ⟨⟨hr, rfl⟩, _⟩
    simp only at hr
    subst hr
    exact wpAny_pure (h true)
end
/-- a kind of members: tuples of some kind of keys -/
structure Mem (P : Program) (w : World) (κ : Type) [DecidableEq κ] where
  is : Heap → κ → Addr → Prop
  hash : κ → Int
  toks : κ → Nat
  deep : Nat
  few : deep ≤ 8
  seq : ∀ {h : Heap} {k : κ} {a : Addr}, is h k a → ∃ o items n, h.get? a = some o ∧ o.cls = .type "tuple" ∧ o.data = .seq items n
  keep : ∀ {h h' : Heap} {k : κ} {a : Addr}, is h k a → (∀ b o vs n, h.get? b = some o → o.data = .seq vs n → h'.get? b = some o) → is h' k a
  hashes : ∀ {A : Around} {E : Value → Shared → Prop} {s : Shared} {k : κ} {a : Addr} {Q : Int → Shared → Prop}, A.units + deep < cLine → is s.heap k a → Q (hash k) { s with toks := s.toks + toks k } → wpAny (model P w) A (pyHash (.ref a)) Q E s
  eq : ∀ {A : Around} {E : Value → Shared → Prop} {s : Shared} {x y : κ} {a b : Addr} {Q : Bool → Shared → Prop}, A.units + deep < cLine → is s.heap x a → is s.heap y b → Q (decide (x = y)) s → wpAny (model P w) A (eqBool (.ref a) (.ref b)) Q E s
  quiet : ∀ {A : Around} {E : Value → Shared → Prop} {s : Shared} {k : κ} {a : Addr} {Q : Bool → Shared → Prop}, is s.heap k a → Q true s → wpAny (model P w) A (eqIsQuiet 8 (.ref a)) Q E s
  cls : ∀ {A : Around} {E : Value → Shared → Prop} {s : Shared} {k : κ} {a : Addr} {Q : Bool → Shared → Prop}, is s.heap k a → Q false s → wpAny (model P w) A (ofAClassStatement 8 (.ref a)) Q E s
  byVal : ∀ {A : Around} {E : Value → Shared → Prop} {s : Shared} {k : κ} {a : Addr} {Q : Bool → Shared → Prop}, is s.heap k a → (∀ c, Q c s) → wpAny (model P w) A (hashByValue 8 (.ref a)) Q E s
/-- tuples of flat keys -/
def tupM {P : Program} {w : World} {κ : Type} [DecidableEq κ] (knd : KeyKind P w κ) : Mem P w (List κ) where
  is := IsTupleKey knd
  hash := tupleKeyHash knd
  toks := fun k => k.length + 1
  deep := 0
  few := by decide
  seq := fun ⟨o, items, n, h1, h2, h3, _⟩ => ⟨o, items, n, h1, h2, h3⟩
  keep := fun ⟨o, items, n, h1, h2, h3, h4⟩ z => ⟨o, items, n, z _ _ _ _ h1 h3, h2, h3, h4⟩
  hashes := fun hu hk h => wpAny_pyHash_tuple hu hk h
  eq := fun hu hx hy h => wpAny_eqBool_tuple hu hx hy h
  quiet := fun hk h => wpAny_eqIsQuiet_tuple hk h
  cls := fun hk h => class_tuple hk h
  byVal := fun hk h => byValue_tuple hk h
/-! nested keys -/
section
variable {P : Program} {w : World}
def NoClsAt (P : Program) (w : World) (n : Nat) (s : Shared) (v : Value) : Prop := ∀ (A : Around) (E : Value → Shared → Prop) (Q : Bool → Shared → Prop), Q false s → wpAny (model P w) A (ofAClassStatement n v) Q E s
def ByValAt (P : Program) (w : World) (n : Nat) (s : Shared) (v : Value) : Prop := ∀ (A : Around) (E : Value → Shared → Prop) (Q : Bool → Shared → Prop), (∀ c, Q c s) → wpAny (model P w) A (hashByValue n v) Q E s
theorem noCls_flat {n : Nat} {s : Shared} {v : Value} (h : NoRef v) : NoClsAt P w n s v := fun A E Q q => by
  rw [class_no h]
  exact wpAny_pure q
theorem byVal_flat {n : Nat} {s : Shared} {v : Value} (h : NoRef v) : ByValAt P w n s v := fun A E Q q => by
  obtain ⟨b, e⟩ := hash_some h n
  rw [e]
  exact wpAny_pure (q b)
theorem noCls_tup {n : Nat} {s : Shared} {a : Addr} {o : Obj} {vs : Array Value} {m : Nat} (ho : s.heap.get? a = some o) (hc : o.cls = .type "tuple") (hd : o.data = .seq vs m) (hq : ∀ v ∈ vs.toList, NoClsAt P w n s v) : NoClsAt P w (n + 1) s (.ref a) := fun A E Q h => by
  have hT : s.TypeIs (.ref a) "tuple" := ⟨o, ho, hc⟩
  unfold ofAClassStatement
  refine wpAny_bind (wpAny_typeOf hT ?_)
  simp only [show (("tuple" : String) == "tuple") = true by decide, if_true, Bool.not_true, Bool.false_eq_true, if_false]
  try refine wpAny_bind (wpAny_pure ?_)
  try simp only [Bool.not_true, Bool.false_eq_true, if_false]
  show wpAny _ _ (seqItems? (.ref a) >>= _) _ _ s
  refine wpAny_bind (wpAny_seqItems ho hd ?_)
  refine wpAny_bind ?_
  show wpAny _ _ (forIn vs _ _) _ _ s
  rw [← Array.forIn_toList]
  refine wpAny_forIn_list _ (fun rest r s' => (r.1 = none ∧ s' = s) ∧ ∀ v ∈ rest, NoClsAt P w n s v) _ ?_ ?_ _ _ ⟨⟨rfl, rfl⟩, hq⟩
  · rintro v rest r s' ⟨⟨hr, rfl⟩, all⟩
    refine wpAny_bind (all v List.mem_cons_self _ _ _ ?_)
    simp only [Bool.false_eq_true, if_false]
    exact wpAny_pure ⟨⟨rfl, rfl⟩, fun u hu => all u (List.mem_cons_of_mem _ hu)⟩
  · rintro ⟨r1, r2⟩ s' ⟨⟨hr, rfl⟩, _⟩
    simp only at hr
    subst hr
    exact wpAny_pure h
theorem byVal_tup {n : Nat} {s : Shared} {a : Addr} {o : Obj} {vs : Array Value} {m : Nat} (ho : s.heap.get? a = some o) (hc : o.cls = .type "tuple") (hd : o.data = .seq vs m) (hq : ∀ v ∈ vs.toList, ByValAt P w n s v) : ByValAt P w (n + 1) s (.ref a) := fun A E Q h => by
  have hT : s.TypeIs (.ref a) "tuple" := ⟨o, ho, hc⟩
  unfold hashByValue
  refine wpAny_bind (wpAny_specialOf hT F.slot_tuple_hash.lookup ?_)
  show wpAny _ _ (seqItems? (.ref a) >>= _) _ _ s
  refine wpAny_bind (wpAny_seqItems ho hd ?_)
  refine wpAny_bind ?_
  show wpAny _ _ (forIn vs _ _) _ _ s
  rw [← Array.forIn_toList]
  refine wpAny_forIn_list _ (fun rest r s' => (r.1 = none ∧ s' = s) ∧ ∀ v ∈ rest, ByValAt P w n s v) _ ?_ ?_ _ _ ⟨⟨rfl, rfl⟩, hq⟩
  · rintro v rest r s' ⟨⟨hr, rfl⟩, all⟩
    refine wpAny_bind (all v List.mem_cons_self _ _ _ fun c => ?_)
    cases c with
    | true =>
      simp only [Bool.not_true, Bool.false_eq_true, if_false]
      exact wpAny_pure ⟨⟨rfl, rfl⟩, fun u hu => all u (List.mem_cons_of_mem _ hu)⟩
    | false =>
      simp only [Bool.not_false, if_true]
      exact wpAny_pure (wpAny_pure (h false))
  · rintro ⟨r1, r2⟩ s' ⟨⟨hr, rfl⟩, _⟩
    simp only at hr
    subst hr
    exact wpAny_pure (h true)
mutual
theorem nested_noCls : ∀ (k : NestedKey) (v : Value) (n : Nat) (s : Shared), NestedIs s.heap k v → k.depth ≤ n → NoClsAt P w n s v
  | .none, _, n, s, x, _ => by cases x; exact noCls_flat (fun a e => nomatch e)
  | .num i, _, n, s, x, _ => by cases x <;> exact noCls_flat (fun a e => nomatch e)
  | .text y, _, n, s, x, _ => by cases x; exact noCls_flat (fun a e => nomatch e)
  | .tup ks, _, n, s, x, hn => by
    cases x with
    | tup hg hc hd hk =>
      simp only [NestedKey.depth] at hn
      cases n with
      | zero => omega
      | succ n => exact noCls_tup hg hc hd (nesteds_noCls ks _ n s hk (by omega))
theorem nesteds_noCls : ∀ (ks : List NestedKey) (vs : List Value) (n : Nat) (s : Shared), NestedAll s.heap ks vs → NestedKey.depthAll ks ≤ n → ∀ v ∈ vs, NoClsAt P w n s v
  | [], _, n, s, x, _, v, hv => by cases x; cases hv
  | k :: ks, _, n, s, x, hn, v, hv => by
    cases x with
    | cons x1 x2 =>
      simp only [NestedKey.depthAll] at hn
      rcases List.mem_cons.mp hv with e | hv
      · rw [e]; exact nested_noCls k _ n s x1 (by omega)
      · exact nesteds_noCls ks _ n s x2 (by omega) v hv
end
mutual
theorem nested_byVal : ∀ (k : NestedKey) (v : Value) (n : Nat) (s : Shared), NestedIs s.heap k v → k.depth ≤ n → ByValAt P w n s v
  | .none, _, n, s, x, _ => by cases x; exact byVal_flat (fun a e => nomatch e)
  | .num i, _, n, s, x, _ => by cases x <;> exact byVal_flat (fun a e => nomatch e)
  | .text y, _, n, s, x, _ => by cases x; exact byVal_flat (fun a e => nomatch e)
  | .tup ks, _, n, s, x, hn => by
    cases x with
    | tup hg hc hd hk =>
      simp only [NestedKey.depth] at hn
      cases n with
      | zero => omega
      | succ n => exact byVal_tup hg hc hd (nesteds_byVal ks _ n s hk (by omega))
theorem nesteds_byVal : ∀ (ks : List NestedKey) (vs : List Value) (n : Nat) (s : Shared), NestedAll s.heap ks vs → NestedKey.depthAll ks ≤ n → ∀ v ∈ vs, ByValAt P w n s v
  | [], _, n, s, x, _, v, hv => by cases x; cases hv
  | k :: ks, _, n, s, x, hn, v, hv => by
    cases x with
    | cons x1 x2 =>
      simp only [NestedKey.depthAll] at hn
      rcases List.mem_cons.mp hv with e | hv
      · rw [e]; exact nested_byVal k _ n s x1 (by omega)
      · exact nesteds_byVal ks _ n s x2 (by omega) v hv
end
/-- nested tuples -/
def nestM (P : Program) (w : World) : Mem P w NestedKey where
  is := fun h k a => (NestedIs h k (.ref a) ∧ k.depth ≤ 8) ∧ ∃ ks, k = .tup ks
  hash := fun k => k.hash w
  toks := fun k => k.draws
  deep := 8
  few := by decide
  seq := fun ⟨⟨h, _⟩, ks, e⟩ => by
    subst e
    cases h with
    | tup h1 h2 h3 h4 => exact ⟨_, _, _, h1, h2, h3⟩
  keep := fun ⟨⟨h, d⟩, e⟩ z => ⟨⟨NestedIs.at z _ _ h, d⟩, e⟩
  hashes := fun hu hk h => pyHash_key _ _ _ _ _ hk.1.1 (Nat.lt_of_le_of_lt (Nat.add_le_add_left hk.1.2 _) hu) h
  eq := fun hu hx hy h => (nestedKind P w).eqBool hu hx.1 hy.1 h
  quiet := fun hk h => quiet_key _ _ 8 _ hk.1.1 hk.1.2 _ _ _ h
  cls := fun hk h => nested_noCls _ _ 8 _ hk.1.1 hk.1.2 _ _ _ h
  byVal := fun hk h => nested_byVal _ _ 8 _ hk.1.1 hk.1.2 _ _ _ h
end
section
variable {P : Program} {w : World} {κ : Type} [DecidableEq κ]
variable {A : Around} {E : Value → Shared → Prop} {s : Shared} {knd : Mem P w κ}
/-- nobody sees a search among such tuples -/
theorem unseen {k : κ} {b : Addr} {Q : Bool → Shared → Prop} (hk : knd.is s.heap k b) {ys : List Value} (hy : ∀ y ∈ ys, ∃ k' c, y = Value.ref c ∧ knd.is s.heap k' c) (h : Q false s) :
    wpAny (model P w) A (searchCouldBeSeen (.ref b) ys) Q E s := by
  unfold searchCouldBeSeen
  refine wpAny_bind (wpAny_forIn_list _ (fun rest r s' => (r.1 = none ∧ s' = s) ∧ ∀ y ∈ rest, ∃ k' c, y = Value.ref c ∧ knd.is s.heap k' c) _ ?_ ?_ _ _ ⟨⟨rfl, rfl⟩, hy⟩)
  · rintro v rest r s' ⟨⟨hr, rfl⟩, all⟩
    obtain ⟨k', c, rfl, hc⟩ := all v List.mem_cons_self
    have tail := fun u (hu : u ∈ rest) => all u (List.mem_cons_of_mem _ hu)
    dsimp only
    split
    · exact wpAny_pure ⟨⟨rfl, rfl⟩, tail⟩
    · refine wpAny_bind (knd.quiet hk ?_)
      simp only [Bool.not_true, Bool.false_eq_true, if_false]
      refine wpAny_bind (knd.quiet hc ?_)
      simp only [Bool.not_true, Bool.false_eq_true, if_false]
      refine wpAny_bind (knd.cls hk ?_)
      simp only [Bool.false_eq_true, if_false]
      refine wpAny_bind (knd.cls hc ?_)
      simp only [Bool.false_eq_true, if_false]
      exact wpAny_pure ⟨⟨rfl, rfl⟩, tail⟩
  · rintro ⟨r1, r2⟩ s' ⟨⟨hr, rfl⟩, _⟩
    simp only at hr
    subst hr
    exact wpAny_pure h
/-! the set: its members in the order of the table -/
abbrev hOf (knd : Mem P w κ) (k : κ) : Int := knd.hash k
def ent (knd : Mem P w κ) (p : Addr × κ) : Int × Value := (hOf knd p.2, Value.ref p.1)
/-- members L in the entries es and the table t -/
structure Laid (knd : Mem P w κ) (h : Heap) (L : List (Addr × κ)) (es : Array (Int × Value)) (t : SetTable) : Prop where
  rows : es.toList = L.map (ent knd)
  tab : Tbl t (L.map fun p => hOf knd p.2)
  nd : (L.map (·.2)).Nodup
  mem : ∀ p ∈ L, knd.is h p.2 p.1
  led : w.params.followText "set-order" = true ∨ t.led = true
def SetK (knd : Mem P w κ) (h : Heap) (a : Addr) (L : List (Addr × κ)) : Prop :=
  ∃ o es ep t, h.get? a = some o ∧ o.ExactSet ∧ o.data = .set es ep t ∧ Laid knd h L es t ∧ L.length * 5 < t.mask * 3 ∧ L.length < 1201
variable {L : List (Addr × κ)} {es : Array (Int × Value)} {t : SetTable}
theorem Laid.size {h : Heap} (R : Laid knd h L es t) : es.size = L.length := by
  rw [← Array.length_toList, R.rows, List.length_map]
theorem Laid.places {h : Heap} (R : Laid knd h L es t) : t.place.toList.length = L.length := by
  rw [Array.length_toList, R.tab.sz, List.length_map]
theorem Laid.fits {h : Heap} (R : Laid knd h L es t) (hm : L.length ≤ t.mask) : t.fits es.size = true := by
  have h2 := R.size
  have h3 := R.places
  rw [Array.length_toList] at h3
  unfold SetTable.fits SetTable.fill
  rw [R.tab.dm, Bool.and_eq_true, beq_iff_eq, decide_eq_true_eq]
  exact ⟨by omega, (by show t.place.size + 0 ≤ t.mask; omega)⟩
theorem Laid.entry {h : Heap} (R : Laid knd h L es t) {i : Nat} {p : Addr × κ} (e : L[i]? = some p) : es[i]? = some (hOf knd p.2, Value.ref p.1) := by
  rw [← Array.getElem?_toList, R.rows, List.getElem?_map, e] <;> rfl
theorem Laid.hashAt {h : Heap} (R : Laid knd h L es t) {i : Nat} {p : Addr × κ} (e : L[i]? = some p) : (es[i]?.map (·.1)).getD 0 = hOf knd p.2 := by
  rw [R.entry e] <;> rfl
theorem Laid.at_ {h : Heap} (R : Laid knd h L es t) {i j : Nat} (e : t.place.toList[i]? = some j) : ∃ p, L[i]? = some p := by
  have h1 := (List.getElem?_eq_some_iff.mp e).1
  rw [R.places] at h1
  exact ⟨_, List.getElem?_eq_getElem h1⟩
/-- the c-th place of the way, as the search keeps it -/
abbrev pr (m : Nat) (h : Int) (c : Nat) : SetTable.Probe := nth m (runAt m (SetTable.bits h % (m + 1)) (SetTable.bits h)) c
theorem nth_noDummy (m : Nat) : ∀ (n : Nat) (p : SetTable.Probe), p.dummy = none → (nth m p n).dummy = none
  | 0, _, h => h
  | n + 1, p, h => nth_noDummy m n (adv m p) (by unfold adv; split <;> exact h)
theorem pr_add (m : Nat) (h : Int) (c q : Nat) : nth m (pr m h c) q = pr m h (c + q) := (nth_add m c _ q).symm
/-- one look of the search, from the place c on: the first member of this hash not before it, or the free place K -/
theorem look {hp : Heap} (R : Laid knd hp L es t) (h : Int) {K c : Nat} (hKf : K < 10 * SetTable.turns t.mask) (hK : way t.mask h K ∉ t.place.toList) (hb : ∀ k, k < K → way t.mask h k ∈ t.place.toList) (hc : c ≤ K) :
    (∃ d i, c ≤ d ∧ d < K ∧ t.place.toList[i]? = some (way t.mask h d) ∧ (∀ (d' i' : Nat) (p : Addr × κ), c ≤ d' → d' < d → t.place.toList[i']? = some (way t.mask h d') → L[i']? = some p → hOf knd p.2 ≠ h) ∧
      t.probe (fun i => (es[i]?.map (·.1)).getD 0) h (pr t.mask h c) = some (.candidate (way t.mask h d) i (pr t.mask h (d + 1)))) ∨
    ((∀ (d' i' : Nat) (p : Addr × κ), c ≤ d' → d' < K → t.place.toList[i']? = some (way t.mask h d') → L[i']? = some p → hOf knd p.2 ≠ h) ∧
      t.probe (fun i => (es[i]?.map (·.1)).getD 0) h (pr t.mask h c) = some (.empty (way t.mask h K) none)) := by
  have ej : ∀ q, (nth t.mask (pr t.mask h c) q).j = way t.mask h (c + q) := fun q => congrArg SetTable.Probe.j (pr_add t.mask h c q)
  have back : ∀ d, c ≤ d → c + (d - c) = d := fun d z => by omega
  rcases go_spec t R.tab.ris R.tab.dm (fun i => (es[i]?.map (·.1)).getD 0) h (10 * SetTable.turns t.mask) (K - c) (pr t.mask h c) (nth_noDummy _ _ _ rfl) (by omega)
      (fun q hq => by rw [ej]; exact hb _ (by omega)) (by rw [ej, back K hc]; exact hK) with ⟨q, i, h1, h2, h3, h4, h5⟩ | ⟨h4, h5⟩
  · refine .inl ⟨c + q, i, by omega, by omega, by rw [← ej]; exact h2, fun d' i' p z1 z2 z3 z4 e => ?_, ?_⟩
    · refine h4 (d' - c) i' (by omega) (by rw [ej, back d' z1]; exact z3) ?_
      exact (R.hashAt z4).trans e
    · have e1 : pr t.mask h (c + q + 1) = nth t.mask (pr t.mask h c) (q + 1) := by rw [pr_add]; rfl
      rw [e1, ← ej]
      exact h5
  · refine .inr ⟨fun d' i' p z1 z2 z3 z4 e => ?_, ?_⟩
    · refine h4 (d' - c) i' (by omega) (by rw [ej, back d' z1]; exact z3) ?_
      exact (R.hashAt z4).trans e
    · have e1 : way t.mask h K = (nth t.mask (pr t.mask h c) (K - c)).j := by rw [ej, back K hc]
      rw [e1]
      exact h5
variable {a : Addr} {o : Obj} {ep : Nat}
/-- the search of a tuple of the keys k -/
theorem search (ho : s.heap.get? a = some o) (hd : o.data = .set es ep t) (R : Laid knd s.heap L es t) (hm : L.length ≤ t.mask) {x : Addr} {k : κ} (hx : knd.is s.heap k x) (hu : A.units + knd.deep < cLine)
    {K : Nat} (hKf : K < 10 * SetTable.turns t.mask) (hK : way t.mask (hOf knd k) K ∉ t.place.toList) (hb : ∀ d, d < K → way t.mask (hOf knd k) d ∈ t.place.toList) {Q : SetFound → Shared → Prop}
    (yes : k ∈ L.map (·.2) → Q (.there none) s) (no : k ∉ L.map (·.2) → Q (.free (way t.mask (hOf knd k) K) false) s) :
    ∀ (f c : Nat) (stand : Option SetTable.Probe), stand.getD (t.probeStart (hOf knd k)) = pr t.mask (hOf knd k) c → c ≤ K → K - c < f →
      (∀ (d i : Nat) (p : Addr × κ), d < c → t.place.toList[i]? = some (way t.mask (hOf knd k) d) → L[i]? = some p → p.2 ≠ k) →
      wpAny (model P w) A (setSearchFrom a (.ref x) (hOf knd k) true f stand) Q E s := by
  intro f
  induction f with
  | zero => exact fun c stand _ _ z _ => absurd z (Nat.not_lt_zero _)
  | succ f ih =>
    intro c stand est hc hf past
    rw [setSearchFrom_succ]
    refine wpAny_bind (wpAny_setState_of ho hd (R.fits hm) ?_)
    dsimp only
    refine wp_if_neg (by unfold SetTable.gaveWay; rw [msk_odd R.tab.mok]; decide) ?_
    try refine wpAny_bind (wpAny_pure ?_)
    rw [est]
    rcases look R (hOf knd k) hKf hK hb hc with ⟨d, i, d1, d2, d3, d4, e⟩ | ⟨d4, e⟩
    · rw [e]
      dsimp only
      obtain ⟨p, hp⟩ := R.at_ d3
      have hpm := List.mem_of_getElem? hp
      have cont : wpAny (model P w) A (searchRest a (.ref x) (hOf knd k) true f es t (way t.mask (hOf knd k) d) i (pr t.mask (hOf knd k) (d + 1))) Q E s := by
        unfold searchRest
        rw [R.entry hp]
        refine wpAny_bind (wpAny_holding (knd.eq hu (R.mem p hpm) hx ?_))
        refine wpAny_bind (wpAny_setState_of ho hd (R.fits hm) ?_)
        dsimp only
        by_cases same : p.2 = k
        · refine wp_if_pos (by simp [same]) (wpAny_pure (yes ?_))
          rw [← same]
          exact List.mem_map_of_mem hpm
        · refine wp_if_neg (by simp [same]) ?_
          try refine wpAny_bind (wpAny_pure ?_)
          rw [sameMem]
          simp only [if_true, slot_live R.tab.ris d3, R.entry hp]
          refine wpAny_bind (wpAny_isSame_ref_self (wpAny_bind (wpAny_pure ?_)))
          simp only [if_true]
          refine wp_if_neg (by simp [same]) ?_
          refine ih (d + 1) _ rfl d2 (by omega) fun d' i' p' z1 z2 z3 z4 => ?_
          rcases Nat.lt_or_ge d' c with y | y
          · exact past d' i' p' y z2 z3 z4
          · rcases Nat.lt_or_ge d' d with u | u
            · exact d4 d' i' p' y u z2 z3 (by rw [z4])
            · obtain rfl : d' = d := by omega
              have s1 := slot_live R.tab.ris z2
              rw [slot_live R.tab.ris d3] at s1
              injection s1 with s1
              rw [← s1, hp] at z3
              exact same (by rw [Option.some.inj z3]; exact z4)
      cases hl : t.led with
      | true =>
        refine wp_if_neg (by simp) ?_
        try refine wpAny_bind (wpAny_pure ?_)
        exact cont
      | false =>
        refine wp_if_pos (by simp) (wpAny_bind (unseen hx (fun y hy => ?_) ?_))
        · obtain ⟨g, hg, rfl⟩ := List.mem_map.mp hy
          have hg2 : g ∈ es.toList := by
            have z : g ∈ es ∧ g.1 = hOf knd k := by simpa using hg
            simpa using z.1
          rw [R.rows] at hg2
          obtain ⟨p2, hp2, rfl⟩ := List.mem_map.mp hg2
          exact ⟨p2.2, p2.1, rfl, R.mem p2 hp2⟩
        · refine wp_if_neg (by decide) ?_
          try refine wpAny_bind (wpAny_pure ?_)
          exact cont
    · rw [e]
      refine wpAny_pure (no fun hin => ?_)
      obtain ⟨p, hp, ek⟩ := List.mem_map.mp hin
      obtain ⟨i, hi, eg⟩ := List.getElem_of_mem hp
      have g1 : L[i]? = some p := by rw [List.getElem?_eq_getElem hi, eg]
      have g2 : (L.map fun p => hOf knd p.2)[i]? = some (hOf knd k) := by rw [List.getElem?_map, g1, ← ek] <;> rfl
      have hj : i < t.place.toList.length := by rw [R.places]; exact hi
      obtain ⟨d, z1, z2⟩ := R.tab.before hK g2 (List.getElem?_eq_getElem hj)
      have g3 : t.place.toList[i]? = some (way t.mask (hOf knd k) d) := by rw [List.getElem?_eq_getElem hj, z2]
      rcases Nat.lt_or_ge d c with y | y
      · exact past d i p y g3 g1 ek
      · exact d4 d i p y z1 g3 g1 (by rw [ek])
theorem range_all {α : Type} : ∀ l : List α, (List.range l.length).filterMap (fun i => l[i]?) = l
  | [] => rfl
  | x :: l => by
    rw [List.length_cons, List.range_succ_eq_map, List.filterMap_cons_some (f := fun i => (x :: l)[i]?) (b := x) rfl, List.filterMap_map]
    exact congrArg (x :: ·) (range_all l)
/-- the entries in another order -/
theorem reorder (rows : es.toList = L.map (ent knd)) {order : Array Nat} (hp : order.toList.Perm (List.range L.length)) :
    ∃ L2 : List (Addr × κ), (order.filterMap (es[·]?)).toList = L2.map (ent knd) ∧ L2.Perm L ∧ (L2.map fun p => hOf knd p.2) = order.toList.map fun i => (es.map (·.1)).getD i 0 := by
  have e1 : (fun i : Nat => es[i]?) = fun i => (L[i]?).map (ent knd) := funext fun i => by rw [← Array.getElem?_toList, rows, List.getElem?_map]
  refine ⟨order.toList.filterMap fun i => L[i]?, ?_, ?_, ?_⟩
  · rw [Array.toList_filterMap, e1, List.map_filterMap]
  · have z := hp.filterMap (fun i => L[i]?)
    rw [range_all] at z
    exact z
  · have low : ∀ i ∈ order.toList, i < L.length := fun i hi => List.mem_range.mp (hp.mem_iff.mp hi)
    revert low
    generalize order.toList = l
    intro low
    induction l with
    | nil => rfl
    | cons i l ih =>
      have hi := low i List.mem_cons_self
      have e2 : es[i]? = some (ent knd L[i]) := by rw [congrFun e1 i, List.getElem?_eq_getElem hi] <;> rfl
      have e3 : (es.map (·.1)).getD i 0 = hOf knd (L[i]).2 := by
        rw [Array.getD_eq_getD_getElem?, Array.getElem?_map, e2] <;> rfl
      rw [List.filterMap_cons_some (List.getElem?_eq_getElem hi), List.map_cons, List.map_cons, ih fun j hj => low j (List.mem_cons_of_mem _ hj), e3]
theorem tuple_stays {h h' : Heap} {k : κ} {b : Addr} (hb : knd.is h k b) (ho : h.get? a = some o) (hd : o.data = .set es ep t) (hs : Heap.SameBut a h h') : knd.is h' k b :=
  knd.keep hb fun c oc vs n e1 e2 => (hs.2 c fun z => by
    rw [z, ho] at e1
    rw [← Option.some.inj e1, hd] at e2
    cases e2).trans e1
theorem tuple_keep {h h' : Heap} {k : κ} {b : Addr} (hb : knd.is h k b) (e : ∀ b o, h.get? b = some o → h'.get? b = some o) : knd.is h' k b :=
  knd.keep hb fun c oc _ _ e1 _ => e c oc e1
/-- a larger table -/
theorem relay (ho : s.heap.get? a = some o) (hex : o.ExactSet) (hd : o.data = .set es ep t) (R : Laid knd s.heap L es t) (hm : L.length ≤ t.mask) (few : L.length < 1201) {wanted M : Nat}
    (hw : SetTable.sizeAbove wanted - 1 = M) (hM : Msk M) (hw2 : SetTable.sizeAbove wanted ≤ 2048) (hn : L.length * 5 < M * 3) {Q : Unit → Shared → Prop}
    (hQ : ∀ h' L', Heap.SameBut a s.heap h' → SetK knd h' a L' → L'.Perm L → Q () { s with heap := h' }) : wpAny (model P w) A (setRelay a wanted) Q E s := by
  have sz := R.size
  obtain ⟨t', order, e, hp, T, em, el, _, ed⟩ := laidAnew t (es.map (·.1)) (wanted := wanted) hw hM (by rw [Array.size_map, sz]; omega)
  rw [Array.size_map, sz] at hp
  obtain ⟨L2, r1, r2, r3⟩ := reorder R.rows hp
  rw [← r3] at T
  have sz2 : (order.filterMap (es[·]?)).size = es.size := by rw [← Array.length_toList, r1, List.length_map, r2.length_eq, sz]
  rw [setRelay_eq]
  refine wpAny_bind (wpAny_setState_of ho hd (R.fits hm) ?_)
  dsimp only
  refine wp_if_neg (by rw [sizeLine_eq]; omega) ?_
  try refine wpAny_bind (wpAny_pure ?_)
  rw [e]
  refine wpAny_bind ?_
  dsimp only
  refine wp_if_neg (by rw [sz2]; simp) ?_
  try refine wpAny_bind (wpAny_pure ?_)
  refine wpAny_pure (wpAny_storeSet_of ho hd ?_ (by rw [sz2, sz, sizeLine_eq]; omega))
  have sb : Heap.SameBut a s.heap (s.heap.update a (Obj.putSet (order.filterMap (es[·]?)) t')) := Heap.SameBut.update ..
  refine hQ _ L2 sb ⟨_, _, _, t', store_at ho hd, hex, rfl, ⟨r1, T, (r2.map (·.2)).nodup_iff.mpr R.nd, fun p hp' => tuple_stays (R.mem p (r2.mem_iff.mp hp')) ho hd sb, by rw [el]; exact R.led⟩, ?_, ?_⟩ r2
  · rw [r2.length_eq, em]; exact hn
  · rw [r2.length_eq]; exact few
/-- a member is added -/
theorem add (M : SetK knd s.heap a L) {x : Addr} {k : κ} (hx : knd.is s.heap k x) (hu : A.units + knd.deep < cLine) (few0' : k ∉ L.map (·.2) → L.length + 1 < 1201) {Q : Bool → Shared → Prop}
    (hQ : ∀ b h' L', Heap.SameBut a s.heap h' → SetK knd h' a L' → (k ∈ L.map (·.2) → L' = L) → (k ∉ L.map (·.2) → L'.Perm ((x, k) :: L)) → Q b { s with heap := h' }) :
    wpAny (model P w) A (setAddHashed a (.ref x) (hOf knd k)) Q E s := by
  obtain ⟨o, es, ep, t, ho, hex, hd, R, room, few0⟩ := M
  have hm : L.length ≤ t.mask := by omega
  have sz := R.size
  unfold setAddHashed
  refine wpAny_holding ?_
  rw [show (100000 : Nat) = 99999 + 1 from rfl, setAddHashedIn_succ]
  refine wpAny_bind (wpAny_setState_of ho hd (R.fits hm) ?_)
  dsimp only
  refine wp_if_neg (by simp [byScan, Value.scannable]) ?_
  try refine wpAny_bind (wpAny_pure ?_)
  obtain ⟨K, hKf, hK, hb⟩ := R.tab.first (by rw [List.length_map]; exact hm) (hOf knd k)
  have turns : 10 * SetTable.turns t.mask ≤ 30000 := by
    have := msk_le R.tab.mok
    show 10 * (t.mask + 15) ≤ 30000
    omega
  unfold setSearch
  refine wpAny_bind (search ho hd R hm hx hu hKf hK hb (fun hin => ?_) (fun hin => ?_) 100000 0 none rfl (Nat.zero_le _) (by omega) fun d _ _ z => absurd z (Nat.not_lt_zero d))
  · exact wpAny_pure (hQ false s.heap L (Heap.SameBut.refl a s.heap) ⟨o, es, ep, t, ho, hex, hd, R, room, few0⟩ (fun _ => rfl) fun z => absurd hin z)
  have few := few0' hin
  dsimp only
  refine wpAny_bind (wpAny_setState_of ho hd (R.fits hm) ?_)
  dsimp only
  obtain ⟨q1, q2, q3, q4, q5, q6, q7, q8, q9⟩ := R.tab.put hK hb rfl rfl
  revert q1 q2 q3 q4 q5 q6 q7 q8 q9
  generalize t.put (way t.mask (hOf knd k) K) = pt
  obtain ⟨t1, at_⟩ := pt
  intro q1 q2 q3 q4 q5 q6 q7 q8 q9
  dsimp only at q1 q3 q4 q5 q6 q7 q8 q9 ⊢
  rw [← q1] at q2 q3
  rw [List.length_map] at q2 q9
  have pm := put_perm L at_ (x, k)
  have len1 : (L.take at_ ++ (x, k) :: L.drop at_).length = L.length + 1 := pm.length_eq
  have rows1 : (SetTable.insertAt es at_ (hOf knd k, Value.ref x)).toList = (L.take at_ ++ (x, k) :: L.drop at_).map (ent knd) := by
    rw [SetTable.toList_insertAt, R.rows, List.map_append, List.map_cons, List.map_take, List.map_drop] <;> rfl
  have hash1 : (L.take at_ ++ (x, k) :: L.drop at_).map (fun p => hOf knd p.2) = (L.map fun p => hOf knd p.2).take at_ ++ hOf knd k :: (L.map fun p => hOf knd p.2).drop at_ := by
    rw [List.map_append, List.map_cons, List.map_take, List.map_drop]
  rw [← hash1] at q3
  have nd1 : ((L.take at_ ++ (x, k) :: L.drop at_).map (·.2)).Nodup := by
    rw [(pm.map (·.2)).nodup_iff, List.map_cons, List.nodup_cons]
    exact ⟨hin, R.nd⟩
  revert rows1 pm len1 q3 nd1
  generalize L.take at_ ++ (x, k) :: L.drop at_ = L1
  generalize SetTable.insertAt es at_ (hOf knd k, Value.ref x) = es1
  clear hash1
  intro q3 pm len1 rows1 nd1
  have sz1 : es1.size = L.length + 1 := by rw [← Array.length_toList, rows1, List.length_map, len1]
  -- the marks of the table do not matter
  have done : ∀ t2 : SetTable, t2.place = t1.place → t2.dummies = t1.dummies → t2.mask = t1.mask → t2.led = t1.led →
      wpAny (model P w) A (do
        storeSet a es1 t2
        if (!false && t2.tooFull) = true then do
          setRelay a (SetTable.grown (es.size + 1))
          pure true
        else pure true) Q E s := by
    intro t2 g1 g2 g3 g4
    have T2 : Tbl t2 (L1.map fun p => hOf knd p.2) :=
      ⟨by rw [g1]; exact q3.ris, by rw [g2]; exact q3.dm, by rw [g1]; exact q3.sz, by rw [g3]; exact q3.mok, by rw [g1, g3]; exact q3.bd, by rw [g1, g3]; exact q3.reach⟩
    have fill2 : t2.fill = L.length + 1 := by
      rw [← q9]
      unfold SetTable.fill
      rw [g1, g2]
    refine wpAny_bind (wpAny_storeSet_of ho hd ?_ (by rw [sz1, sizeLine_eq]; omega))
    have sb : Heap.SameBut a s.heap (s.heap.update a (Obj.putSet es1 t2)) := Heap.SameBut.update ..
    have ho1 := store_at (es' := es1) (t' := t2) ho hd
    generalize s.heap.update a (Obj.putSet es1 t2) = h1 at sb ho1 ⊢
    have R1 : Laid knd h1 L1 es1 t2 := ⟨rows1, T2, nd1, fun p hp => by
      rcases List.mem_cons.mp (pm.mem_iff.mp hp) with e | z
      · rw [e]; exact tuple_stays hx ho hd sb
      · exact tuple_stays (R.mem p z) ho hd sb, by rw [g4, q5]; exact R.led⟩
    have ex1 : Obj.ExactSet { cls := o.cls, dict := o.dict, data := Data.set es1 (ep + 1) t2, slots := o.slots } := ⟨hex.1, hex.2.1, hex.2.2⟩
    have full : (t2.tooFull = true) ↔ t.mask * 3 ≤ (L.length + 1) * 5 := by
      unfold SetTable.tooFull
      rw [decide_eq_true_eq, fill2, g3, q4]
    by_cases tf : t2.tooFull = true
    · refine wp_if_pos (by simp [tf]) ?_
      have big := full.mp tf
      rw [sz]
      refine wpAny_bind ?_
      have fin : ∀ (M : Nat), SetTable.sizeAbove (SetTable.grown (L.length + 1)) - 1 = M → Msk M → SetTable.sizeAbove (SetTable.grown (L.length + 1)) ≤ 2048 → (L.length + 1) * 5 < M * 3 →
          wpAny (model P w) A (setRelay a (SetTable.grown (L.length + 1))) (fun _ s' => wpAny (model P w) A (pure true) Q E s') E { s with heap := h1 } := fun M z1 z2 z3 z4 =>
        relay (s := { s with heap := h1 }) ho1 ex1 rfl R1 (by rw [len1, g3, q4]; rcases R.tab.mok.cases with e | e | e | e | e <;> omega) (by rw [len1]; exact few) z1 z2 z3 (by rw [len1]; exact z4)
          fun h2 L2 sb2 M2 pm2 => wpAny_pure (hQ true h2 L2 (sb.trans sb2) M2 (fun z => absurd z hin) fun _ => pm2.trans pm)
      rcases R.tab.mok.cases with e | e | e | e | e
      · have e4 : L.length = 4 := by omega
        exact fin 31 (by rw [e4]; exact grow_5) (by unfold Msk; decide) (by rw [e4]; decide +kernel) (by omega)
      · have e4 : L.length = 18 := by omega
        exact fin 127 (by rw [e4]; exact grow_19) (by unfold Msk; decide) (by rw [e4]; decide +kernel) (by omega)
      · have e4 : L.length = 76 := by omega
        exact fin 511 (by rw [e4]; exact grow_77) (by unfold Msk; decide) (by rw [e4]; decide +kernel) (by omega)
      · have e4 : L.length = 306 := by omega
        exact fin 2047 (by rw [e4]; exact grow_307) (by unfold Msk; decide) (by rw [e4]; decide +kernel) (by omega)
      · omega
    · refine wp_if_neg (by simp [tf]) ?_
      refine wpAny_pure (hQ true h1 L1 sb ⟨_, es1, _, t2, ho1, ex1, rfl, R1, ?_, by rw [len1]; exact few⟩ (fun z => absurd z hin) fun _ => pm)
      have small : ¬ t.mask * 3 ≤ (L.length + 1) * 5 := fun z => tf (full.mpr z)
      rw [len1, g3, q4]
      omega
  by_cases pl : t1.plain = true
  · rw [if_pos pl]
    refine wpAny_bind (knd.byVal hx fun c => ?_)
    cases c with
    | true => exact done t1 rfl rfl rfl rfl
    | false => exact done { t1 with plain := false } rfl rfl rfl rfl
  · rw [if_neg pl]
    refine wpAny_bind (wpAny_pure ?_)
    exact done t1 rfl rfl rfl rfl
end
end VT

set_option Elab.async false
set_option linter.all false
set_option maxRecDepth 100000
set_option maxHeartbeats 4000000
namespace VT
open PySem PySem.Spec PyProof.Rows L2
/-! set(xs), xs a list, by what adding a member means: J i tells the set's state after i items -/
section
variable {P : Program} {w : World} {A : Around} {E : Value → Shared → Prop} {s : Shared}
/-- what was in h0, and the object at S, stays -/
def Holds0 (h0 : Heap) (S : Addr) (h h' : Heap) : Prop := ∀ b o, (b = S ∨ h0.get? b ≠ none) → h.get? b = some o → h'.get? b = some o
def Old (h0 h : Heap) : Prop := ∀ b o, h0.get? b = some o → h.get? b = some o
structure Adds (P : Program) (w : World) (d : Nat) (S : Addr) (h0 : Heap) (n : Nat) (Pv : Nat → Value → Prop) (J : Nat → Heap → Prop) : Prop where
  keep : ∀ i h h', J i h → Holds0 h0 S h h' → J i h'
  step : ∀ (A : Around) (E : Value → Shared → Prop) (i : Nat) (v : Value) (s : Shared) (F : Bool → Shared → Prop), A.units + d < cLine → i < n → Pv i v → J i s.heap → Old h0 s.heap →
    (∀ b h' tk, Heap.SameBut S s.heap h' → J (i + 1) h' → F b { s with heap := h', toks := s.toks + tk }) → wpAny (model P w) A (setAdd S v) F E s
variable {I S : Addr} {fp wr : List Addr} {G : Array GenState → Array GenState → Prop} {n : Nat} {Pv : Nat → Value → Prop} {St : Nat → Shared → Prop} {R : Result → Shared → Prop} {h0 : Heap} {J : Nat → Heap → Prop}
theorem loop_adds (W : WalksS P w A.in1 I fp wr G n Pv St) (hS : S ∉ fp) (hS0 : h0.get? S = none) (hw : ∀ b ∈ wr, h0.get? b = none) {d : Nat} (D : Adds P w d S h0 n Pv J) (hu : A.in1.units + d < cLine) :
    ∀ (m i : Nat) (s : Shared), n - i = m → i ≤ n → St i s → Old h0 s.heap → J i s.heap →
      (∀ s', Moved (S :: wr) G s s' → J n s'.heap → Old h0 s'.heap → R (.ok (.ret .none)) s') →
      codeAny (model P w) A (.builtin "set.update.loop" ⟨[.ref S, .ref I], []⟩) R s := by
  have nS : S ∉ wr := fun z => hS (W.sub _ z)
  have up : ∀ {s s' : Shared}, Moved wr G s s' → Old h0 s.heap → Old h0 s'.heap := fun mv z b o e => mv.heap b o (fun y => by rw [hw b y] at e; cases e) (z b o e)
  have held : ∀ {s s' : Shared}, Moved wr G s s' → Holds0 h0 S s.heap s'.heap := fun mv b o c e =>
    mv.heap b o (fun y => c.elim (fun z => nS (z ▸ y)) fun z => z (hw b y)) e
  intro m
  induction m with
  | zero =>
    intro i s em hi st old j fin
    obtain rfl : i = n := by omega
    refine codeAny_builtin F.entry_set_update_loop ?_
    rw [Around.under_plainId F.plain_set_update_loop _]
    show wpAny _ A.in1 (pyNext (.ref I) >>= _) _ _ s
    refine wpAny_bind (W.done s _ _ st fun s' mv => ?_)
    show wpAny _ A.in1 (ret Value.none) _ _ s'
    exact wpAny_pure (fin s' (mv.mono fun b hb => List.mem_cons_of_mem _ hb) (D.keep _ _ _ j (held mv)) (up mv old))
  | succ m ih =>
    intro i s em hi st old j fin
    have lt : i < n := by omega
    refine codeAny_builtin F.entry_set_update_loop ?_
    rw [Around.under_plainId F.plain_set_update_loop _]
    show wpAny _ A.in1 (pyNext (.ref I) >>= _) _ _ s
    refine wpAny_bind (W.item i s _ _ lt st fun v s' pv st' mv => ?_)
    show wpAny _ A.in1 (holding [v] (setAdd S v) >>= _) _ _ s'
    refine wpAny_bind (wpAny_holding (D.step A.in1 _ i v s' _ hu lt pv (D.keep _ _ _ j (held mv)) (up mv old) fun b h' tk sb j' => ?_))
    have old' : Old h0 h' := fun b o e => (sb.2 b fun z => by rw [z, hS0] at e; cases e).trans (up mv old b o e)
    refine wpAny_pure ⟨plainId_quiet F.plain_set_update_loop _, ih (i + 1) _ (by omega) lt (W.frame _ s' _ _ st' (Nat.le_add_right _ _) fun b hb o e => ?_) old' j' fun s'' mv'' j'' old'' => ?_⟩
    · rw [sb.2 b fun z => hS (z ▸ hb)]; exact e
    · refine fin s'' (Moved.trans W.gtrans ((mv.mono fun b hb => List.mem_cons_of_mem _ hb).then_heap (Nat.le_add_right _ _) fun b o hb e => ?_) mv'') j'' old''
      rw [sb.2 b fun z => hb (z ▸ List.mem_cons_self)]; exact e
/-- the new set -/
abbrev newSetO (w : World) : Obj := { cls := .type "set", dict := none, data := .set #[] 0 (.fresh 0 0 (!w.params.followText "set-order")) }
theorem set_of_list {l : Addr} {items : Array Value} {Q : Value → Shared → Prop} (hh : A.handled = none) (hl : s.heap.IsList l items) {d : Nat} (hu : A.units + 3 + d < cLine) (J : Nat → Heap → Prop)
    (D : Adds P w d s.heap.objs.size s.heap items.size (fun i v => items[i]? = some v) J) (j0 : ∀ h, h.get? s.heap.objs.size = some (newSetO w) → Old s.heap h → J 0 h)
    (h : ∀ (h' : Heap) (tk : Nat), J items.size h' → Old s.heap h' → Q (.ref s.heap.objs.size) { s with heap := h', toks := tk }) :
    wpAny (model P w) A (call (.type "set") [.ref l]) Q E s := by
  obtain ⟨c, tl, hmro⟩ := F.called_set.mro
  have hmade := F.called_set.made
  have hsub := F.called_set.sub
  refine wpAny_call (codeAny_of_tree ?_)
  show wpAny _ _ (callAny (.type "set") _) _ _ _
  refine wpAny_pure ⟨Code.quiet_builtin _ (by decide +kernel), codeAny_builtin F.entry_type_call ?_⟩
  rw [Around.under_plain (weight_type_call_type "set" [.ref l] []) rfl]
  have h1 := F.called_set.notType
  have h2 := F.called_set.canCreate
  have hct := F.typeCall_set_1 (.ref l)
  repeat (any_goals (first | assumption | wp_step))
  refine codeAny_mono (code_set_led1 (.ref l) (E := E) (Q₁ := fun obj s₁ => obj = .ref s.heap.objs.size ∧ s₁ = { s with heap := s.heap.push (newSetO w) }) ⟨rfl, rfl⟩) fun r s₁ hr => ?_
  cases r with
  | error e => exact hr
  | ok fl =>
    cases fl with
    | ret obj =>
      obtain ⟨rfl, rfl⟩ := hr
      have hS : (s.heap.push (newSetO w)).get? s.heap.objs.size = some (newSetO w) := Heap.get?_push_size _ rfl
      have hT : Shared.TypeIs { s with heap := s.heap.push (newSetO w) } (.ref s.heap.objs.size) "set" := ⟨_, hS, rfl⟩
      have hli := F.called_set.init.lookup
      have hbi := F.called_set.init.bind (.ref s.heap.objs.size)
      repeat (any_goals (first | assumption | wp_step))
      refine codeAny_mono (codeAny_call_builtin (R := wants (fun r s₂ => r = .none ∧ ∃ h' tk, s₂ = { s with heap := h', toks := tk } ∧ J items.size h' ∧ Old s.heap h') E) F.called_set.init.plain F.entry_set_init (check_set_init_1 hT ?_)) fun r₂ s₂ hr₂ => ?_
      · obtain ⟨ol, hol, hcl, nl, hdl⟩ := hl
        obtain ⟨ocls, odict, odata, oslots⟩ := ol
        simp only at hcl hdl
        subst hcl; subst hdl
        have hol' : (s.heap.push (newSetO w)).get? l = some { cls := .type "list", dict := odict, data := .seq items nl, slots := oslots } := Heap.get?_push_of_some _ hol
        have hsls := F.sub_list_set
        have hslf := F.sub_list_frozenset
        have hne : (Value.type "list" == Value.type "dict") = false := by decide
        have hl1 : (s.heap.push (newSetO w)).IsList l items := ⟨_, hol', rfl, nl, rfl⟩
        unfold Builtin.«set.__init__» noKeywords Builtin.Frozenset.updateFrom
        generalize hPI : pyIter = PI
        wp_walk
        subst hPI
        refine wpAny_pyIter_list hl1 ?_
        refine wpAny_bind (wpAny_runValue ?_)
        have lS : l < s.heap.objs.size := Heap.lt_size hol
        have nI : l ≠ (s.heap.push (newSetO w)).objs.size := by
          rw [Heap.size_push]; exact Nat.ne_of_lt (Nat.lt_succ_of_lt lS)
        have nS : s.heap.objs.size ∉ [(s.heap.push (newSetO w)).objs.size, l] := by
          rw [Heap.size_push]
          intro z
          rcases List.mem_cons.mp z with e | z
          · omega
          · exact absurd lS (by rw [List.mem_singleton.mp z]; exact Nat.lt_irrefl _)
        have free : ∀ b, s.heap.objs.size ≤ b → s.heap.get? b = none := fun b hb => by
          cases q : s.heap.get? b with
          | none => rfl
          | some o => exact absurd (Nat.lt_of_lt_of_le (Heap.lt_size q) hb) (Nat.lt_irrefl _)
        refine loop_adds ((Walks.list (by simp [hh]) _ l nI items).toS) nS (free _ (Nat.le_refl _)) (fun b hb => free b (by rw [List.mem_singleton.mp hb, Heap.size_push]; exact Nat.le_succ _)) D hu (items.size - 0) 0 _ (by omega) (Nat.zero_le _)
          ⟨⟨_, Heap.get?_push_size _ rfl, rfl, rfl⟩, (hl1.push _)⟩ (fun b o e => Heap.get?_push_of_some _ (Heap.get?_push_of_some _ e))
          (j0 _ (Heap.get?_push_of_some _ hS) fun b o e => Heap.get?_push_of_some _ (Heap.get?_push_of_some _ e)) fun s' mv j old => ?_
        obtain ⟨h', g2, d', tk', os'⟩ := s'
        have eg : g2 = s.gens := mv.gens
        have ed : d' = s.drawn := mv.drawn
        have eo : os' = s.os := mv.os
        subst eg; subst ed; subst eo
        show wpAny _ _ _ _ _ _
        refine wpAny_pure ?_
        show wpAny _ _ (ret Value.none) _ _ _
        exact wpAny_pure ⟨rfl, h', tk', rfl, j, old⟩
      · cases r₂ with
        | error e => exact hr₂
        | ok fl₂ =>
          cases fl₂ with
          | ret r =>
            obtain ⟨rfl, h', tk, rfl, j, old⟩ := hr₂
            repeat (any_goals (first | assumption | wp_step))
            exact h _ _ j old
          | _ => exact hr₂.elim
    | _ => exact hr.elim
end
end VT

set_option Elab.async false
set_option linter.all false
set_option maxRecDepth 100000
set_option maxHeartbeats 4000000
namespace VT
open PySem PySem.Spec PyProof.Rows L2
/-! over the layer: set(xs) of a list of tuples of ints and texts, sorted of such a set -/
section
variable {κ : Type} [DecidableEq κ] {P : Program} {w : World} {knd : Mem P w κ}
/-- the set alone, without its members' objects -/
def BareK (knd : Mem P w κ) (h : Heap) (a : Addr) (L : List (Addr × κ)) : Prop :=
  ∃ o es ep t, h.get? a = some o ∧ o.ExactSet ∧ o.data = .set es ep t ∧ es.toList = L.map (ent knd) ∧ Tbl t (L.map fun p => hOf knd p.2) ∧ (L.map (·.2)).Nodup ∧
    (w.params.followText "set-order" = true ∨ t.led = true) ∧ L.length * 5 < t.mask * 3 ∧ L.length < 1201
theorem SetK.bare {h : Heap} {a : Addr} {L : List (Addr × κ)} (M : SetK knd h a L) : BareK knd h a L := by
  obtain ⟨o, es, ep, t, ho, hx, hd, R, r, f⟩ := M
  exact ⟨o, es, ep, t, ho, hx, hd, R.rows, R.tab, R.nd, R.led, r, f⟩
theorem BareK.full {h : Heap} {a : Addr} {L : List (Addr × κ)} (M : BareK knd h a L) (hm : ∀ p ∈ L, knd.is h p.2 p.1) : SetK knd h a L := by
  obtain ⟨o, es, ep, t, ho, hx, hd, r1, r2, r3, r4, r, f⟩ := M
  exact ⟨o, es, ep, t, ho, hx, hd, ⟨r1, r2, r3, hm, r4⟩, r, f⟩
theorem BareK.at_ {h h' : Heap} {a : Addr} {L : List (Addr × κ)} (M : BareK knd h a L) (e : ∀ o, h.get? a = some o → h'.get? a = some o) : BareK knd h' a L := by
  obtain ⟨o, es, ep, t, ho, r⟩ := M
  exact ⟨o, es, ep, t, e o ho, r⟩
/-- the fresh set is the set of no members -/
theorem fresh_bare {h : Heap} {a : Addr} (e : h.get? a = some (newSetO w)) : BareK knd h a [] :=
  ⟨_, #[], 0, _, e, ⟨rfl, rfl, rfl⟩, rfl, rfl, ⟨List.Pairwise.nil, rfl, rfl, (by show Msk 7; unfold Msk; decide), fun x hx => (by cases hx), fun i h j hi => (by simp at hi)⟩, List.nodup_nil, by
    show _ ∨ (!w.params.followText "set-order") = true
    cases w.params.followText "set-order"
    · exact .inr rfl
    · exact .inl rfl, (by show 0 * 5 < 7 * 3; decide), (by show 0 < 1201; decide)⟩
theorem nodup_le {α : Type} [DecidableEq α] : ∀ (l m : List α), l.Nodup → (∀ x ∈ l, x ∈ m) → l.length ≤ m.length
  | [], m, _, _ => Nat.zero_le _
  | x :: l, m, nd, h => by
    obtain ⟨n1, n2⟩ := List.nodup_cons.mp nd
    have hx := h x List.mem_cons_self
    have ih := nodup_le l (m.erase x) n2 fun y hy => (List.mem_erase_of_ne (fun e => by rw [e] at hy; exact n1 hy)).mpr (h y (List.mem_cons_of_mem _ hy))
    rw [List.length_erase_of_mem hx] at ih
    have := List.length_pos_of_mem hx
    rw [List.length_cons]
    omega
/-- the keys are among 1,200 -/
def Few {α β : Type} (ks : List (β × α)) : Prop := ∃ U : List α, U.length ≤ 1200 ∧ ∀ p ∈ ks, p.2 ∈ U
theorem few_of {α β : Type} {ks : List (β × α)} (h : ks.length ≤ 1200) : Few ks := ⟨ks.map (·.2), by rw [List.length_map]; omega, fun p hp => List.mem_map_of_mem hp⟩
/-- the members after i items of the list -/
def Mid (knd : Mem P w κ) (a : Addr) (ks : List (Addr × κ)) (i : Nat) (h : Heap) : Prop :=
  ∃ L, BareK knd h a L ∧ (∀ p ∈ L, p ∈ ks.take i) ∧ (∀ p ∈ ks.take i, p.2 ∈ L.map (·.2)) ∧ L.length ≤ i
theorem mid_adds {S : Addr} {h0 : Heap} {items : Array Value} (ks : List (Addr × κ)) (hit : items.toList = ks.map fun p => Value.ref p.1) (hk : ∀ p ∈ ks, knd.is h0 p.2 p.1) (few : Few ks) :
    Adds P w knd.deep S h0 items.size (fun i v => items[i]? = some v) (Mid knd S ks) where
  keep := fun i h h' ⟨L, B, r⟩ z => ⟨L, B.at_ fun o e => z S o (.inl rfl) e, r⟩
  step := by
    intro A E i v s F hu hi hv ⟨L, B, sub, all, len⟩ old fin
    have hv2 : (ks.map fun p => Value.ref p.1)[i]? = some v := by rw [← hit, Array.getElem?_toList]; exact hv
    rw [List.getElem?_map] at hv2
    obtain ⟨p, hp, rfl⟩ := Option.map_eq_some_iff.mp hv2
    have pin := List.mem_of_getElem? hp
    have tk : ks.take (i + 1) = ks.take i ++ [p] := by rw [List.take_succ, hp] <;> rfl
    have mem : ∀ q ∈ L, knd.is s.heap q.2 q.1 := fun q hq => tuple_keep (hk q (List.mem_of_mem_take (sub q hq))) fun b o e => old b o e
    have hx : knd.is s.heap p.2 p.1 := tuple_keep (hk p pin) fun b o e => old b o e
    have small : i < ks.length := (List.getElem?_eq_some_iff.mp hp).1
    have room : p.2 ∉ L.map (·.2) → L.length + 1 < 1201 := fun c => by
      obtain ⟨U, hU, inU⟩ := few
      have ndL : (L.map (·.2)).Nodup := by
        obtain ⟨_, _, _, _, _, _, _, _, _, nd, _⟩ := B
        exact nd
      have z := nodup_le (p.2 :: L.map (·.2)) U (List.nodup_cons.mpr ⟨c, ndL⟩) fun x hx => by
        rcases List.mem_cons.mp hx with e | e
        · rw [e]; exact inU p pin
        · obtain ⟨q, hq, rfl⟩ := List.mem_map.mp e
          exact inU q (List.mem_of_mem_take (sub q hq))
      rw [List.length_cons, List.length_map] at z
      omega
    unfold setAdd
    refine wpAny_holding (wpAny_bind (knd.hashes hu hx ?_))
    refine add (s := { s with toks := s.toks + knd.toks p.2 }) (B.full mem) hx hu room fun b h' L' sb M' c1 c2 => fin b h' (knd.toks p.2) sb ⟨L', M'.bare, ?_⟩
    by_cases c : p.2 ∈ L.map (·.2)
    · rw [c1 c, tk]
      refine ⟨fun q hq => List.mem_append_left _ (sub q hq), fun q hq => ?_, by omega⟩
      rcases List.mem_append.mp hq with z | z
      · exact all q z
      · rw [List.mem_singleton.mp z]; exact c
    · have pm := c2 c
      rw [tk]
      refine ⟨fun q hq => ?_, fun q hq => ?_, by rw [pm.length_eq, List.length_cons]; omega⟩
      · rcases List.mem_cons.mp (pm.mem_iff.mp hq) with e | z
        · rw [e]; exact List.mem_append_right _ (List.mem_singleton.mpr rfl)
        · exact List.mem_append_left _ (sub q z)
      · rw [(pm.map (·.2)).mem_iff, List.map_cons]
        rcases List.mem_append.mp hq with z | z
        · exact List.mem_cons_of_mem _ (all q z)
        · rw [List.mem_singleton.mp z]; exact List.mem_cons_self
end
/-- the members of a set made of ks -/
structure Of {κ : Type} (ks L : List (Addr × κ)) : Prop where
  sub : ∀ p ∈ L, p ∈ ks
  all : ∀ p ∈ ks, p.2 ∈ L.map (·.2)
  nd : (L.map (·.2)).Nodup
def SetKO (P : Program) (w : World) (a : Addr) (L : List (Addr × List Key)) : HO := .ext fun h => BareK (tupM (mixKind P w)) h a L
section
variable {X : Cx} {P : Program} {w : World}
theorem setKO_new {H : Hp} {h : Heap} {a : Addr} {L : List (Addr × List Key)} (M : BareK (tupM (mixKind P w)) h a L) : ObjOk P w H h a (SetKO P w a L) := by
  have ⟨o, _, _, _, ho, _⟩ := M
  exact ⟨M, ⟨o, ho⟩, fun _ _ p q => BareK.at_ p q⟩
theorem items_vals : ∀ {k : List Key} {us : List Value}, Vals (k.map kV) us → ItemsAre (mixKind P w) k us
  | [], us, r => by rw [List.map_nil] at r; cases r; exact .nil
  | k :: ks, us, r => by
    rw [List.map_cons] at r
    cases r with
    | cons h t => exact .cons (kV_is h) (items_vals t)
theorem inv_tuple {pins : List (Addr × Obj)} {σ : L2.St} {H : Hp} {s : Shared} {b : Addr} {k : List Key} (I : Inv X pins σ H s) (h : SqT X.K H b (k.map kV)) : IsTupleKey (mixKind X.prog X.w) s.heap k b := by
  obtain ⟨its, r, ⟨o, ho, hc, n, hd⟩, _⟩ := I.tuple h
  exact ⟨o, its.toArray, n, ho, hc, hd, by simpa using items_vals r⟩
theorem refs_list : ∀ {ks : List (Addr × List Key)} {us : List Value}, Vals (ks.map fun p => V.ref p.1) us → us = ks.map fun p => Value.ref p.1
  | [], us, r => by rw [List.map_nil] at r; cases r; rfl
  | k :: ks, us, r => by
    rw [List.map_cons] at r
    cases r with
    | cons h t => rw [refs_list t, List.map_cons, show _ = Value.ref k.1 from h]
/-- set(xs) -/
def rSetT (K : PySem.W.Frag) (P : Program) (w : World) : List V → Hp → VK → Prop := fun xs H Q => ∃ (l : Addr) (ks : List (Addr × List Key)), xs = [V.ref l] ∧ SqL K H l (ks.map fun p => V.ref p.1) ∧
  (∀ p ∈ ks, SqT K H p.1 (p.2.map kV)) ∧ Few ks ∧ ∀ (a : Addr) (L : List (Addr × List Key)), H a = none → Of ks L → Q (.ref a) (upd H a (SetKO P w a L))
theorem cr_setT {K : PySem.W.Frag} (hK : X.K = K) (hP : X.prog = P) (hw : X.w = w) (hc : X.calm = true) (hu : X.A.units + 3 < cLine) : CallR X (.type "set") (rSetT K P w) := by
  subst hK
  subst hP
  subst hw
  intro pins s σ H xs us Q I r h
  obtain ⟨l, ks, rfl, hS, hk, few, q⟩ := h
  obtain ⟨its, rv, hl, hz⟩ := I.list hS
  rw [Vals.ref1 r]
  have hit := refs_list rv
  have hk0 : ∀ p ∈ ks, (tupM (mixKind X.prog X.w)).is s.heap p.2 p.1 := fun p hp => inv_tuple I (hk p hp)
  have szs : its.toArray.size = ks.length := by rw [List.size_toArray, hit, List.length_map]
  refine set_of_list (I.ok.hd hc) hl.isList hu (Mid (tupM (mixKind X.prog X.w)) s.heap.objs.size ks) (mid_adds ks (by simpa using hit) hk0 few) (fun h' e _ => ⟨[], fresh_bare e, fun p z => absurd z List.not_mem_nil, fun p z => absurd z (by rw [List.take_zero]; exact List.not_mem_nil), Nat.zero_le _⟩) fun h' tk j old => ?_
  rw [szs] at j
  obtain ⟨L, B, sub, all, _⟩ := j
  rw [List.take_length] at sub all
  have fr : H s.heap.objs.size = none := I.hok.fresh (Nat.le_refl _)
  have nd : (L.map (·.2)).Nodup := by
    obtain ⟨_, _, _, _, _, _, _, _, _, nd, _⟩ := B
    exact nd
  exact ⟨.ref _, upd H s.heap.objs.size (SetKO X.prog X.w s.heap.objs.size L), I.laid (t' := tk) old (Nat.le_refl _) (setKO_new B), rfl, q _ L fr ⟨sub, all, nd⟩⟩
/-! sorted of it -/
def keyD : Key → PyData
  | .inl i => .int i
  | .inr x => .str x
def keysD (k : List Key) : PyData := .tuple (k.map keyD)
theorem key_read {h : Heap} {k : Key} {u : Value} (e : (mixKind P w).is k u = true) : Reads h u (keyD k) [] := by
  rcases keyIs_shape e with ⟨i, t, rfl, rfl⟩ | ⟨x, t, rfl, rfl⟩
  · exact .int i t
  · exact .str x t
theorem keys_read {h : Heap} : ∀ {k : List Key} {us : List Value}, ItemsAre (mixKind P w) k us → ReadsAll h us (k.map keyD) []
  | _, _, .nil => .nil
  | _, _, .cons e t => ReadsAll.cons (as := []) (bs := []) (key_read e) (keys_read t)
theorem tuple_read {h : Heap} {k : List Key} {b : Addr} (e : IsTupleKey (mixKind P w) h k b) : Reads h (.ref b) (keysD k) [] := by
  obtain ⟨o, items, n, ho, hc, hd, hi⟩ := e
  exact .tuple ho hc hd (keys_read hi)
theorem keys_flat : ∀ k : List Key, PyData.depthAll (k.map keyD) = 0
  | [] => rfl
  | .inl i :: k => by rw [List.map_cons]; simp only [PyData.depthAll, keyD, PyData.depth, keys_flat k, Nat.max_self]
  | .inr i :: k => by rw [List.map_cons]; simp only [PyData.depthAll, keyD, PyData.depth, keys_flat k, Nat.max_self]
theorem keys_depth (k : List Key) : (keysD k).depth = 1 := by
  unfold keysD PyData.depth
  rw [keys_flat]
def leK (p q : Addr × List Key) : Bool := PySem.W.dataLe false (fun p : Addr × List Key => keysD p.2) p q
def rSortT (P : Program) (w : World) (K : PySem.W.Frag) : List V → Hp → VK → Prop := fun vs H Q => ∃ (a : Addr) (L : List (Addr × List Key)), vs = [V.ref a] ∧ H a = some (SetKO P w a L) ∧ (∀ p ∈ L, SqT K H p.1 (p.2.map kV)) ∧
  PySem.W.AllAlike (L.map fun p => keysD p.2) ∧ (∀ p ∈ L, p.2 ≠ []) ∧ ∀ (L' : List (Addr × List Key)) (p : Addr), L'.Perm L → H p = none → Q (.ref p) (upd H p (.lst ((L'.mergeSort leK).map fun q => V.ref q.1)))
theorem each_refs : ∀ L : List (Addr × List Key), PySem.W.EachIs (fun (u : Value) (p : Addr × List Key) => u = Value.ref p.1) (L.map fun p => Value.ref p.1) L
  | [] => .nil
  | p :: L => .cons rfl (each_refs L)
theorem each_out : ∀ {L : List (Addr × List Key)} {us : List Value}, PySem.W.EachIs (fun (u : Value) (p : Addr × List Key) => u = Value.ref p.1) us L → Vals (L.map fun p => V.ref p.1) us
  | _, _, .nil => .nil
  | _, _, .cons h t => .cons (by rw [h]; rfl) (each_out t)
theorem perm_lift {α β : Type} {f : α → β} : ∀ {l : List α} {us : List β}, us.Perm (l.map f) → ∃ l' : List α, l'.Perm l ∧ us = l'.map f := by
  intro l us h
  have : ∀ {us vs : List β}, us.Perm vs → ∀ l : List α, vs = l.map f → ∃ l' : List α, l'.Perm l ∧ us = l'.map f := by
    intro us vs h
    induction h with
    | nil => intro l e; exact ⟨[], by rw [List.map_eq_nil_iff.mp e.symm], rfl⟩
    | @cons x l1 l2 _ ih =>
      intro l e
      cases l with
      | nil => cases e
      | cons y l =>
        rw [List.map_cons] at e
        injection e with e1 e2
        obtain ⟨l', p, e3⟩ := ih l e2
        exact ⟨y :: l', p.cons y, by rw [List.map_cons, ← e1, e3]⟩
    | swap x y l1 =>
      intro l e
      match l, e with
      | a :: b :: l, e =>
        rw [List.map_cons, List.map_cons] at e
        injection e with e1 e2
        injection e2 with e2 e3
        exact ⟨b :: a :: l, .swap a b l, by rw [List.map_cons, List.map_cons, ← e1, ← e2, e3]⟩
    | trans _ _ ih1 ih2 =>
      intro l e
      obtain ⟨l2, p2, e2⟩ := ih2 l e
      obtain ⟨l1, p1, e1⟩ := ih1 l2 e2
      exact ⟨l1, p1.trans p2, e1⟩
  exact this h l rfl
theorem cr_sortT {K : PySem.W.Frag} (hK : X.K = K) (hP : X.prog = P) (hw : X.w = w) {k : Nat} (hc : X.calm = true) (hr : Room k X.A) : CallR X (.builtin "sorted") (rSortT P w K) := by
  subst hK
  subst hP
  subst hw
  intro pins s σ H vs us Q I r h
  obtain ⟨a, L, rfl, ha, hk, hal, hne, q⟩ := h
  have M0 : BareK (tupM (mixKind X.prog X.w)) s.heap a L := (I.hok a _ ha).1
  obtain ⟨o, es, ep, t, ho, hx, hd, R, room, few⟩ := M0.full fun p hp => inv_tuple I (hk p hp)
  rw [Vals.ref1 r]
  have hun := hr.un
  refine Calls.call_function_entry kind_sorted plain_sorted entry_sorted (args_sorted1 _) ?_
  unfold Builtin.«sorted»
  refine wpAny_bind (m := checkCount "sorted" 1 1 _) (wpAny_pure ?_)
  refine wpAny_bind (collect_set (A := X.A.in1) (I.ok.hd hc) ⟨o, ho, hx.1, hd⟩ (R.fits (by omega)) (by rw [R.size]; exact Nat.lt_of_lt_of_le few (by decide)) R.tab.ris R.led fun s1 us1 k1 hz g1 o1 pm => ?_)
  have pm2 : us1.Perm (L.map fun p => Value.ref p.1) := by
    rw [R.rows, List.map_map] at pm
    exact pm
  obtain ⟨L', pl, rfl⟩ := perm_lift pm2
  have len : L'.length = L.length := pl.length_eq
  have lim : (L'.map fun p => Value.ref p.1).length ≤ sizeLine := by rw [List.length_map, len, sizeLine_eq]; omega
  refine wpAny_bind (wpAny_newList ?_ lim)
  have hoL : (s1.heap.push (seqObj "list" (L'.map fun p => Value.ref p.1).toArray 0)).get? s1.heap.objs.size = some (seqObj "list" (L'.map fun p => Value.ref p.1).toArray 0) := Heap.get?_push_size _ rfl
  refine wpAny_bind (wpAny_holding (PySem.W.list_sort_data (enc := fun p : Addr × List Key => keysD p.2) (bs := L') (R := fun (u : Value) (p : Addr × List Key) => u = Value.ref p.1) hoL (each_refs L') ?_ ?_ ?_ (by rw [len, sizeLine_eq]; omega) ?_ fun out lo eo => ?_))
  · have go : ∀ l : List (Addr × List Key), (∀ p ∈ l, p ∈ L) → PySem.W.EachIs (fun (u : Value) (p : Addr × List Key) => ∃ as, Reads (s1.heap.push (seqObj "list" (L'.map fun p => Value.ref p.1).toArray 0)) u (keysD p.2) as ∧ s1.heap.objs.size ∉ as) (l.map fun p => Value.ref p.1) l := by
      intro l
      induction l with
      | nil => intro _; exact .nil
      | cons p l ih =>
        intro hl
        refine .cons ⟨[], tuple_read (tuple_keep (R.mem p (hl p List.mem_cons_self)) fun b o e => Heap.get?_push_of_some _ (k1 b o e)), by simp⟩ (ih fun q hq => hl q (List.mem_cons_of_mem _ hq))
    exact go L' fun p hp => pl.mem_iff.mp hp
  · intro d hd' d' hd''
    refine hal d ?_ d' ?_
    · exact (pl.map _).mem_iff.mp hd'
    · exact (pl.map _).mem_iff.mp hd''
  · refine .inl fun d hd' => ?_
    obtain ⟨p, hp, rfl⟩ := List.mem_map.mp hd'
    have ne := hne p (pl.mem_iff.mp hp)
    cases e : p.2 with
    | nil => exact absurd e ne
    | cons x r => exact ⟨keyD x, r.map keyD, by rw [keysD, List.map_cons]⟩
  · intro p hp
    show X.A.units + 1 + 1 + (keysD p.2).depth < cLine
    rw [keys_depth]
    omega
  · obtain ⟨c, hc'⟩ := sortedHeap_at (vs := L'.map fun p => Value.ref p.1) (out := out.toArray) hoL
    have kp : ∀ b u, s.heap.get? b = some u → (PyProof.Rows.sortedHeap (s1.heap.push (seqObj "list" (L'.map fun p => Value.ref p.1).toArray 0)) s1.heap.objs.size (L'.map fun p => Value.ref p.1) out.toArray).get? b = some u := by
      intro b u e
      have hlt := Heap.lt_size (k1 b u e)
      rw [sortedHeap_old (Nat.ne_of_lt hlt) (by rw [size_push']; exact Nat.lt_succ_of_lt hlt)]
      exact Heap.get?_push_of_some _ (k1 b u e)
    have fr : H s1.heap.objs.size = none := I.hok.fresh hz
    have rv : Vals ((L'.mergeSort leK).map fun p => V.ref p.1) out := each_out eo
    have J : Inv X pins σ (upd H s1.heap.objs.size (.lst ((L'.mergeSort leK).map fun p => V.ref p.1)))
        { s with heap := PyProof.Rows.sortedHeap (s1.heap.push (seqObj "list" (L'.map fun p => Value.ref p.1).toArray 0)) s1.heap.objs.size (L'.map fun p => Value.ref p.1) out.toArray, gens := s1.gens, drawn := s1.drawn, toks := s1.toks } :=
      I.call (ch := []) (Un.laid kp hz fr) (I.hok.laid kp hz ⟨by rw [List.length_map, List.length_mergeSort, len, sizeLine_eq]; omega, out, c, rv, hc'⟩) (by rw [g1]; exact I.bare) (fun _ z => nomatch z)
    refine wpAny_pure ⟨_, rfl, ?_⟩
    rw [show ({ s1 with heap := PyProof.Rows.sortedHeap (s1.heap.push (seqObj "list" (L'.map fun p => Value.ref p.1).toArray 0)) s1.heap.objs.size (L'.map fun p => Value.ref p.1) out.toArray } : Shared) =
        { s with heap := PyProof.Rows.sortedHeap (s1.heap.push (seqObj "list" (L'.map fun p => Value.ref p.1).toArray 0)) s1.heap.objs.size (L'.map fun p => Value.ref p.1) out.toArray, gens := s1.gens, drawn := s1.drawn, toks := s1.toks } by rw [← o1]]
    exact ⟨.ref _, _, J, rfl, q L' _ pl fr⟩
end
end VT

set_option Elab.async false
set_option linter.all false
set_option maxRecDepth 100000
set_option maxHeartbeats 4000000
namespace VO
open PySem PySem.Spec PyProof.Rows L2 LamX NdefX VB
/-- a statement that is never reached -/
def tNever : TS := fun _ _ _ => False
theorem ps_never {X : Cx} (st : Stmt) : PS X st tNever := ⟨fun pins s σ H D I h => h.elim⟩
/-! set(xs), xs a list of texts -/
def MidS (P : Program) (w : World) (a : Addr) (ss : List Str) (i : Nat) (h : Heap) : Prop :=
  ∃ (S : Key → Bool) (n : Nat), VS.SetM w h a S n ∧ (∀ k, S k = true ↔ ∃ x ∈ ss.take i, k = Sum.inr x) ∧ n ≤ i
theorem strs_at : ∀ {ss : List Str} {us : List Value}, Vals (ss.map V.str) us → ∀ {i : Nat} {v : Value}, us[i]? = some v → ∃ x, ss[i]? = some x ∧ RelV (V.str x) v
  | [], us, r, i, v, e => by rw [List.map_nil] at r; cases r; simp at e
  | x :: ss, us, r, i, v, e => by
    rw [List.map_cons] at r
    cases r with
    | cons h t =>
      cases i with
      | zero => simp at e; subst e; exact ⟨x, rfl, h⟩
      | succ i => exact strs_at t (by simpa using e)
theorem midS_adds {P : Program} {w : World} {a : Addr} {h0 : Heap} {items : Array Value} (ss : List Str) (hit : Vals (ss.map V.str) items.toList) (few : ss.length + 1 < scanBound) :
    VT.Adds P w 0 a h0 items.size (fun i v => items[i]? = some v) (MidS P w a ss) where
  keep := fun i h h' ⟨S, n, M, r⟩ z => ⟨S, n, M.at fun o e => z a o (.inl rfl) e, r⟩
  step := by
    intro A E i v s F hu hi hv ⟨S, n, M, mem, len⟩ old fin
    obtain ⟨x, hx, hr⟩ := strs_at hit (i := i) (v := v) (by rw [Array.getElem?_toList]; exact hv)
    have tk : ss.take (i + 1) = ss.take i ++ [x] := by rw [List.take_succ, hx] <;> rfl
    have small : i < ss.length := (List.getElem?_eq_some_iff.mp hx).1
    have hkey : (mixKind P w).is (Sum.inr x) v = true := kV_is (k := Sum.inr x) hr
    have hsc : v.scannable = true := key_scan (k := Sum.inr x) hr
    unfold setAdd
    refine wpAny_holding (wpAny_bind ((mixKind P w).pyHash hkey ?_))
    refine VS.add_hashedM (s := { s with toks := s.toks + 1 }) hkey hsc M (by omega) fun h' sb M' => fin _ h' 1 sb ⟨_, _, M', fun k => ?_, ?_⟩
    · rw [Bool.or_eq_true, decide_eq_true_eq, mem, tk]
      constructor
      · rintro (⟨y, hy, e⟩ | e)
        · exact ⟨y, List.mem_append_left _ hy, e⟩
        · exact ⟨x, List.mem_append_right _ (List.mem_singleton.mpr rfl), e⟩
      · rintro ⟨y, hy, e⟩
        rcases List.mem_append.mp hy with z | z
        · exact .inl ⟨y, z, e⟩
        · rw [List.mem_singleton.mp z] at e; exact .inr e
    · split <;> omega
theorem noneS (ss : List Str) : ∀ k : Key, (fun _ : Key => false) k = true ↔ ∃ x ∈ ss.take 0, k = Sum.inr x := fun k => ⟨fun z => Bool.noConfusion z, fun ⟨x, z, _⟩ => absurd z (by rw [List.take_zero]; exact List.not_mem_nil)⟩
def rSetS (K : PySem.W.Frag) (w : World) : List V → Hp → VK → Prop := fun xs H Q => ∃ (l : Addr) (ss : List Str), xs = [V.ref l] ∧ SqL K H l (ss.map V.str) ∧ ss.length + 1 < scanBound ∧
  ∀ (a : Addr) (S : Key → Bool) (n : Nat), H a = none → (∀ k, S k = true ↔ ∃ x ∈ ss, k = Sum.inr x) → n ≤ ss.length → Q (.ref a) (upd H a (VS.SetMO w a S n))
theorem cr_setS {X : Cx} {K : PySem.W.Frag} {w : World} (hK : X.K = K) (hw : X.w = w) (hc : X.calm = true) (hu : X.A.units + 3 < cLine) : CallR X (.type "set") (rSetS K w) := by
  subst hK
  subst hw
  intro pins s σ H xs us Q I r h
  obtain ⟨l, ss, rfl, hS, few, q⟩ := h
  obtain ⟨its, rv, hl, hz⟩ := I.list hS
  rw [Vals.ref1 r]
  have szs : its.toArray.size = ss.length := by rw [List.size_toArray, ← rv.length, List.length_map]
  refine VT.set_of_list (I.ok.hd hc) hl.isList hu (MidS X.prog X.w s.heap.objs.size ss) (midS_adds ss (by simpa using rv) few) (fun h' e _ => ⟨fun _ => false, 0, ?_, noneS ss, Nat.zero_le _⟩) fun h' tk j old => ?_
  · refine ⟨_, #[], 0, _, e, ⟨rfl, rfl, rfl⟩, rfl, (fun e he => by simp at he), (by simp), (fun k => by simp), (by decide), (by rfl), rfl, List.Pairwise.nil, ?_⟩
    show _ ∨ (!X.w.params.followText "set-order") = true
    cases X.w.params.followText "set-order"
    · exact .inr rfl
    · exact .inl rfl
  rw [szs] at j
  obtain ⟨S, n, M, mem, len⟩ := j
  rw [List.take_length] at mem
  have fr : H s.heap.objs.size = none := I.hok.fresh (Nat.le_refl _)
  exact ⟨.ref _, upd H s.heap.objs.size (VS.SetMO X.w s.heap.objs.size S n), I.laid (t' := tk) old (Nat.le_refl _) (VS.setMO_new (P := X.prog) M), rfl, q _ S n fr mem len⟩
/-! d.setdefault(t, e), t a tuple of ints and texts -/
section
variable {X : Cx} {o e f : Expr} {td ty tx : TE} {apos cpos : Pos}
def tSetdT (td ty tx : TE) : TE := fun σ H Q => td σ H fun x H1 => ∃ a, x = .ref a ∧ IsD H1 a ∧ ty σ H1 fun y H2 => tx σ H2 fun z H3 => ∃ (kvs : List (List Key × V)) (k : List Key) (b : Addr), H3 a = some (.dT kvs) ∧ y = .ref b ∧ H3 b = some (.tup (k.map kV)) ∧
  kvs.length < sizeLine ∧ (∀ v, valV kvs k = some v → Q v H3) ∧ (valV kvs k = none → Q z (upd H3 a (.dT (putK kvs k z))))
theorem pe_setdT (hu : X.A.units + 1 < cLine) (ho : PE X o td) (he : PE X e ty) (hf : PE X f tx) (m : M2 X o "setdefault" apos e f cpos) : PE X (.Call (.Attribute o "setdefault" apos) [e, f] [] cpos) (tSetdT td ty tx) := by
  refine ⟨fun pins s σ H Q I h => ?_⟩
  refine wpAny_Call_method m.base m.few m.line PySem.F.plainAttrs_dict PySem.F.slot_dict_setdefault PySem.F.type_dict_setdefault (thn (ho.run pins s σ H _ I h) fun u s1 ⟨x, H1, I1, rx, a, ex, d, q1⟩ => ?_)
  subst ex
  obtain rfl : u = Value.ref a := rx
  obtain ⟨t1, t2, _⟩ := isD_at I1 d
  refine ⟨t1, t2, ?_⟩
  rw [m.trees]
  refine Calls.callWith_builtin rfl (Calls.evalArgs_plain (Calls.spliced_cons (thn (he.run pins s1 σ H1 _ I1 q1) fun iv s2 ⟨y, H2, I2, ry, q2⟩ =>
    Calls.spliced_cons (thn (hf.run pins s2 σ H2 _ I2 q2) fun fv s3 ⟨z, H3, I3, rz, kvs, k, b, ea, ey, eb, hl, q3, q4⟩ => Calls.spliced_nil ?_))))
  subst ey
  obtain rfl : iv = Value.ref b := ry
  obtain ⟨len, low, xs, kt, dh⟩ := dt_of I3.hok ea
  have room : X.A.in1.units < cLine := by
    show X.A.units + 1 < cLine
    exact hu
  refine PySem.call_setdefault_heap (knd := tupleKind (mixKind X.prog X.w)) room (key_of I3.hok eb) low dh (fun p hp => ?_) (fun hn h' dh' sb => ?_) (by rw [← kt.length]; exact len)
  · have g := kt.val k
    rw [hp] at g
    cases c : valV kvs k with
    | none => rw [c] at g; exact (show False from g).elim
    | some v => rw [c] at g; exact ⟨v, H3, I3.tok _, g, q3 v c⟩
  · have g := kt.val k
    rw [hn] at g
    cases c : valV kvs k with
    | some v => rw [c] at g; exact (show False from g).elim
    | none =>
      have l2 : (putK kvs k z).length ≤ sizeLine := by
        have := length_putK kvs k z
        omega
      obtain ⟨q, es, ep, hq, g1, g2, g3, _, g4⟩ := dh'
      refine ⟨z, _, d_write (ob := .dT (putK kvs k z)) I3 (by rw [ea]; exact True.intro) sb ⟨q, hq⟩ ⟨l2, low, _, (kt.put k eb rz).keeps fun c ys ec => ?_, q, es, ep, hq, g1, g2, g3, g4⟩, rz, q4 c⟩
      rw [upd_ne (ne_of ec ea (fun z => nomatch z))]
      exact ec
end
end VO

set_option Elab.async false
set_option linter.all false
set_option maxRecDepth 100000
set_option maxHeartbeats 4000000
namespace VM
open PySem PySem.Spec PyProof.Rows L2 LamX NdefX VB
/-! edges and their order -/
abbrev Ed := Int × Str × Int
abbrev Pr := Str × Int
def edV (e : Ed) : List V := [.int e.1, .str e.2.1, .int e.2.2]
def edK (e : Ed) : List Key := [.inl e.1, .inr e.2.1, .inl e.2.2]
def edD (e : Ed) : PyData := .tuple [.int e.1, .str e.2.1, .int e.2.2]
def pqV (e : Pr) : List V := [.str e.1, .int e.2]
def pqD (e : Pr) : PyData := .tuple [.str e.1, .int e.2]
def sLt (a b : Str) : Prop := a.cps.toList < b.cps.toList
instance (a b : Str) : Decidable (sLt a b) := inferInstanceAs (Decidable (a.cps.toList < b.cps.toList))
def ltP (a b : Pr) : Prop := sLt a.1 b.1 ∨ (a.1 = b.1 ∧ a.2 < b.2)
instance (a b : Pr) : Decidable (ltP a b) := inferInstanceAs (Decidable (_ ∨ _))
def ltE (a b : Ed) : Prop := a.1 < b.1 ∨ (a.1 = b.1 ∧ ltP a.2 b.2)
instance (a b : Ed) : Decidable (ltE a b) := inferInstanceAs (Decidable (_ ∨ _))
theorem sLt_irrefl (a : Str) : ¬ sLt a a := List.lt_irrefl _
theorem sLt_trans {a b c : Str} (h : sLt a b) (g : sLt b c) : sLt a c := List.lt_trans h g
theorem sLt_tri {a b : Str} (h : ¬ sLt a b) (g : ¬ sLt b a) : a = b :=
  PyProof.Rows.ext_toList (List.le_antisymm (List.not_lt.mp g) (List.not_lt.mp h))
theorem ltP_irrefl (a : Pr) : ¬ ltP a a := fun z => z.elim (sLt_irrefl _) fun z => Int.lt_irrefl _ z.2
theorem ltP_trans {a b c : Pr} (h : ltP a b) (g : ltP b c) : ltP a c := by
  rcases h with h | ⟨h1, h2⟩
  · rcases g with g | ⟨g1, g2⟩
    · exact .inl (sLt_trans h g)
    · exact .inl (g1 ▸ h)
  · rcases g with g | ⟨g1, g2⟩
    · exact .inl (h1 ▸ g)
    · exact .inr ⟨h1.trans g1, Int.lt_trans h2 g2⟩
theorem ltP_tri {a b : Pr} (h : ¬ ltP a b) (g : ¬ ltP b a) : a = b := by
  have e1 : a.1 = b.1 := sLt_tri (fun z => h (.inl z)) fun z => g (.inl z)
  have h2 : ¬ a.2 < b.2 := fun z => h (.inr ⟨e1, z⟩)
  have g2 : ¬ b.2 < a.2 := fun z => g (.inr ⟨e1.symm, z⟩)
  exact Prod.ext e1 (by omega)
theorem ltE_irrefl (a : Ed) : ¬ ltE a a := fun z => z.elim (Int.lt_irrefl _) fun z => ltP_irrefl _ z.2
theorem ltE_trans {a b c : Ed} (h : ltE a b) (g : ltE b c) : ltE a c := by
  rcases h with h | ⟨h1, h2⟩
  · rcases g with g | ⟨g1, g2⟩
    · exact .inl (Int.lt_trans h g)
    · exact .inl (g1 ▸ h)
  · rcases g with g | ⟨g1, g2⟩
    · exact .inl (h1 ▸ g)
    · exact .inr ⟨h1.trans g1, ltP_trans h2 g2⟩
theorem ltE_tri {a b : Ed} (h : ¬ ltE a b) (g : ¬ ltE b a) : a = b := by
  have h1 : ¬ a.1 < b.1 := fun z => h (.inl z)
  have g1 : ¬ b.1 < a.1 := fun z => g (.inl z)
  have e1 : a.1 = b.1 := by omega
  exact Prod.ext e1 (ltP_tri (fun z => h (.inr ⟨e1, z⟩)) fun z => g (.inr ⟨e1.symm, z⟩))
/-- a list without repetition, ascending, is told by its members -/
theorem asc_unique {α : Type} {lt : α → α → Prop} (ir : ∀ a, ¬ lt a a) (tr : ∀ a b c, lt a b → lt b c → lt a c) : ∀ {l m : List α}, l.Pairwise lt → m.Pairwise lt → (∀ x, x ∈ l ↔ x ∈ m) → l = m
  | [], [], _, _, _ => rfl
  | [], b :: m, _, _, h => absurd ((h b).2 List.mem_cons_self) List.not_mem_nil
  | a :: l, [], _, _, h => absurd ((h a).1 List.mem_cons_self) List.not_mem_nil
  | a :: l, b :: m, hl, hm, h => by
    obtain ⟨l1, l2⟩ := List.pairwise_cons.mp hl
    obtain ⟨m1, m2⟩ := List.pairwise_cons.mp hm
    have e : a = b := by
      rcases List.mem_cons.mp ((h a).1 List.mem_cons_self) with z | z
      · exact z
      · rcases List.mem_cons.mp ((h b).2 List.mem_cons_self) with y | y
        · exact y.symm
        · exact absurd (tr _ _ _ (l1 b y) (m1 a z)) (ir a)
    subst e
    rw [asc_unique ir tr l2 m2 fun x => ?_]
    constructor
    · intro z
      rcases List.mem_cons.mp ((h x).1 (List.mem_cons_of_mem _ z)) with y | y
      · exact absurd (l1 x z) (y ▸ ir a)
      · exact y
    · intro z
      rcases List.mem_cons.mp ((h x).2 (List.mem_cons_of_mem _ z)) with y | y
      · exact absurd (m1 x z) (y ▸ ir a)
      · exact y
theorem ascE {l m : List Ed} (hl : l.Pairwise ltE) (hm : m.Pairwise ltE) (h : ∀ x, x ∈ l ↔ x ∈ m) : l = m := asc_unique ltE_irrefl (fun _ _ _ => ltE_trans) hl hm h
theorem ascP {l m : List Pr} (hl : l.Pairwise ltP) (hm : m.Pairwise ltP) (h : ∀ x, x ∈ l ↔ x ∈ m) : l = m := asc_unique ltP_irrefl (fun _ _ _ => ltP_trans) hl hm h
/-! the order of the data -/
theorem dataLt_pr (a b : Pr) : PySem.W.dataLt (pqD a) (pqD b) = decide (ltP a b) := by
  unfold pqD
  rw [PySem.W.dataLt_pair rfl rfl, PySem.W.dataLt_str]
  by_cases e : a.1 = b.1
  · rw [if_pos (by rw [e]; simp [PyData.eqv])]
    by_cases e2 : a.2 = b.2
    · rw [if_pos (by rw [e2]; simp [PyData.eqv])]
      refine (decide_eq_false fun z => ?_).symm
      rcases z with z | z
      · rw [e] at z; exact sLt_irrefl _ z
      · omega
    · rw [if_neg (by simp [PyData.eqv, e2]), PySem.W.dataLt_int]
      refine decide_eq_decide.mpr ⟨fun z => .inr ⟨e, z⟩, fun z => ?_⟩
      rcases z with z | z
      · rw [e] at z; exact absurd z (sLt_irrefl _)
      · exact z.2
  · rw [if_neg (by simp [PyData.eqv, e])]
    refine decide_eq_decide.mpr ⟨fun z => .inl z, fun z => ?_⟩
    rcases z with z | z
    · exact z
    · exact absurd z.1 e
theorem dataLt_ed (a b : Ed) : PySem.W.dataLt (edD a) (edD b) = decide (ltE a b) := by
  have h2 : PySem.W.dataLt (pqD a.2) (pqD b.2) = decide (ltP a.2 b.2) := dataLt_pr a.2 b.2
  unfold pqD at h2
  rw [PySem.W.dataLt_tuple] at h2
  unfold edD
  rw [PySem.W.dataLt_tuple, PySem.W.dataLt_cons rfl, h2, PySem.W.dataLt_int]
  by_cases e : a.1 = b.1
  · rw [if_pos (by rw [e]; simp [PyData.eqv])]
    refine decide_eq_decide.mpr ⟨fun z => .inr ⟨e, z⟩, fun z => ?_⟩
    rcases z with z | z
    · omega
    · exact z.2
  · rw [if_neg (by simp [PyData.eqv, e])]
    refine decide_eq_decide.mpr ⟨fun z => .inl z, fun z => ?_⟩
    rcases z with z | z
    · exact z
    · exact absurd z.1 e
/-- what sorting leaves of distinct items: ascending -/
theorem asc_of_sorted {α : Type} {lt : α → α → Prop} [DecidableRel lt] (tri : ∀ a b, ¬ lt a b → ¬ lt b a → a = b) {le : α → α → Bool} (hle : ∀ a b, le a b = !decide (lt b a)) (tr : ∀ a b c, lt a b → lt b c → lt a c) (ir : ∀ a, ¬ lt a a)
    {l : List α} (nd : l.Nodup) : (l.mergeSort le).Pairwise lt := by
  have tot : ∀ a b, (le a b || le b a) = true := by
    intro a b
    rw [hle, hle, Bool.or_eq_true, Bool.not_eq_true', Bool.not_eq_true', decide_eq_false_iff_not, decide_eq_false_iff_not]
    by_cases h : lt b a
    · exact .inr fun z => ir a (tr _ _ _ z h)
    · exact .inl h
  have trn : ∀ a b c, le a b = true → le b c = true → le a c = true := by
    intro a b c h g
    rw [hle, Bool.not_eq_true', decide_eq_false_iff_not] at *
    intro z
    by_cases e : lt a b
    · exact g (tr _ _ _ z e)
    · rw [tri a b e h] at z
      exact g z
  have p1 := List.pairwise_mergeSort (le := le) trn tot l
  have nd2 : (l.mergeSort le).Nodup := (List.mergeSort_perm l le).nodup_iff.mpr nd
  refine (p1.and nd2).imp fun {a b} ⟨h, n⟩ => ?_
  rw [hle, Bool.not_eq_true', decide_eq_false_iff_not] at h
  by_cases e : lt a b
  · exact e
  · exact absurd (tri a b e h) n
/-! the edges that leave a state -/
def leav (E : List Ed) (s : Int) : List Pr := (E.filter fun e => decide (e.1 = s)).map (·.2)
theorem leav_mem {E : List Ed} {s : Int} {p : Pr} : p ∈ leav E s ↔ (s, p) ∈ E := by
  unfold leav
  rw [List.mem_map]
  constructor
  · rintro ⟨e, he, rfl⟩
    obtain ⟨h1, h2⟩ := List.mem_filter.mp he
    rw [← of_decide_eq_true h2]
    exact h1
  · intro h
    exact ⟨(s, p), List.mem_filter.mpr ⟨h, decide_eq_true rfl⟩, rfl⟩
theorem leav_asc {E : List Ed} (h : E.Pairwise ltE) (s : Int) : (leav E s).Pairwise ltP := by
  unfold leav
  rw [List.pairwise_map]
  refine (h.filter _).imp_of_mem fun {a b} ha hb z => ?_
  have e1 := of_decide_eq_true (List.mem_filter.mp ha).2
  have e2 := of_decide_eq_true (List.mem_filter.mp hb).2
  rcases z with z | z
  · omega
  · exact z.2
theorem leav_snoc (E : List Ed) (e : Ed) (s : Int) : leav (E ++ [e]) s = if e.1 = s then leav E s ++ [e.2] else leav E s := by
  unfold leav
  rw [List.filter_append, List.map_append]
  by_cases h : e.1 = s
  · rw [if_pos h, List.filter_cons_of_pos (by simpa using h)]; rfl
  · rw [if_neg h, List.filter_cons_of_neg (by simpa using h)]; simp
/-- the states' edges are no more than all -/
theorem leav_sum : ∀ (E : List Ed) (ss : List Int), ss.Nodup → (ss.map fun s => (leav E s).length).sum ≤ E.length
  | [], ss, _ => by
    have z : ss.map (fun s => (leav [] s).length) = ss.map fun _ => 0 := rfl
    rw [z]
    have g : ∀ l : List Int, (l.map fun _ => 0).sum = 0 := by
      intro l
      induction l with
      | nil => rfl
      | cons x l ih => rw [List.map_cons, List.sum_cons, ih]
    rw [g]
    exact Nat.le_refl _
  | e :: E, ss, nd => by
    have ih := leav_sum E ss nd
    have g : ∀ l : List Int, l.Nodup → (l.map fun s => (leav (e :: E) s).length).sum ≤ (l.map fun s => (leav E s).length).sum + (if e.1 ∈ l then 1 else 0) := by
      intro l
      induction l with
      | nil => intro _; exact Nat.zero_le _
      | cons x l ih =>
        intro hn
        obtain ⟨n1, n2⟩ := List.nodup_cons.mp hn
        have ih2 := ih n2
        rw [List.map_cons, List.sum_cons, List.map_cons, List.sum_cons]
        by_cases h : e.1 = x
        · have e1 : (leav (e :: E) x).length = (leav E x).length + 1 := by
            unfold leav
            rw [List.filter_cons_of_pos (by simpa using h), List.map_cons, List.length_cons]
          rw [e1, if_pos (h ▸ List.mem_cons_self)]
          rw [if_neg (h ▸ n1)] at ih2
          omega
        · have e1 : (leav (e :: E) x).length = (leav E x).length := by
            unfold leav
            rw [List.filter_cons_of_neg (by simpa using h)]
          rw [e1]
          have e2 : (e.1 ∈ x :: l) = (e.1 ∈ l) := by
            rw [List.mem_cons]
            exact propext ⟨fun z => z.elim (fun y => absurd y h) id, .inr⟩
          simp only [e2]
          omega
    have z := g ss nd
    rw [List.length_cons]
    split at z <;> omega
/-! numbering: the states in their new order, the edges so far -/
abbrev Bs := List Int × List Ed
def ix (o : List Int) (t : Int) : Int := (o.idxOf t : Nat)
def see (o : List Int) (t : Int) : List Int := if t ∈ o then o else o ++ [t]
def visit (k : Nat) : List Pr → Bs → Bs
  | [], st => st
  | p :: r, (o, f) => visit k r (see o p.2, f ++ [((k : Int), p.1, ix (see o p.2) p.2)])
def step (E : List Ed) (k : Nat) (st : Bs) : Bs := match st.1[k]? with
  | some s => visit k (leav E s) st
  | none => st
def runB (E : List Ed) (start : Int) : Nat → Bs
  | 0 => ([start], [])
  | k + 1 => step E k (runB E start k)
theorem see_mem (o : List Int) (t : Int) : t ∈ see o t := by
  unfold see
  by_cases h : t ∈ o
  · rw [if_pos h]; exact h
  · rw [if_neg h]; simp
theorem see_sub {o : List Int} {t x : Int} (h : x ∈ o) : x ∈ see o t := by
  unfold see
  split
  · exact h
  · exact List.mem_append_left _ h
theorem see_nodup {o : List Int} (h : o.Nodup) (t : Int) : (see o t).Nodup := by
  unfold see
  by_cases q : t ∈ o
  · rw [if_pos q]; exact h
  · rw [if_neg q]
    exact List.nodup_append.mpr ⟨h, by simp, fun a ha b hb => by rw [List.mem_singleton.mp hb]; intro e; exact q (e ▸ ha)⟩
theorem see_pre (o : List Int) (t : Int) : ∃ r, see o t = o ++ r := by
  unfold see
  split
  · exact ⟨[], by simp⟩
  · exact ⟨_, rfl⟩
theorem visit_pre (k : Nat) : ∀ (l : List Pr) (st : Bs), ∃ r g, visit k l st = (st.1 ++ r, st.2 ++ g)
  | [], st => ⟨[], [], by simp [visit]⟩
  | p :: l, (o, f) => by
    obtain ⟨r1, e1⟩ := see_pre o p.2
    obtain ⟨r, g, e⟩ := visit_pre k l (see o p.2, f ++ [((k : Int), p.1, ix (see o p.2) p.2)])
    refine ⟨r1 ++ r, [((k : Int), p.1, ix (see o p.2) p.2)] ++ g, ?_⟩
    show visit k l _ = _
    rw [e, e1]
    simp [List.append_assoc]
theorem visit_len (k : Nat) : ∀ (l : List Pr) (st : Bs), (visit k l st).2.length = st.2.length + l.length
  | [], st => rfl
  | p :: l, (o, f) => by
    show (visit k l _).2.length = _
    rw [visit_len k l, List.length_append, List.length_singleton, List.length_cons]
    show f.length + 1 + l.length = f.length + (l.length + 1)
    omega
theorem visit_nodup (k : Nat) : ∀ (l : List Pr) (st : Bs), st.1.Nodup → (visit k l st).1.Nodup
  | [], st, h => h
  | p :: l, (o, f), h => visit_nodup k l _ (see_nodup h p.2)
theorem visit_mem (k : Nat) : ∀ (l : List Pr) (st : Bs) (x : Int), x ∈ (visit k l st).1 ↔ x ∈ st.1 ∨ ∃ p ∈ l, p.2 = x
  | [], st, x => ⟨.inl, fun z => z.elim id fun ⟨_, y, _⟩ => absurd y List.not_mem_nil⟩
  | p :: l, (o, f), x => by
    show x ∈ (visit k l _).1 ↔ _
    rw [visit_mem k l]
    show x ∈ see o p.2 ∨ _ ↔ _
    have e : x ∈ see o p.2 ↔ x ∈ o ∨ p.2 = x := by
      constructor
      · intro h
        unfold see at h
        split at h
        · exact .inl h
        · rcases List.mem_append.mp h with z | z
          · exact .inl z
          · exact .inr (List.mem_singleton.mp z).symm
      · rintro (h | h)
        · exact see_sub h
        · exact h ▸ see_mem o p.2
    rw [e]
    constructor
    · rintro ((h | h) | ⟨q, hq, h⟩)
      · exact .inl h
      · exact .inr ⟨p, List.mem_cons_self, h⟩
      · exact .inr ⟨q, List.mem_cons_of_mem _ hq, h⟩
    · rintro (h | ⟨q, hq, h⟩)
      · exact .inl (.inl h)
      · rcases List.mem_cons.mp hq with rfl | z
        · exact .inl (.inr h)
        · exact .inr ⟨q, z, h⟩
end VM

set_option Elab.async false
set_option linter.all false
set_option maxRecDepth 100000
set_option maxHeartbeats 4000000
namespace VM
open PySem PySem.Spec PyProof.Rows L2 LamX NdefX VB
theorem ix_app {o : List Int} {t : Int} (h : t ∈ o) (r : List Int) : ix (o ++ r) t = ix o t := by
  unfold ix
  rw [List.idxOf_append, if_pos h]
theorem ix_lt {o : List Int} {t : Int} (h : t ∈ o) : 0 ≤ ix o t ∧ ix o t < (o.length : Nat) := by
  unfold ix
  have := List.idxOf_lt_length_iff.mpr h
  omega
theorem ix_at {o : List Int} (nd : o.Nodup) {i : Nat} {t : Int} (h : o[i]? = some t) : ix o t = (i : Nat) := by
  unfold ix
  obtain ⟨hi, e⟩ := List.getElem?_eq_some_iff.mp h
  have := nd.idxOf_getElem i hi
  rw [e] at this
  rw [this]
theorem ix_get {o : List Int} {t : Int} (h : t ∈ o) : o[(ix o t).toNat]? = some t := by
  unfold ix
  have hl := List.idxOf_lt_length_iff.mpr h
  rw [Int.toNat_natCast, List.getElem?_eq_getElem hl, List.getElem_idxOf hl]
/-- the edges that a visit writes, by the states behind it -/
theorem visit_edges (k : Nat) : ∀ (l : List Pr) (st : Bs) (e : Ed), e ∈ (visit k l st).2 ↔ e ∈ st.2 ∨ ∃ p ∈ l, e = ((k : Int), p.1, ix (visit k l st).1 p.2)
  | [], st, e => ⟨.inl, fun z => z.elim id fun ⟨_, y, _⟩ => absurd y List.not_mem_nil⟩
  | p :: l, (o, f), e => by
    show e ∈ (visit k l (see o p.2, f ++ [((k : Int), p.1, ix (see o p.2) p.2)])).2 ↔ _ ∨ ∃ q ∈ p :: l, e = ((k : Int), q.1, ix (visit k l (see o p.2, f ++ [((k : Int), p.1, ix (see o p.2) p.2)])).1 q.2)
    rw [visit_edges k l]
    obtain ⟨r, g, er⟩ := visit_pre k l (see o p.2, f ++ [((k : Int), p.1, ix (see o p.2) p.2)])
    have e1 : ix (visit k l (see o p.2, f ++ [((k : Int), p.1, ix (see o p.2) p.2)])).1 p.2 = ix (see o p.2) p.2 := by
      rw [er]; exact ix_app (see_mem o p.2) r
    constructor
    · rintro (h | ⟨q, hq, h⟩)
      · rcases List.mem_append.mp h with z | z
        · exact .inl z
        · exact .inr ⟨p, List.mem_cons_self, by rw [e1]; exact List.mem_singleton.mp z⟩
      · exact .inr ⟨q, List.mem_cons_of_mem _ hq, h⟩
    · rintro (h | ⟨q, hq, h⟩)
      · exact .inl (List.mem_append_left _ h)
      · rcases List.mem_cons.mp hq with rfl | z
        · rw [e1] at h
          exact .inl (List.mem_append_right _ (List.mem_singleton.mpr h))
        · exact .inr ⟨q, z, h⟩
/-- what the numbering has after k states -/
structure Numb (E : List Ed) (n : Int) (k : Nat) (st : Bs) : Prop where
  nd : st.1.Nodup
  low : ∀ x ∈ st.1, 0 ≤ x ∧ x < n
  le : k ≤ st.1.length
  len : st.2.length = ((st.1.take k).map fun s => (leav E s).length).sum
  mem : ∀ e, e ∈ st.2 ↔ ∃ i s, i < k ∧ st.1[i]? = some s ∧ ∃ p ∈ leav E s, e = ((i : Int), p.1, ix st.1 p.2)
  has : ∀ i s, i < k → st.1[i]? = some s → ∀ p ∈ leav E s, p.2 ∈ st.1
theorem numb0 (E : List Ed) {n : Int} (h : 0 < n) : Numb E n 0 ([0], []) :=
  ⟨by simp, fun x hx => by rw [List.mem_singleton.mp hx]; omega, Nat.zero_le _, rfl, fun e => ⟨fun z => absurd z List.not_mem_nil, fun ⟨i, _, z, _⟩ => absurd z (Nat.not_lt_zero _)⟩, fun i _ z => absurd z (Nat.not_lt_zero _)⟩
theorem numb_step {E : List Ed} {n : Int} {k : Nat} {st : Bs} {s : Int} (N : Numb E n k st) (hs : st.1[k]? = some s) (ok : ∀ e ∈ E, 0 ≤ e.2.2 ∧ e.2.2 < n) : Numb E n (k + 1) (visit k (leav E s) st) := by
  obtain ⟨r, g, e⟩ := visit_pre k (leav E s) st
  have hk : k < st.1.length := (List.getElem?_eq_some_iff.mp hs).1
  have e1 : (visit k (leav E s) st).1 = st.1 ++ r := by rw [e]
  have old : ∀ {i : Nat} {x : Int}, i < k + 1 → ((visit k (leav E s) st).1[i]? = some x ↔ st.1[i]? = some x) := by
    intro i x hi
    rw [e1, List.getElem?_append_left (by omega)]
  have all : ∀ p ∈ leav E s, p.2 ∈ (visit k (leav E s) st).1 := fun p hp => (visit_mem k _ st p.2).2 (.inr ⟨p, hp, rfl⟩)
  refine ⟨visit_nodup k _ st N.nd, fun x hx => ?_, by rw [e1, List.length_append]; omega, ?_, fun e' => ?_, fun i x hi hx p hp => ?_⟩
  · rcases (visit_mem k _ st x).1 hx with z | ⟨p, hp, rfl⟩
    · exact N.low x z
    · exact ok _ (leav_mem.1 hp)
  · have t1 : (visit k (leav E s) st).1.take (k + 1) = st.1.take k ++ [s] := by
      rw [e1, List.take_append_of_le_length (by omega), List.take_succ, hs] <;> rfl
    rw [visit_len, t1, N.len, List.map_append, List.sum_append]
    simp
  · rw [visit_edges, N.mem]
    constructor
    · rintro (⟨i, x, hi, hx, p, hp, he⟩ | ⟨p, hp, he⟩)
      · refine ⟨i, x, by omega, (old (by omega)).2 hx, p, hp, ?_⟩
        rw [he, e1, ix_app (N.has i x hi hx p hp)]
      · exact ⟨k, s, by omega, (old (by omega)).2 hs, p, hp, he⟩
    · rintro ⟨i, x, hi, hx, p, hp, he⟩
      have hx2 := (old hi).1 hx
      rcases Nat.lt_or_ge i k with z | z
      · refine .inl ⟨i, x, z, hx2, p, hp, ?_⟩
        rw [he, e1, ix_app (N.has i x z hx2 p hp)]
      · obtain rfl : i = k := by omega
        rw [hs] at hx2
        obtain rfl := Option.some.inj hx2
        exact .inr ⟨p, hp, he⟩
  · have hx2 := (old hi).1 hx
    rcases Nat.lt_or_ge i k with z | z
    · rw [e1]; exact List.mem_append_left _ (N.has i x z hx2 p hp)
    · obtain rfl : i = k := by omega
      rw [hs] at hx2
      obtain rfl := Option.some.inj hx2
      exact all p hp
theorem low_len {o : List Int} {n : Int} (nd : o.Nodup) (low : ∀ x ∈ o, 0 ≤ x ∧ x < n) (hn : 0 ≤ n) : (o.length : Int) ≤ n := by
  have nd2 : (o.map Int.toNat).Nodup := by
    refine List.nodup_iff_pairwise_ne.mpr ?_
    rw [List.pairwise_map]
    refine (List.nodup_iff_pairwise_ne.mp nd).imp_of_mem fun {a b} ha hb h e => h ?_
    have := low a ha
    have := low b hb
    omega
  have z := nat_nodup_len (o.map Int.toNat) (List.range n.toNat) nd2 fun x hx => by
    obtain ⟨y, hy, rfl⟩ := List.mem_map.mp hx
    have := low y hy
    rw [List.mem_range]
    omega
  rw [List.length_map, List.length_range] at z
  omega
theorem Numb.few {E : List Ed} {n : Int} {k : Nat} {st : Bs} (N : Numb E n k st) : st.2.length ≤ E.length := by
  rw [N.len]
  exact leav_sum E _ (N.nd.sublist (List.take_sublist _ _))
/-! the run -/
theorem runB_numb {E : List Ed} {n : Int} (hn : 0 < n) (ok : ∀ e ∈ E, 0 ≤ e.2.2 ∧ e.2.2 < n) : ∀ k, k ≤ (runB E 0 k).1.length → Numb E n k (runB E 0 k)
  | 0, _ => numb0 E hn
  | k + 1, h => by
    have e : runB E 0 (k + 1) = step E k (runB E 0 k) := rfl
    rw [e] at h ⊢
    unfold step at h ⊢
    cases c : (runB E 0 k).1[k]? with
    | none =>
      rw [c] at h
      have z := List.getElem?_eq_none_iff.mp c
      have y : k + 1 ≤ (runB E 0 k).1.length := h
      omega
    | some s =>
      have lt := (List.getElem?_eq_some_iff.mp c).1
      exact numb_step (runB_numb hn ok k (by omega)) c ok
theorem runB_stop {E : List Ed} {k : Nat} (h : (runB E 0 k).1.length ≤ k) : ∀ j, runB E 0 (k + j) = runB E 0 k
  | 0 => rfl
  | j + 1 => by
    have e : runB E 0 (k + (j + 1)) = step E (k + j) (runB E 0 (k + j)) := rfl
    rw [e, runB_stop h j]
    unfold step
    rw [List.getElem?_eq_none (by omega)]
/-- a run that has come to its end -/
structure Done (E : List Ed) (n : Int) (st : Bs) : Prop where
  at_ : runB E 0 st.1.length = st
  nb : Numb E n st.1.length st
/-! renumbering what is numbered changes nothing -/
def rng (m : Nat) : List Int := (List.range m).map fun i => ((i : Nat) : Int)
theorem rng_mem {m : Nat} {x : Int} : x ∈ rng m ↔ 0 ≤ x ∧ x < (m : Nat) := by
  unfold rng
  rw [List.mem_map]
  constructor
  · rintro ⟨i, hi, rfl⟩
    rw [List.mem_range] at hi
    omega
  · rintro ⟨h1, h2⟩
    exact ⟨x.toNat, List.mem_range.mpr (by omega), by omega⟩
theorem rng_succ (m : Nat) : rng (m + 1) = rng m ++ [((m : Nat) : Int)] := by
  unfold rng
  rw [List.range_succ, List.map_append] <;> rfl
theorem rng_len (m : Nat) : (rng m).length = m := by
  unfold rng
  rw [List.length_map, List.length_range]
theorem rng_nodup (m : Nat) : (rng m).Nodup := by
  unfold rng
  refine List.nodup_iff_pairwise_ne.mpr ?_
  rw [List.pairwise_map]
  exact (List.nodup_iff_pairwise_ne.mp List.nodup_range).imp fun h e => h (by omega)
theorem rng_get {m i : Nat} (h : i < m) : (rng m)[i]? = some ((i : Nat) : Int) := by
  unfold rng
  rw [List.getElem?_map, List.getElem?_range h] <;> rfl
theorem rng_ix {m : Nat} {x : Int} (h : x ∈ rng m) : ix (rng m) x = x := by
  obtain ⟨h1, h2⟩ := rng_mem.1 h
  have := ix_at (rng_nodup m) (i := x.toNat) (t := x) (by rw [rng_get (by omega)]; congr 1; omega)
  rw [this]
  omega
theorem rng_eq {a b : Nat} (h : ∀ x, x ∈ rng a ↔ x ∈ rng b) : a = b := by
  rcases Nat.lt_trichotomy a b with z | z | z
  · have := (h (a : Nat)).2 (rng_mem.2 ⟨by omega, by omega⟩)
    have := (rng_mem.1 this).2
    omega
  · exact z
  · have := (h (b : Nat)).1 (rng_mem.2 ⟨by omega, by omega⟩)
    have := (rng_mem.1 this).2
    omega
/-- a new number comes behind all smaller new ones, whose actions are no greater -/
theorem visit_order (k m : Nat) (Q : List Pr) (fin : List Int) : ∀ (l : List Pr) (st : Bs), (∀ p ∈ l, p ∈ Q) → l.Pairwise ltP → (∃ r, fin = (visit k l st).1 ++ r) →
    (∀ c : Nat, m ≤ c → c < st.1.length → ∃ q' ∈ Q, ix fin q'.2 = (c : Nat) ∧ ∀ q ∈ l, ¬ sLt q.1 q'.1) →
    ∀ q ∈ l, ∀ c : Nat, m ≤ c → (c : Int) < ix fin q.2 → ∃ q' ∈ Q, ix fin q'.2 = (c : Nat) ∧ ¬ sLt q.1 q'.1
  | [], _, _, _, _, _, q, h => absurd h List.not_mem_nil
  | p :: l, (o, f), sub, asc, hfin, H, q, hq => by
    obtain ⟨r, er⟩ := hfin
    obtain ⟨p1, p2⟩ := List.pairwise_cons.mp asc
    have er' : fin = (visit k l (see o p.2, f ++ [((k : Int), p.1, ix (see o p.2) p.2)])).1 ++ r := er
    obtain ⟨r2, g2, e2⟩ := visit_pre k l (see o p.2, f ++ [((k : Int), p.1, ix (see o p.2) p.2)])
    have e3 : fin = see o p.2 ++ (r2 ++ r) := by rw [er', e2]; show see o p.2 ++ r2 ++ r = _; rw [List.append_assoc]
    have ip : ix fin p.2 = ix (see o p.2) p.2 := by rw [e3]; exact ix_app (see_mem o p.2) _
    have below : ix fin p.2 ≤ (o.length : Nat) := by
      rw [ip]
      have z := (ix_lt (see_mem o p.2)).2
      unfold see at z ⊢
      by_cases h : p.2 ∈ o
      · rw [if_pos h] at z ⊢; omega
      · rw [if_neg h, List.length_append, List.length_singleton] at z; rw [if_neg h]; omega
    rcases List.mem_cons.mp hq with rfl | hql
    · intro c h1 h2
      obtain ⟨q', z1, z2, z3⟩ := H c h1 (by show c < o.length; omega)
      exact ⟨q', z1, z2, z3 _ List.mem_cons_self⟩
    · refine visit_order k m Q fin l _ (fun x hx => sub x (List.mem_cons_of_mem _ hx)) p2 ⟨r, er'⟩ (fun c h1 h2 => ?_) q hql
      rcases Nat.lt_or_ge c o.length with z | z
      · obtain ⟨q', z1, z2, z3⟩ := H c h1 z
        exact ⟨q', z1, z2, fun x hx => z3 x (List.mem_cons_of_mem _ hx)⟩
      · have h2' : c < (see o p.2).length := h2
        have ho : p.2 ∉ o := fun y => by unfold see at h2'; rw [if_pos y] at h2'; omega
        have ec : c = o.length := by
          unfold see at h2'
          rw [if_neg ho, List.length_append, List.length_singleton] at h2'
          omega
        refine ⟨p, sub p List.mem_cons_self, ?_, fun x hx => ?_⟩
        · rw [ip]
          unfold see
          rw [if_neg ho]
          unfold ix
          rw [List.idxOf_append, if_neg ho]
          simp [ec]
        · intro y
          rcases p1 x hx with w | w
          · exact sLt_irrefl _ (sLt_trans w y)
          · rw [w.1] at y; exact sLt_irrefl _ y
/-- a visit in ascending order of numbered pairs numbers them as they are -/
theorem visit_rng (k m : Nat) (P : List Pr) (h0 : ∀ p ∈ P, 0 ≤ p.2) (h2 : ∀ p ∈ P, ∀ c : Nat, m ≤ c → (c : Int) < p.2 → ∃ p' ∈ P, p'.2 = (c : Nat) ∧ ¬ sLt p.1 p'.1) :
    ∀ (l pre : List Pr) (c : Nat) (f : List Ed), P = pre ++ l → P.Pairwise ltP → m ≤ c → (∀ p ∈ pre, p.2 < (c : Nat)) → ∃ c2, (visit k l (rng c, f)).1 = rng c2
  | [], pre, c, f, _, _, _, _ => ⟨c, rfl⟩
  | p :: l, pre, c, f, eP, asc, mc, old => by
    have hp : p ∈ P := by rw [eP]; simp
    have pos := h0 p hp
    by_cases h : p.2 < (c : Nat)
    · have e : see (rng c) p.2 = rng c := by
        unfold see
        rw [if_pos (rng_mem.2 ⟨pos, h⟩)]
      show ∃ c2, (visit k l (see (rng c) p.2, _)).1 = rng c2
      rw [e]
      refine visit_rng k m P h0 h2 l (pre ++ [p]) c _ (by rw [eP]; simp) asc mc fun x hx => ?_
      rcases List.mem_append.mp hx with z | z
      · exact old x z
      · rw [List.mem_singleton.mp z]; exact h
    · have ec : p.2 = (c : Nat) := by
        by_cases q : (c : Int) < p.2
        · obtain ⟨p', m1, m2, m3⟩ := h2 p hp c mc q
          exfalso
          rw [eP] at m1 asc
          rcases List.mem_append.mp m1 with w | w
          · have := old p' w; omega
          · rcases List.mem_cons.mp w with w | w
            · rw [w] at m2; omega
            · have lt := (List.pairwise_cons.mp (List.pairwise_append.mp asc).2.1).1 p' w
              rcases lt with y | y
              · exact m3 y
              · omega
        · omega
      have nin : p.2 ∉ rng c := fun z => h (rng_mem.1 z).2
      have e : see (rng c) p.2 = rng (c + 1) := by
        unfold see
        rw [if_neg nin, rng_succ, ec]
      show ∃ c2, (visit k l (see (rng c) p.2, _)).1 = rng c2
      rw [e]
      refine visit_rng k m P h0 h2 l (pre ++ [p]) (c + 1) _ (by rw [eP]; simp) asc (by omega) fun x hx => ?_
      rcases List.mem_append.mp hx with z | z
      · have := old x z; omega
      · rw [List.mem_singleton.mp z, ec]; omega
theorem runB_pre (E : List Ed) (k : Nat) : ∀ j, ∃ r, (runB E 0 (k + j)).1 = (runB E 0 k).1 ++ r
  | 0 => ⟨[], by simp⟩
  | j + 1 => by
    obtain ⟨r, e⟩ := runB_pre E k j
    have e1 : runB E 0 (k + (j + 1)) = step E (k + j) (runB E 0 (k + j)) := rfl
    rw [e1]
    unfold step
    cases c : (runB E 0 (k + j)).1[k + j]? with
    | none => exact ⟨r, e⟩
    | some s =>
      obtain ⟨r2, g, e2⟩ := visit_pre (k + j) (leav E s) (runB E 0 (k + j))
      exact ⟨r ++ r2, by show (visit _ _ _).1 = _; rw [e2, e, List.append_assoc]⟩
section
variable {E : List Ed} {n : Int} {st : Bs}
theorem Done.lt (D : Done E n st) {k : Nat} (h : k < st.1.length) : k < (runB E 0 k).1.length := by
  rcases Nat.lt_or_ge k (runB E 0 k).1.length with z | z
  · exact z
  · have e := runB_stop z (st.1.length - k)
    rw [Nat.add_sub_cancel' (Nat.le_of_lt h), D.at_] at e
    rw [← e] at z
    omega
theorem Done.pre (D : Done E n st) {k : Nat} (h : k ≤ st.1.length) : ∃ r, st.1 = (runB E 0 k).1 ++ r := by
  obtain ⟨r, e⟩ := runB_pre E k (st.1.length - k)
  rw [Nat.add_sub_cancel' h, D.at_] at e
  exact ⟨r, e⟩
variable {E1 : List Ed}
/-- the pairs that leave a new state -/
theorem Done.leav (D : Done E n st) (mem : ∀ e, e ∈ E1 ↔ e ∈ st.2) {k : Nat} {s : Int} (hs : st.1[k]? = some s) (p : Pr) :
    p ∈ VM.leav E1 ((k : Nat) : Int) ↔ ∃ q ∈ VM.leav E s, p = (q.1, ix st.1 q.2) := by
  rw [leav_mem, mem, D.nb.mem]
  constructor
  · rintro ⟨i, s', hi, hs', q, hq, e⟩
    have e1 : ((k : Nat) : Int) = ((i : Nat) : Int) := congrArg (fun z : Ed => z.1) e
    obtain rfl : i = k := by omega
    rw [hs] at hs'
    obtain rfl := Option.some.inj hs'
    exact ⟨q, hq, congrArg (fun z : Ed => z.2) e⟩
  · rintro ⟨q, hq, rfl⟩
    exact ⟨k, s, (List.getElem?_eq_some_iff.mp hs).1, hs, q, hq, rfl⟩
theorem Done.again_k (D : Done E n st) (aE : E.Pairwise ltE) (a1 : E1.Pairwise ltE) (mem : ∀ e, e ∈ E1 ↔ e ∈ st.2) : ∀ k, k ≤ st.1.length → (runB E1 0 k).1 = rng (runB E 0 k).1.length
  | 0, _ => rfl
  | k + 1, h => by
    have ih := D.again_k aE a1 mem k (by omega)
    have lt := D.lt (k := k) (by omega)
    obtain ⟨r1, e1⟩ := D.pre (k := k) (by omega)
    have hs : (runB E 0 k).1[k]? = some (runB E 0 k).1[k] := List.getElem?_eq_getElem lt
    generalize (runB E 0 k).1[k] = s at hs
    have hsf : st.1[k]? = some s := by rw [e1, List.getElem?_append_left lt]; exact hs
    have eE : runB E 0 (k + 1) = visit k (VM.leav E s) (runB E 0 k) := by
      show step E k (runB E 0 k) = _
      unfold step
      rw [hs]
    have e1k : (runB E1 0 k).1[k]? = some ((k : Nat) : Int) := by rw [ih]; exact rng_get lt
    have eE1 : runB E1 0 (k + 1) = visit k (VM.leav E1 ((k : Nat) : Int)) (runB E1 0 k) := by
      show step E1 k (runB E1 0 k) = _
      unfold step
      rw [e1k]
    obtain ⟨r2, e2⟩ := D.pre (k := k + 1) h
    rw [eE] at e2
    have ix2 : ∀ {t : Int}, t ∈ (visit k (VM.leav E s) (runB E 0 k)).1 → ix st.1 t = ix (visit k (VM.leav E s) (runB E 0 k)).1 t := fun ht => by rw [e2]; exact ix_app ht r2
    have nd2 : (visit k (VM.leav E s) (runB E 0 k)).1.Nodup := by
      have z := D.nb.nd
      rw [e2] at z
      exact (List.nodup_append.mp z).1
    have ord := visit_order k (runB E 0 k).1.length (VM.leav E s) st.1 (VM.leav E s) (runB E 0 k) (fun _ z => z) (leav_asc aE s) ⟨r2, e2⟩ (fun c c1 c2 => absurd c2 (by omega))
    have P0 : ∀ p ∈ VM.leav E1 ((k : Nat) : Int), 0 ≤ p.2 := fun p hp => by
      obtain ⟨q, _, rfl⟩ := (D.leav mem hsf p).1 hp
      unfold ix
      omega
    have P2 : ∀ p ∈ VM.leav E1 ((k : Nat) : Int), ∀ c : Nat, (runB E 0 k).1.length ≤ c → (c : Int) < p.2 → ∃ p' ∈ VM.leav E1 ((k : Nat) : Int), p'.2 = (c : Nat) ∧ ¬ sLt p.1 p'.1 := fun p hp c c1 c2 => by
      obtain ⟨q, hq, rfl⟩ := (D.leav mem hsf p).1 hp
      obtain ⟨q', z1, z2, z3⟩ := ord q hq c c1 c2
      exact ⟨(q'.1, ix st.1 q'.2), (D.leav mem hsf _).2 ⟨q', z1, rfl⟩, z2, z3⟩
    obtain ⟨c2, ec⟩ := visit_rng k (runB E 0 k).1.length _ P0 P2 (VM.leav E1 ((k : Nat) : Int)) [] (runB E 0 k).1.length (runB E1 0 k).2 rfl (leav_asc a1 _) (Nat.le_refl _) (fun p z => absurd z List.not_mem_nil)
    have eP : (runB E1 0 k) = (rng (runB E 0 k).1.length, (runB E1 0 k).2) := by rw [← ih]
    rw [eE1, eE, eP, ec]
    congr 1
    refine rng_eq fun x => ?_
    rw [← ec, visit_mem]
    show x ∈ rng (runB E 0 k).1.length ∨ _ ↔ _
    obtain ⟨r3, g3, e3⟩ := visit_pre k (VM.leav E s) (runB E 0 k)
    have e31 : (visit k (VM.leav E s) (runB E 0 k)).1 = (runB E 0 k).1 ++ r3 := by rw [e3]
    constructor
    · rintro (z | ⟨p, hp, rfl⟩)
      · have y := rng_mem.1 z
        refine rng_mem.2 ⟨y.1, ?_⟩
        rw [e31, List.length_append]
        omega
      · obtain ⟨q, hq, rfl⟩ := (D.leav mem hsf p).1 hp
        have hin : q.2 ∈ (visit k (VM.leav E s) (runB E 0 k)).1 := (visit_mem k _ _ _).2 (.inr ⟨q, hq, rfl⟩)
        show ix st.1 q.2 ∈ _
        rw [ix2 hin]
        exact rng_mem.2 (ix_lt hin)
    · intro z
      have y := rng_mem.1 z
      by_cases c : x < ((runB E 0 k).1.length : Nat)
      · exact .inl (rng_mem.2 ⟨y.1, c⟩)
      · have lx : x.toNat < (visit k (VM.leav E s) (runB E 0 k)).1.length := by omega
        have gx := List.getElem?_eq_getElem lx
        generalize (visit k (VM.leav E s) (runB E 0 k)).1[x.toNat] = t at gx
        have tin := List.mem_of_getElem? gx
        have ixx : ix (visit k (VM.leav E s) (runB E 0 k)).1 t = x := by rw [ix_at nd2 gx]; omega
        rcases (visit_mem k _ _ t).1 tin with w | ⟨q, hq, rfl⟩
        · exfalso
          rw [e31, ix_app w] at ixx
          have := (ix_lt w).2
          omega
        · exact .inr ⟨(q.1, ix st.1 q.2), (D.leav mem hsf _).2 ⟨q, hq, rfl⟩, by show ix st.1 q.2 = x; rw [ix2 tin]; exact ixx⟩
/-- numbered again: the same numbers, the same edges -/
theorem Done.again (D : Done E n st) (aE : E.Pairwise ltE) (a1 : E1.Pairwise ltE) (mem : ∀ e, e ∈ E1 ↔ e ∈ st.2) (hn : 0 < st.1.length) {st2 : Bs} {n2 : Int} (D2 : Done E1 n2 st2) :
    st2.1.length = st.1.length ∧ ∀ e, e ∈ st2.2 ↔ e ∈ E1 := by
  have z := D.again_k aE a1 mem st.1.length (Nat.le_refl _)
  rw [D.at_] at z
  have len1 : (runB E1 0 st.1.length).1.length = st.1.length := by rw [z, rng_len]
  have e2 : st2 = runB E1 0 st.1.length := by
    rcases Nat.le_total st2.1.length st.1.length with h | h
    · have y := runB_stop (E := E1) (k := st2.1.length) (by rw [D2.at_]; exact Nat.le_refl _) (st.1.length - st2.1.length)
      rw [Nat.add_sub_cancel' h, D2.at_] at y
      exact y.symm
    · have y := runB_stop (E := E1) (k := st.1.length) (by rw [len1]; exact Nat.le_refl _) (st2.1.length - st.1.length)
      rw [Nat.add_sub_cancel' h, D2.at_] at y
      exact y
  have l2 : st2.1.length = st.1.length := by rw [e2, len1]
  refine ⟨l2, fun e => ?_⟩
  have o2 : st2.1 = rng st.1.length := by rw [e2, z]
  rw [D2.nb.mem, l2, o2]
  constructor
  · rintro ⟨i, s', hi, hs', p, hp, rfl⟩
    rw [rng_get hi] at hs'
    obtain rfl := Option.some.inj hs'
    have h1 := leav_mem.1 hp
    obtain ⟨j, s2, hj, hs2, q, hq, eq⟩ := (D.nb.mem _).1 ((mem _).1 h1)
    have e3 : p.2 = ix st.1 q.2 := congrArg (fun z : Ed => z.2.2) eq
    have inr : p.2 ∈ rng st.1.length := by rw [e3]; exact rng_mem.2 (ix_lt (D.nb.has j s2 hj hs2 q hq))
    rw [rng_ix inr]
    exact h1
  · intro he
    obtain ⟨j, s2, hj, hs2, q, hq, eq⟩ := (D.nb.mem _).1 ((mem _).1 he)
    have inr : ix st.1 q.2 ∈ rng st.1.length := rng_mem.2 (ix_lt (D.nb.has j s2 hj hs2 q hq))
    refine ⟨j, ((j : Nat) : Int), hj, rng_get hj, (q.1, ix st.1 q.2), leav_mem.2 (by rw [← eq]; exact he), ?_⟩
    show e = (((j : Nat) : Int), q.1, ix (rng st.1.length) (ix st.1 q.2))
    rw [rng_ix inr]
    exact eq
end
end VM

set_option Elab.async false
set_option linter.all false
set_option maxRecDepth 100000
set_option maxHeartbeats 4000000
namespace VC
open PySem PySem.Spec PyProof.Rows L2 LamX NdefX VB
/-! captured names: while a def runs that is handed a lambda, the cells that the lambda reads are locked in the abstract heap -/
def lockO (c : Addr) (o : Obj) : HO := .frz o (.ext fun h => h.get? c = some o)
theorem lockO_ok {P : Program} {w : World} {H : Hp} {h : Heap} {c : Addr} {o : Obj} (e : h.get? c = some o) : ObjOk P w H h c (lockO c o) :=
  ⟨e, e, ⟨o, e⟩, fun _ _ p q => q o p⟩
/-- the cells of the closure cl are locked in H; fr: the captured names, ws what they hold -/
structure Locked (H : Hp) (cl : List (Str × Addr)) (fr : List Str) (ws : List (Option V)) : Prop where
  len : ws.length = fr.length
  all : ∀ y c, cl.lookup y = some c → ∃ o v, H c = some (lockO c o) ∧ o.data = .cell v
  inj : ∀ x y c, cl.lookup x = some c → cl.lookup y = some c → x = y
  has : ∀ (i : Nat) (y : Str), fr[i]? = some y → ∃ c o v, cl.lookup y = some c ∧ H c = some (lockO c o) ∧ o.data = .cell v ∧ ∀ x, ws[i]? = some (some x) → ∃ u, RelV x u ∧ v = some u
/-- an address is a cell of the closure -/
def In (cl : List (Str × Addr)) (b : Addr) : Prop := ∃ y, cl.lookup y = some b
open Classical in
noncomputable def open_ (cl : List (Str × Addr)) (H : Hp) : Hp := fun b => if In cl b then none else H b
open Classical in
noncomputable def shut (cl : List (Str × Addr)) (H0 H : Hp) : Hp := fun b => if In cl b then H0 b else H b
theorem open_in {cl : List (Str × Addr)} {H : Hp} {b : Addr} (h : In cl b) : open_ cl H b = none := by unfold open_; rw [if_pos h]
theorem open_out {cl : List (Str × Addr)} {H : Hp} {b : Addr} (h : ¬ In cl b) : open_ cl H b = H b := by unfold open_; rw [if_neg h]
theorem shut_in {cl : List (Str × Addr)} {H0 H : Hp} {b : Addr} (h : In cl b) : shut cl H0 H b = H0 b := by unfold shut; rw [if_pos h]
theorem shut_out {cl : List (Str × Addr)} {H0 H : Hp} {b : Addr} (h : ¬ In cl b) : shut cl H0 H b = H b := by unfold shut; rw [if_neg h]
section
variable {P : Program} {w : World} {H H' : Hp} {h h' : Heap} {cl : List (Str × Addr)} {fr : List Str} {ws : List (Option V)} {fs : List Addr}
theorem Locked.frz (L : Locked H cl fr ws) {b : Addr} (i : In cl b) : ∃ o v, H b = some (lockO b o) ∧ o.data = .cell v := let ⟨y, e⟩ := i; L.all y b e
theorem open_ok (L : Locked H cl fr ws) (ok : HOk P w H h) : HOk P w (open_ cl H) h := by
  intro b u e
  by_cases i : In cl b
  · rw [open_in i] at e; cases e
  · rw [open_out i] at e
    refine (ok b u e).stay (fun _ _ _ z => z) (fun c z => ?_) fun c xs z => ?_
    · rw [open_out fun j => ?_]; exact z
      obtain ⟨o, v, q, _⟩ := L.frz j
      rw [q] at z; cases z
    · rw [open_out fun j => ?_]; exact z
      obtain ⟨o, v, q, _⟩ := L.frz j
      rw [q] at z; cases z
theorem open_cells (L : Locked H cl fr ws) (ok : HOk P w H h) : CellsAt cl fr ws h (open_ cl H) := by
  refine ⟨L.len, fun y c e => ⟨open_in ⟨y, e⟩, ?_⟩, L.inj, fun i y e => ?_⟩
  · obtain ⟨o, v, q, d⟩ := L.all y c e
    exact ⟨v, o, (ok c _ q).1, d⟩
  · obtain ⟨c, o, v, e1, q, d, hv⟩ := L.has i y e
    refine ⟨c, e1, fun x hx => ?_⟩
    obtain ⟨u, r, ev⟩ := hv x hx
    exact ⟨u, r, o, (ok c _ q).1, by rw [d, ev]⟩
/-- behind the lambda: the cells locked again -/
theorem shut_ok (L : Locked H cl fr ws) (ok0 : HOk P w H h) (un : Un fs [] (open_ cl H) H' h h') (nf : ∀ b ∈ fs, H b = none) (ok : HOk P w H' h') : HOk P w (shut cl H H') h' ∧ Un fs [] H (shut cl H H') h h' := by
  have keepC : ∀ b, In cl b → ∀ o, h.get? b = some o → h'.get? b = some o := fun b i o e => by
    refine un.keep b o e (open_in i) (fun z => ?_) (by simp)
    obtain ⟨o', v, q, _⟩ := L.frz i
    rw [nf b z] at q; cases q
  have freeC : ∀ b, In cl b → H' b = none := fun b i => by
    obtain ⟨o, v, q, _⟩ := L.frz i
    exact un.free b o (ok0 b _ q).1 (open_in i) (by simp)
  refine ⟨fun b u e => ?_, fun b o e n hb _ => ?_, fun b o e n hb _ => ?_, fun b o e n _ => ?_, fun b o e _ => un.there b o e (by simp), fun b xs e => ?_, fun b o u e => ?_, fun b ps e => ?_⟩
  · by_cases i : In cl b
    · rw [shut_in i] at e
      obtain ⟨o, v, q, _⟩ := L.frz i
      rw [q] at e
      cases e
      exact lockO_ok (keepC b i o (ok0 b _ q).1)
    · rw [shut_out i] at e
      refine (ok b u e).stay (fun _ _ _ z => z) (fun c z => ?_) fun c xs z => ?_
      · rw [shut_out fun j => ?_]; exact z
        rw [freeC c j] at z; cases z
      · rw [shut_out fun j => ?_]; exact z
        rw [freeC c j] at z; cases z
  · have i : ¬ In cl b := fun i => by obtain ⟨o', v, q, _⟩ := L.frz i; rw [n] at q; cases q
    exact un.keep b o e (by rw [open_out i]; exact n) hb (by simp)
  · have i : ¬ In cl b := fun i => by obtain ⟨o', v, q, _⟩ := L.frz i; rw [n] at q; cases q
    exact un.slot b o e (by rw [open_out i]; exact n) hb (by simp)
  · have i : ¬ In cl b := fun i => by obtain ⟨o', v, q, _⟩ := L.frz i; rw [n] at q; cases q
    rw [shut_out i]
    exact un.free b o e (by rw [open_out i]; exact n) (by simp)
  · have i : ¬ In cl b := fun i => by obtain ⟨o', v, q, _⟩ := L.frz i; rw [e] at q; cases q
    rw [shut_out i]
    exact un.tups b xs (by rw [open_out i]; exact e)
  · by_cases i : In cl b
    · rw [shut_in i]; exact e
    · rw [shut_out i]; exact un.frzs b o u (by rw [open_out i]; exact e)
  · have i : ¬ In cl b := fun i => by obtain ⟨o', v, q, _⟩ := L.frz i; rw [e] at q; cases q
    rw [shut_out i]
    exact un.tbls b ps (by rw [open_out i]; exact e)
end
/-- a lambda whose captured names are locked -/
def lamLk (f : Addr) (F : NF) (b : Expr) (fr : List Str) (ws : List (Option V)) : Hp → Prop := fun H => H f = some (VA.LamO f F b) ∧ H F.c = some (CodeO F.c F.qual) ∧ Locked H F.cl fr ws
section
variable {P : Program} {w : World} {K : PySem.W.Frag} {mg : Str → Option Value} {base : Heap} {N ps fr : List Str} {F : NF} {b : Expr} {f : Addr} {k : Nat} {sp : Sp} {ws : List (Option V)}
theorem lam_locked (S : NScope N ps fr F.scope)
    (hb : ∀ (pm ctv : Value) (us : List Value), us.length = ps.length → bindArgs (PySem.W.kla_fn F.name F.qual F.params b F.scope F.cl pm (.ref F.c) ctv) ⟨us, []⟩ = pure (ps.zip us))
    (len : ∀ vs H Q E, sp vs H Q E → vs.length = ps.length)
    (hbody : ∀ (A : Around) (outer : List Env) (s : Shared) (H : Hp) (vs : List V) (Q : VK) (E : XK), Room k (A.deeper (envF F f s.heap.objs.size)) → lamLk f F b fr ws H → sp vs H Q E →
      ∃ t, PE (ncx CX0 P w K mg base N F f A outer s (open_ F.cl H) E).nox b t ∧ t (startF N vs ws) (open_ F.cl H) fun v H' => (∀ b, In F.cl b → H' b = none) → Q v (shut F.cl H H')) :
    VA.VCall P w K mg base (k + 1) f (lamLk f F b fr ws) sp := by
  refine ⟨fun h H hok _ hf => ?_, fun A outer s H us vs Q E hr e0 hf r hsp => ?_⟩
  · obtain ⟨od, sl, pm, ctv, z⟩ := VA.lamO_at hok hf.1
    exact ⟨_, od, _, sl, z⟩
  · have hl := len _ _ _ _ hsp
    obtain ⟨h1, h2, L⟩ := hf
    have lim : s.heap.NoLimit := e0.mod.nolimit.keeps fun b o e => (e0.bs b o e).1
    obtain ⟨od, sl, pm, ctv, ho⟩ := VA.lamO_at e0.hok h1
    have C := open_cells L e0.hok
    have e1 : Env0 P w K mg base A outer s (open_ F.cl H) := ⟨e0.frames, e0.mod, fun b o e => ⟨(e0.bs b o e).1, by
      by_cases i : In F.cl b
      · exact open_in i
      · rw [open_out i]; exact (e0.bs b o e).2⟩, e0.bsz, e0.funs, fun b hb => by
      by_cases i : In F.cl b
      · exact open_in i
      · rw [open_out i]; exact e0.frf b hb, open_ok L e0.hok, e0.bare⟩
    refine PySem.W.kla_callFunE hr.depth ho rfl S.co S.gen rfl (codeO_at e0.hok h2) ?_
    rw [hb pm ctv us (by rw [← r.length]; exact hl)]
    refine wpAny_pure (wpAny_newFunctionEnv S.nocell (fun ⟨n, _⟩ hy => S.par n (List.of_mem_zip hy).1) (fun h₁ hns hsb => ⟨lim.fresh _ hsb, ?_⟩) S.kind)
    show codeAny _ _ (.expr b (envF F f s.heap.objs.size)) _ _
    have kp : ∀ b o, s.heap.get? b = some o → h₁.get? b = some o := fun b o e =>
      hsb.extBut b o (Nat.ne_of_lt (Heap.lt_size e)) (Heap.get?_push_of_some _ e)
    obtain ⟨t, ht, hq⟩ := hbody A outer s H vs Q E (hr.deeper _) ⟨h1, h2, L⟩ hsp
    have J : Inv (ncx CX0 P w K mg base N F f A outer s (open_ F.cl H) E) [] (startF N vs ws) (open_ F.cl H) { s with heap := h₁, toks := s.toks + (ps.zip us).length } := inv_startN S hr.hd e1 hl r C hns kp
    refine PySem.W.kla_codeExpr (wpAny_mono (ht.nox.run [] _ (startF N vs ws) (open_ F.cl H) _ J hq) (fun v s' z => ?_) fun e s' z => z)
    obtain ⟨w', H', J', rv, q⟩ := z
    obtain ⟨ok2, un2⟩ := shut_ok L e0.hok J'.base e0.frf J'.hok
    have un : Un _ [] (open_ F.cl H) H' s.heap s'.heap := J'.base
    have freeC : ∀ b, In F.cl b → H' b = none := fun b i => by
      obtain ⟨o, v, q, _⟩ := L.frz i
      exact un.free b o (e0.hok b _ q).1 (open_in i) (by simp)
    exact ⟨w', shut F.cl H H', J'.os, J'.bare, un2, ok2, rv, q freeC⟩
end
/-! the call of a def, cells locked -/
/-- H2 is H1, the cells of cl locked -/
structure Lock (cl : List (Str × Addr)) (fr : List Str) (ws : List (Option V)) (H1 H2 : Hp) : Prop where
  out : ∀ b, ¬ In cl b → H2 b = H1 b
  free : ∀ b, In cl b → H1 b = none
  lk : Locked H2 cl fr ws
section
variable {X : Cx} {k j : Nat} {x : Str} {sp : Sp} {p pos : Pos} {e : Expr} {es : List Expr} {t : TA} {cl : List (Str × Addr)} {fr : List Str} {js : List Nat}
theorem lock_of {pins : List (Addr × Obj)} {σ : L2.St} {H : Hp} {s : Shared} (I : Inv X pins σ H s) (cp : Caps X cl fr js) : ∃ H2, Lock cl fr (js.map (slotAt σ)) H H2 ∧ HOk X.prog X.w H2 s.heap := by
  classical
  have C := cells_of I cp
  have get : ∀ b, In cl b → ∃ o v, s.heap.get? b = some o ∧ o.data = .cell v := fun b ⟨y, ey⟩ => by
    obtain ⟨_, v, o, ho, hd⟩ := C.all y b ey
    exact ⟨o, v, ho, hd⟩
  let H2 : Hp := fun b => if h : In cl b then some (lockO b (get b h).choose) else H b
  have e1 : ∀ b (i : In cl b), H2 b = some (lockO b (get b i).choose) := fun b i => dif_pos i
  have e2 : ∀ b, ¬ In cl b → H2 b = H b := fun b i => dif_neg i
  refine ⟨H2, ⟨e2, fun b ⟨y, ey⟩ => (C.all y b ey).1, ⟨C.len, fun y c e => ?_, C.inj, fun i y e => ?_⟩⟩, fun b u e => ?_⟩
  · obtain ⟨v, ho, hd⟩ := (get c ⟨y, e⟩).choose_spec
    exact ⟨_, v, e1 c ⟨y, e⟩, hd⟩
  · obtain ⟨c, ec, hv⟩ := C.has i y e
    obtain ⟨v, ho, hd⟩ := (get c ⟨y, ec⟩).choose_spec
    refine ⟨c, _, v, ec, e1 c ⟨y, ec⟩, hd, fun x hx => ?_⟩
    obtain ⟨u, r, o', ho', hd'⟩ := hv x hx
    rw [ho] at ho'
    rw [Option.some.inj ho', hd'] at hd
    exact ⟨u, r, by injection hd with hd; exact hd.symm⟩
  · by_cases i : In cl b
    · rw [e1 b i] at e
      cases e
      obtain ⟨v, ho, _⟩ := (get b i).choose_spec
      exact lockO_ok ho
    · rw [e2 b i] at e
      refine (I.hok b u e).stay (fun _ _ _ z => z) (fun c z => ?_) fun c xs z => ?_
      · rw [e2 c fun j => ?_]; exact z
        obtain ⟨y, ey⟩ := j
        rw [(C.all y c ey).1] at z; cases z
      · rw [e2 c fun j => ?_]; exact z
        obtain ⟨y, ey⟩ := j
        rw [(C.all y c ey).1] at z; cases z
/-- g(..), cells locked while it runs -/
def tCallLk (cl : List (Str × Addr)) (fr : List Str) (js : List Nat) (sp : Sp) (t : TA) : TE := fun σ H Q => t σ H fun vs H1 => ∀ H2, Lock cl fr (js.map (slotAt σ)) H1 H2 → sp vs H2 (fun v H' => Q v (open_ cl H')) C8.E0
theorem pe_cLk (c : C8.Cal X.prog X.w X.K X.mg X.base k x sp []) (hr : Room j X.A) (hk : k ≤ j) (hg : Gl X x) (cpo : X.Ok → Caps X cl fr js) (hfn : ∀ y, X.fn y = true) (ha : PA X (e :: es) t)
    (hdb : (x == ("__debug__" : Str)) = false := by decide) (he : starEach (e :: es) X.env = (false, eval e X.env) :: starEach es X.env := by rfl) (hpl : (backTo pos (starEach es X.env)).any (·.1) = false := by rfl) :
    PE X (.Call (.Name x p) (e :: es) [] pos) (tCallLk cl fr js sp t) := by
  obtain ⟨f, fd, ps, ds, F, hm, kp, bnd, hd⟩ := c.ex
  refine ⟨fun pins s σ H Q I h => ?_⟩
  have cp := cpo I.ok
  refine wpAny_Call_Name_kw (ld_glob I hg hm ?_ hdb)
  refine PySem.W.callWith_K (h₀ := X.base) I.ok.mod.kin kp (thn (ha.run pos pins s σ H _ I h) fun us s1 ⟨vs, H1, I1, r, q⟩ => ⟨I1.kIn, ?_⟩) he hpl
  obtain ⟨H2, lk, ok2⟩ := lock_of I1 cp
  have q2 := q H2 lk
  have C := cells_of I1 cp
  -- the cells are the frame's own
  have young : ∀ b, In cl b → X.s_0.heap.objs.size ≤ b := fun b ⟨y, ey⟩ => I1.ok.cab y b (hfn y) (cp.sub y b ey)
  have noBase : ∀ b, In cl b → X.base.get? b = none := fun b i => Heap.get?_none_of_le (Nat.le_trans I1.ok.bsz (young b i))
  have noFrame : ∀ b ∈ frs X.stack, ¬ In cl b := fun b hb i => by
    rcases List.mem_cons.mp (I1.stkSub b hb) with z | z
    · obtain ⟨y, ey⟩ := i
      obtain ⟨_, v, o, ho, hdd⟩ := C.all y b ey
      obtain ⟨m, ⟨o', es', ep', ho', hdd', _⟩, _⟩ := I1.loc
      rw [← z, ho] at ho'
      rw [← Option.some.inj ho', hdd] at hdd'
      cases hdd'
    · obtain ⟨_, o, ho, _⟩ := I1.ok.funs.mem z
      exact absurd (Heap.lt_size ho) (Nat.not_lt.mpr (young b i))
  have e0 := I1.env0
  have e2 : Env0 X.prog X.w X.K X.mg X.base X.A X.stack s1 H2 := ⟨e0.frames, e0.mod, fun b o eb => ⟨(e0.bs b o eb).1, by
    rw [lk.out b fun i => by rw [noBase b i] at eb; cases eb]
    exact (e0.bs b o eb).2⟩, e0.bsz, e0.funs, fun b hb => by rw [lk.out b (noFrame b hb)]; exact e0.frf b hb, ok2, e0.bare⟩
  have hl := F.len _ _ _ _ q2
  cases hd
  have hb2 := bnd s1 us I1.kIn (by rw [List.append_nil, ← r.length]; exact hl)
  rw [List.append_nil] at hb2
  show wpAny _ _ (call (.ref f) us) _ _ _
  refine wpAny_call (codeAny_mono (F.run X.A X.stack s1 H2 ⟨us, []⟩ us vs _ C8.E0 (hr.mono hk) e2 hb2 r q2) fun res s' hq => ?_)
  cases res with
  | error e => exact hq.elim
  | ok fl =>
    cases fl with
    | next => exact hq.elim
    | brk => exact hq.elim
    | cont => exact hq.elim
    | ret u =>
      obtain ⟨v, H', os, bare, un, hok, rv, qv⟩ := hq
      have hold : ∀ b, In cl b → ∀ o, s1.heap.get? b = some o → s'.heap.get? b = some o := fun b i o eo => by
        obtain ⟨o', v', z, _⟩ := lk.lk.frz i
        have g1 := (ok2 b _ z).1
        rw [eo] at g1
        rw [Option.some.inj g1]
        exact (hok b _ (un.frzs b o' _ z)).1
      have lockH : ∀ b, In cl b → ∃ o, H' b = some (lockO b o) := fun b i => by
        obtain ⟨o', v', z, _⟩ := lk.lk.frz i
        exact ⟨o', un.frzs b o' _ z⟩
      refine I1.after ⟨v, open_ cl H', os, bare, ⟨fun b o eo n hb hx => ?_, fun b o eo n hb hx => ?_, fun b o eo n hx => ?_, fun b o eo hx => un.there b o eo hx, fun b xs z => ?_, fun b o u z => ?_, fun b ps z => ?_⟩, fun b u eo => ?_, rv, qv⟩
      · by_cases i : In cl b
        · exact hold b i o eo
        · exact un.keep b o eo (by rw [lk.out b i]; exact n) hb hx
      · exact un.slot b o eo (by rw [lk.out b (noFrame b hb)]; exact n) hb hx
      · by_cases i : In cl b
        · exact open_in i
        · rw [open_out i]; exact un.free b o eo (by rw [lk.out b i]; exact n) hx
      · have i : ¬ In cl b := fun i => by rw [lk.free b i] at z; cases z
        rw [open_out i]; exact un.tups b xs (by rw [lk.out b i]; exact z)
      · have i : ¬ In cl b := fun i => by rw [lk.free b i] at z; cases z
        rw [open_out i]; exact un.frzs b o u (by rw [lk.out b i]; exact z)
      · have i : ¬ In cl b := fun i => by rw [lk.free b i] at z; cases z
        rw [open_out i]; exact un.tbls b ps (by rw [lk.out b i]; exact z)
      · by_cases i : In cl b
        · rw [open_in i] at eo; cases eo
        · rw [open_out i] at eo
          refine (hok b u eo).stay (fun _ _ _ z => z) (fun c z => ?_) fun c xs z => ?_
          · rw [open_out fun j => ?_]; exact z
            obtain ⟨o', w⟩ := lockH c j
            rw [w] at z; cases z
          · rw [open_out fun j => ?_]; exact z
            obtain ⟨o', w⟩ := lockH c j
            rw [w] at z; cases z
end
end VC

set_option Elab.async false
set_option linter.all false
set_option maxRecDepth 100000
set_option maxHeartbeats 4000000
namespace VP
open PySem PySem.Spec PyProof.Rows L2 LamX NdefX VB VM
theorem iteFe {b : Bool} {A B : Prop} (e : b = false) (h : B) : if b = true then A else B := by rw [e]; exact iteF h
theorem iteTe {b : Bool} {A B : Prop} (e : b = true) (h : A) : if b = true then A else B := by rw [e]; exact iteT h
theorem iteNT {p : Prop} [Decidable p] {A B : Prop} (e : p) (h : B) : if (!decide p) = true then A else B := iteFe (by rw [decide_eq_true e]; rfl) h
theorem un3 {k : Nat} {A : Around} (r : Room k A) : A.units + 3 < cLine := by have := r.un; omega
theorem un65 {k : Nat} {A : Around} (r : Room k A) : A.units + 65 < cLine := by have := r.un; omega
section
variable {X : Cx} {K : PySem.W.Frag} (h : X.K = K)
include h
theorem inD (hu : X.A.units + 65 < cLine) : OpR X (compareOp .In) (rInD K) := by subst h; exact op_inD hu
theorem notInD (hu : X.A.units + 65 < cLine) : OpR X (compareOp .NotIn) (rNotInD K) := by subst h; exact op_notInD hu
def embP (p : Addr × Pr) : V := V.ref p.1
def encP (p : Addr × Pr) : PyData := pqD p.2
theorem sortedP {k : Nat} (hr : Room k X.A) : CallR X (.builtin "sorted") (VA.rSortedB K embP encP) := by subst h; exact VA.cr_sortedB embP encP hr
def embE (p : Addr × Ed) : V := V.ref p.1
def encE (p : Addr × Ed) : PyData := edD p.2
theorem sortedE {k : Nat} (hr : Room k X.A) : CallR X (.builtin "sorted") (VA.rSortedB K embE encE) := by subst h; exact VA.cr_sortedB embE encE hr
end
def acts0 : List Str := ["a", "b", "c", "tau", "tick"]
/-- what else may stand at an edge in a law -/
abbrev acts : List Str := ["a", "b", "c", "tau", "tick", "pass", "zz", "d", "e1", "go2"]
theorem acts0_sub : ∀ x ∈ acts0, x ∈ acts := by decide +kernel
/-! rows of tuples in a heap -/
def Eds (K : PySem.W.Frag) (H : Hp) (L : List (Addr × Ed)) : Prop := ∀ p ∈ L, SqT K H p.1 (edV p.2)
def Pqs (K : PySem.W.Frag) (H : Hp) (L : List (Addr × Pr)) : Prop := ∀ p ∈ L, SqT K H p.1 (pqV p.2)
abbrev refs {α : Type} (L : List (Addr × α)) : List V := L.map fun p => V.ref p.1
section
variable {K : PySem.W.Frag} {H H' : Hp}
theorem Eds.kp {L : List (Addr × Ed)} (h : Eds K H L) (x : Kp H H') : Eds K H' L := fun p hp => x.sqT (h p hp)
theorem Pqs.kp {L : List (Addr × Pr)} (h : Pqs K H L) (x : Kp H H') : Pqs K H' L := fun p hp => x.sqT (h p hp)
theorem edDp {a : Addr} {e : Ed} (h : SqT K H a (edV e)) : Dp K H (.ref a) (edD e) := .tup h (.cons (.int _) (.cons (.str _) (.cons (.int _) .nil)))
theorem pqDp {a : Addr} {e : Pr} (h : SqT K H a (pqV e)) : Dp K H (.ref a) (pqD e) := .tup h (.cons (.str _) (.cons (.int _) .nil))
theorem Eds.all {L : List (Addr × Ed)} (h : Eds K H L) : DpAll K H (refs L) (L.map fun p => edD p.2) := by
  induction L with
  | nil => exact .nil
  | cons p L ih => exact .cons (edDp (h p List.mem_cons_self)) (ih fun q hq => h q (List.mem_cons_of_mem _ hq))
theorem Pqs.all {L : List (Addr × Pr)} (h : Pqs K H L) : DpAll K H (refs L) (L.map fun p => pqD p.2) := by
  induction L with
  | nil => exact .nil
  | cons p L ih => exact .cons (pqDp (h p List.mem_cons_self)) (ih fun q hq => h q (List.mem_cons_of_mem _ hq))
theorem refs_at {α : Type} {L : List (Addr × α)} {i : Nat} {v : V} (h : (refs L)[i]? = some v) : ∃ p, L[i]? = some p ∧ v = .ref p.1 := by
  rw [List.getElem?_map] at h
  obtain ⟨p, hp, rfl⟩ := Option.map_eq_some_iff.mp h
  exact ⟨p, hp, rfl⟩
theorem flat_ed (L : List Ed) : flatAll (L.map edD) = true := by
  induction L with
  | nil => rfl
  | cons e L ih => rw [List.map_cons]; simp only [flatAll, edD, flatD, ih, Bool.and_self]
end
theorem refs_snoc {α : Type} (L : List (Addr × α)) (p : Addr × α) : refs (L ++ [p]) = refs L ++ [V.ref p.1] := by simp [refs]
theorem refs_len {α : Type} (L : List (Addr × α)) : (refs L).length = L.length := List.length_map _
/-- an edge within n states, of an action that the law draws -/
def okE (n : Int) (e : Ed) : Prop := 0 ≤ e.1 ∧ e.1 < n ∧ 0 ≤ e.2.2 ∧ e.2.2 < n ∧ e.2.1 ∈ acts
/-! what a lock leaves -/
section
variable {cl : List (Str × Addr)} {fr : List Str} {ws : List (Option V)} {H1 H2 H' : Hp}
theorem lock_same (L : VC.Lock cl fr ws H1 H2) : Same H1 H2 := fun b o e => by
  rw [L.out b fun i => by rw [L.free b i] at e; cases e]; exact e
theorem open_same (L : VC.Lock cl fr ws H1 H2) (s : Same H2 H') : Same H1 (VC.open_ cl H') := fun b o e => by
  have i : ¬ VC.In cl b := fun i => by rw [L.free b i] at e; cases e
  rw [VC.open_out i]
  exact s b o (by rw [L.out b i]; exact e)
theorem open_extN (L : VC.Lock cl fr ws H1 H2) (s : ExtN H2 H') : ExtN H1 (VC.open_ cl H') := fun b o e n => by
  have i : ¬ VC.In cl b := fun i => by rw [L.free b i] at e; cases e
  rw [VC.open_out i]
  exact s b o (by rw [L.out b i]; exact e) n
theorem shut_same {H : Hp} (hl : VC.Locked H cl fr ws) (s : Same (VC.open_ cl H) H') : Same H (VC.shut cl H H') := fun b o e => by
  by_cases i : VC.In cl b
  · rw [VC.shut_in i]; exact e
  · rw [VC.shut_out i]; exact s b o (by rw [VC.open_out i]; exact e)
theorem open_get {H : Hp} (hl : VC.Locked H cl fr ws) {b : Addr} {o : HO} (e : H b = some o) (n : ∀ ob, o ≠ VC.lockO b ob) : VC.open_ cl H b = some o := by
  rw [VC.open_out fun i => ?_]
  · exact e
  · obtain ⟨ob, v, z, _⟩ := hl.frz i
    rw [e] at z
    exact n ob (Option.some.inj z)
end
/-! each item once -/
section
variable {α : Type} [DecidableEq α]
def onceG : List α → List α → List α
  | acc, [] => acc
  | acc, x :: r => onceG (if x ∈ acc then acc else acc ++ [x]) r
theorem onceG_snoc : ∀ (xs acc : List α) (x : α), onceG acc (xs ++ [x]) = if x ∈ onceG acc xs then onceG acc xs else onceG acc xs ++ [x]
  | [], acc, x => rfl
  | y :: xs, acc, x => onceG_snoc xs _ x
theorem onceG_nodup : ∀ (xs acc : List α), acc.Nodup → (onceG acc xs).Nodup
  | [], acc, h => h
  | x :: xs, acc, h => by
    refine onceG_nodup xs _ ?_
    split
    · exact h
    · rename_i q
      exact List.nodup_append.mpr ⟨h, by simp, fun a ha b hb => by rw [List.mem_singleton.mp hb]; intro e; exact q (e ▸ ha)⟩
theorem onceG_mem : ∀ (xs acc : List α) (y : α), y ∈ onceG acc xs ↔ y ∈ acc ∨ y ∈ xs
  | [], acc, y => by simp [onceG]
  | x :: xs, acc, y => by
    unfold onceG
    rw [onceG_mem xs _ y, List.mem_cons]
    by_cases q : x ∈ acc
    · rw [if_pos q]
      constructor
      · rintro (z | z)
        · exact .inl z
        · exact .inr (.inr z)
      · rintro (z | z | z)
        · exact .inl z
        · exact .inl (z ▸ q)
        · exact .inr z
    · rw [if_neg q, List.mem_append, List.mem_singleton, or_assoc]
theorem onceG_len : ∀ (xs acc : List α), (onceG acc xs).length ≤ acc.length + xs.length
  | [], acc => Nat.le_refl _
  | x :: xs, acc => by
    unfold onceG
    refine Nat.le_trans (onceG_len xs _) ?_
    split
    · rw [List.length_cons]; omega
    · rw [List.length_append, List.length_singleton, List.length_cons]; omega
end
/-! data of edges -/
theorem ed_eqv (a b : Ed) : PyData.eqv (edD a) (edD b) = decide (a = b) := by
  have e : (a = b) ↔ a.1 = b.1 ∧ a.2.1 = b.2.1 ∧ a.2.2 = b.2.2 := by
    constructor
    · rintro rfl; exact ⟨rfl, rfl, rfl⟩
    · rintro ⟨h1, h2, h3⟩; exact Prod.ext h1 (Prod.ext h2 h3)
  have k : PyData.eqv (edD a) (edD b) = true ↔ a = b := by
    rw [e]
    simp [edD, PyData.eqv, PyData.eqvAll, and_assoc]
  by_cases h : a = b
  · rw [k.2 h, decide_eq_true h]
  · rw [decide_eq_false h]
    exact Bool.eq_false_iff.mpr fun z => h (k.1 z)
theorem ed_shaped {a : Ed} (h : PyData.strOk a.2.1 = true) : SeqAt.shaped (edD a) = true := by
  simp [SeqAt.shaped, edD, PyData.canLay0, PyData.canLayAll0, PyData.depth, PyData.depthAll, h]
theorem eds_shaped {L : List Ed} (h : ∀ e ∈ L, PyData.strOk e.2.1 = true) : SeqAt.shaped (.list (L.map edD)) = true := by
  have k : PyData.canLayAll0 (L.map edD) = true ∧ PyData.depthAll (L.map edD) ≤ 1 := by
    induction L with
    | nil => exact ⟨rfl, Nat.zero_le _⟩
    | cons e L ih =>
      obtain ⟨k1, k2⟩ := ih fun x hx => h x (List.mem_cons_of_mem _ hx)
      rw [List.map_cons]
      refine ⟨by simp [edD, PyData.canLay0, PyData.canLayAll0, h e List.mem_cons_self, k1], ?_⟩
      unfold PyData.depthAll
      have : (edD e).depth = 1 := by simp [edD, PyData.depth, PyData.depthAll]
      omega
  unfold SeqAt.shaped
  rw [show (PyData.list (L.map edD)).canLay0 = PyData.canLayAll0 (L.map edD) by rw [PyData.canLay0], k.1, Bool.true_and, decide_eq_true_eq]
  unfold PyData.depth
  omega
theorem any_ed (e : Ed) : ∀ L : List Ed, ((L.map edD).any fun z => PyData.eqv z (edD e)) = decide (e ∈ L)
  | [] => by simp
  | x :: L => by
    rw [List.map_cons, List.any_cons, any_ed e L, ed_eqv]
    by_cases h : x = e
    · subst h; simp
    · have h2 : ¬ e = x := fun z => h z.symm
      simp [h, h2]
/-! the actions -/
theorem acts_ok : ∀ x ∈ acts, PyData.strOk x = true ∧ x.length ≤ 10 := by decide +kernel
end VP

set_option Elab.async false
set_option linter.all false
set_option maxRecDepth 100000
set_option maxHeartbeats 4000000
namespace LW
open PySem PySem.Spec PyProof.Rows L2 LamX NdefX VB VM VP
def top (i : Nat) : Stmt := PySem.Challenge.pw_parley_k31_pictures_of_normal_forms.main.body.getD i (.Pass ⟨0, 0, 0, 0⟩)
abbrev s__law_cell : Stmt := top 26
theorem sc__law_cell : FnScope ["script", "k"] ["script", "k"] (defScope s__law_cell) := ⟨rfl, rfl, rfl, by decide +kernel, rfl, by decide +kernel, by decide +kernel⟩
abbrev s__law_like : Stmt := top 28
theorem sc__law_like : FnScope ["actual", "due", "k"] ["actual", "due"] (defScope s__law_like) := ⟨rfl, rfl, rfl, by decide +kernel, rfl, by decide +kernel, by decide +kernel⟩
abbrev s__law_draws : Stmt := top 27
theorem sc__law_draws : FnScope ["cell", "count", "rows", "left", "k", "mixed"] ["cell", "count"] (defScope s__law_draws) := ⟨rfl, rfl, rfl, by decide +kernel, rfl, by decide +kernel, by decide +kernel⟩
section
variable {P : Program} {w : World} {K : PySem.W.Frag} {mg : Str → Option Value} {base : Heap}
/-- a cell of the script: some number that is not negative -/
def spCell (K : PySem.W.Frag) : Sp := fun vs H Q _ => ∃ (a : Addr) (ns : List Int) (k : Int), vs = [.ref a, .int k] ∧ SqL K H a (ns.map V.int) ∧ 0 ≤ k ∧
  ∀ r : Int, 0 ≤ r → Q (.int r) H
theorem c_cell (D : Df K mg "_law_cell" s__law_cell) (z_len : mg "len" = none) (z_abs : mg "abs" = none) (z_int : mg "int" = none) :
    C8.Cal P w K mg base 1 "_law_cell" (spCell K) [] := by
  refine D.cal sc__law_cell (fun _ _ _ _ _ _ us hl => match us, hl with | [_, _], _ => rfl) (fun vs H Q E h => ?_) (fun f cdv A outer s H vs Q E hr h => ?_)
  · obtain ⟨a, ns, k, rfl, _⟩ := h
    rfl
  obtain ⟨a, ns, k, rfl, hS, h0, q⟩ := h
  have hl : (ns.map V.int).length = ns.length := List.length_map _
  refine ⟨_, (pss_cons (ps_if (pt_cmpR op_lt (pv 1) (pe_callB (VK.lenQ (K := K) rfl) (by rfl) z_len PySem.boot_len (pa_cons (pv 0) pa_nil)) (nomark _))
      (pss_one (ps_ret (pe_callB call_abs (by rfl) z_abs (by decide +kernel) (pa_cons (pe_callTy call_int1 (by rfl) z_int (by decide +kernel) (pa_cons (pe_ix (VK.ixL (K := K) rfl) (pv 0) (pv 1) (fun _ _ => rfl)) pa_nil)) pa_nil))))
      pss_nil)
    (pss_one (ps_ret pe_int))), ?_⟩
  refine ⟨_, rfl, _, rfl, a, _, rfl, .inl hS, _, _, rfl, rfl, _, rfl, ?_⟩
  refine ite2 (fun c => ?_) (fun c => ?_)
  · have c' : k < (((ns.map V.int).length : Nat) : Int) := of_decide_eq_true c
    rw [hl] at c'
    have hk : k.toNat < ns.length := by omega
    have ek : k = ((k.toNat : Nat) : Int) := by omega
    have q1 : atI (ns.map V.int) ((k.toNat : Nat) : Int) = some (.int ns[k.toNat]) := atI_nat (by rw [List.getElem?_map, List.getElem?_eq_getElem hk] <;> rfl)
    rw [← ek] at q1
    refine ⟨_, rfl, _, rfl, a, _, _, _, rfl, rfl, hS, q1, .inl ⟨_, rfl, _, rfl, q _ ?_⟩⟩
    split <;> omega
  · exact q 0 (Int.le_refl 0)
/-- so many draws, each from 0 to 4095 -/
def spDraws : Sp := fun vs H Q _ => ∃ (c n : Int), vs = [.int c, .int n] ∧ 0 ≤ n ∧ n ≤ 1000 ∧
  ∀ (p : Addr) (ns : List Int), H p = none → ns.length = n.toNat → (∀ x ∈ ns, 0 ≤ x ∧ x < 4096) → Q (.ref p) (upd H p (.lst (ns.map V.int)))
theorem c_draws (D : Df K mg "_law_draws" s__law_draws) (z_range : mg "range" = none) (z_int : mg "int" = none) :
    C8.Cal P w K mg base 1 "_law_draws" spDraws [] := by
  refine D.cal sc__law_draws (fun _ _ _ _ _ _ us hl => match us, hl with | [_, _], _ => rfl) (fun vs H Q E h => ?_) (fun f cdv A outer s H vs Q E hr h => ?_)
  · obtain ⟨c, n, rfl, _⟩ := h
    rfl
  obtain ⟨c, n, rfl, h0, h1, q⟩ := h
  refine ⟨_, (pss_cons (ps_set (i := 2) sc__law_draws.nd rfl (Or.inl rfl) (pe_lst pa_nil))
    (pss_cons (ps_set (i := 3) sc__law_draws.nd rfl (Or.inl rfl) (pv 0))
    (pss_cons (ps_for PassesOwn.never rfl (pi_range1 rfl z_range (pa_cons (pv 1) pa_nil)) (pg_name (i := 4) sc__law_draws.nd rfl (Or.inl rfl))
      (pss_one (ps_if (PW.pt (pw_and (pt_cmpR op_ge (pv 0) (pe_op op_pow pe_int pe_int) (nomark _)) (pw_and1 (pt_cmpR op_gt (pv 3) pe_int (nomark _)))))
        (pss_cons (ps_expr (pe_bm PySem.F.plainAttrs_list PySem.F.slot_list_append PySem.F.type_list_append mt_append (pv 2) (pa_cons (pe_op op_mod (pe_callTy call_int1 (by rfl) z_int (by decide +kernel) (pa_cons (pv 3) pa_nil)) pe_int) pa_nil)))
        (pss_one (ps_set (i := 3) sc__law_draws.nd rfl (Or.inl rfl) (pe_op op_fdiv (pv 3) pe_int))))
        (pss_cons (ps_set (i := 5) sc__law_draws.nd rfl (Or.inl rfl) (pe_op op_mod (pe_callTy call_int1 (by rfl) z_int (by decide +kernel) (pa_cons (pe_op op_add (pe_op op_mul (pv 0) pe_int) (pe_op op_mul (pe_op op_add (pv 4) pe_int) pe_int)) pa_nil)) pe_int))
        (pss_cons (ps_set (i := 5) sc__law_draws.nd rfl (Or.inl rfl) (pe_op op_mod (pe_callTy call_int1 (by rfl) z_int (by decide +kernel) (pa_cons (pe_op op_add (pe_op op_add (pe_op op_mul (pv 5) (pv 5)) (pe_op op_mul (pv 5) pe_int)) (pe_op op_mul (pv 4) pe_int)) pa_nil)) pe_int))
        (pss_cons (ps_set (i := 5) sc__law_draws.nd rfl (Or.inl rfl) (pe_op op_mod (pe_callTy call_int1 (by rfl) z_int (by decide +kernel) (pa_cons (pe_op op_add (pe_op op_add (pe_op op_mul (pv 5) (pv 5)) (pv 0)) (pe_op op_mul pe_int (pv 4))) pa_nil)) pe_int))
        (pss_one (ps_expr (pe_bm PySem.F.plainAttrs_list PySem.F.slot_list_append PySem.F.type_list_append mt_append (pv 2) (pa_cons (pe_op op_mod (pe_op op_fdiv (pv 5) pe_int) pe_int) pa_nil))))))))))
    (pss_one (ps_ret (pv 2)))))), ?_⟩
  refine ⟨Nat.zero_le _, fun l nl => ?_⟩
  refine ⟨_, rfl, ?_⟩
  refine ⟨_, rfl, n, rfl, by omega, by omega, for_range (lo := 0) (n := n.toNat)
    (fun i σ H' => ∃ (ns : List Int) (left : Int) (kk mm : Option V), σ = [some (.int c), some (.int n), some (.ref l), some (.int left), kk, mm] ∧ H' = upd H l (.lst (ns.map V.int)) ∧
      ns.length = i ∧ ∀ x ∈ ns, 0 ≤ x ∧ x < 4096) ⟨[], c, none, none, rfl, rfl, rfl, fun x hx => by cases hx⟩ ?_ ?_⟩
  · rintro i σ H' hi ⟨ns, left, kk, mm, rfl, rfl, hlen, hb⟩
    have hlen2 : (ns.map V.int).length < sizeLine := by rw [List.length_map]; exact small1000 (by omega)
    have last : ∀ (x : Int) (left' : Int) (mm' : Option V), 0 ≤ x → x < 4096 →
        ∃ (ns' : List Int) (left1 : Int) (kk1 mm1 : Option V), [some (V.int c), some (V.int n), some (V.ref l), some (V.int left'), some (V.int (0 + (i : Int))), mm'] = [some (V.int c), some (V.int n), some (V.ref l), some (V.int left1), kk1, mm1] ∧
          upd (upd H l (.lst (ns.map V.int))) l (.lst (ns.map V.int ++ [.int x])) = upd H l (.lst (ns'.map V.int)) ∧ ns'.length = i + 1 ∧ ∀ x ∈ ns', 0 ≤ x ∧ x < 4096 := by
      intro x left' mm' hx0 hx1
      refine ⟨ns ++ [x], left', _, _, rfl, ?_, by simp [hlen], fun y hy => ?_⟩
      · rw [upd_upd, List.map_append] <;> rfl
      · rcases List.mem_append.mp hy with z | z
        · exact hb y z
        · rw [List.mem_singleton.mp z]; exact ⟨hx0, hx1⟩
    have md : ∀ x m : Int, 0 < m → m ≤ 2147483647 → 0 ≤ x % m ∧ (-(2 ^ 64) < x % m ∧ x % m < 2 ^ 64) := fun x m h1 h2 => by
      have z1 := Int.emod_nonneg x (show m ≠ 0 by omega)
      have z2 := Int.emod_lt_of_pos x h1
      exact ⟨z1, by omega, by omega⟩
    refine ⟨_, rfl, _, _, rfl, rfl, ⟨by decide, by decide, by decide⟩, _, _, rfl, rfl, _, rfl, ?_⟩
    refine ite2 (fun c1 => ?x1) (fun c1 => iteF ?x3)
    case' x1 =>
      refine ⟨_, rfl, _, _, rfl, rfl, _, rfl, ?_⟩
      refine ite2 (fun c2 => ?x2) (fun c2 => ?x4)
      case x2 =>
        refine ⟨_, rfl, .inl ⟨rfl, _, SqL.of upd_same⟩, _, rfl, .inl ⟨_, rfl, _, _, rfl, rfl, (by show (0 : Int) < 4096; decide), l, _, _, rfl, rfl, upd_same, hlen2, ?_⟩⟩
        refine ⟨_, rfl, _, _, rfl, rfl, ⟨by decide, by decide⟩, ?_⟩
        exact last _ _ _ (Int.emod_nonneg _ (by decide)) (Int.emod_lt_of_pos _ (by decide))
    all_goals
      refine ⟨_, rfl, _, _, rfl, rfl, .inr ⟨by decide, by decide⟩, _, rfl, _, _, rfl, rfl, _, _, rfl, rfl, .inr ⟨by decide, by decide⟩, _, _, rfl, rfl, .inl ⟨_, rfl, _, _, rfl, rfl, (by show (0 : Int) < 2147483647; decide), ?_⟩⟩
      refine ⟨_, rfl, _, rfl, _, _, rfl, rfl, (.inl (md _ 2147483647 (by decide) (by decide)).2), _, rfl, _, _, rfl, rfl, .inr ⟨by decide, by decide⟩, _, _, rfl, rfl, _, rfl, _, _, rfl, rfl, .inr ⟨by decide, by decide⟩, _, _, rfl, rfl, .inl ⟨_, rfl, _, _, rfl, rfl, (by show (0 : Int) < 2147483629; decide), ?_⟩⟩
      refine ⟨_, rfl, _, rfl, _, _, rfl, rfl, (.inl (md _ 2147483629 (by decide) (by decide)).2), _, rfl, _, _, rfl, rfl, _, rfl, _, _, rfl, rfl, .inl ⟨by decide, by decide⟩, _, _, rfl, rfl, .inl ⟨_, rfl, _, _, rfl, rfl, (by show (0 : Int) < 2147483587; decide), ?_⟩⟩
      refine ⟨_, rfl, .inl ⟨rfl, _, SqL.of upd_same⟩, _, rfl, _, _, rfl, rfl, ⟨by decide, by decide⟩, _, _, rfl, rfl, (by show (0 : Int) < 4096; decide), l, _, _, rfl, rfl, upd_same, hlen2, ?_⟩
      exact last _ _ _ (Int.emod_nonneg _ (by decide)) (Int.emod_lt_of_pos _ (by decide))
  · rintro σ H' ⟨ns, left, kk, mm, rfl, rfl, hlen, hb⟩
    exact ⟨_, rfl, q l ns nl hlen hb⟩
/-- a promise that asks what can't be is kept -/
theorem calNone {x : Str} {st : Stmt} {ps : List Str} {sp : Sp} (D : Df K mg x st) (hb : BindOk x st ps) (no : ∀ vs H Q E, ¬ sp vs H Q E) : C8.Cal P w K mg base 0 x sp [] := by
  obtain ⟨f, fd, F, hm⟩ := D
  exact ⟨f, fd, ps, [], ⟨fun vs H Q E h => absurd h (no vs H Q E), fun A outer s H args us vs Q E _ _ _ _ h => absurd h (no vs H Q E)⟩, hm, F.kp, F.bindsN hb, .nil⟩
/-- the name of a datum's class -/
def tyN : PyData → String
  | .none => "NoneType"
  | .bool _ => "bool"
  | .int _ => "int"
  | .str _ => "str"
  | .list _ => "list"
  | .tuple _ => "tuple"
  | .dict _ => "dict"
theorem sqL_ty {H : Hp} {a : Addr} {xs : List V} (h : SqL K H a xs) : TyX K H (.ref a) (.type "list") := by
  rcases h with (h | ⟨o, h⟩) | ⟨o, its, n, h1, h2, _⟩
  · exact .base (.lst h)
  · exact .base (.frz h)
  · exact .kList h1 h2
theorem sqT_ty {H : Hp} {a : Addr} {xs : List V} (h : SqT K H a xs) : TyX K H (.ref a) (.type "tuple") := by
  rcases h with (h | ⟨o, h⟩) | ⟨o, its, n, h1, h2, _⟩
  · exact .base (.tup h)
  · exact .fTuple h
  · exact .kTuple h1 h2
theorem dp_ty {H : Hp} {v : V} {d : PyData} (h : Dp K H v d) : TyX K H v (.type (tyN d)) := by
  cases h with
  | non => exact .base .non
  | bl b => exact .base (.bl b)
  | int i => exact .base (.int i)
  | str x => exact .base (.str x)
  | lst h1 _ => exact sqL_ty h1
  | tup h1 _ => exact sqT_ty h1
mutual
/-- no list or tuple in it has more than n items -/
def slimD (n : Nat) : PyData → Bool
  | .list xs => decide (xs.length ≤ n) && slimAll n xs
  | .tuple xs => decide (xs.length ≤ n) && slimAll n xs
  | _ => true
def slimAll (n : Nat) : List PyData → Bool
  | [] => true
  | x :: xs => slimD n x && slimAll n xs
end
theorem depth_mem : ∀ {xs : List PyData} {d : PyData}, d ∈ xs → d.depth ≤ PyData.depthAll xs
  | x :: xs, d, h => by
    unfold PyData.depthAll
    rcases List.mem_cons.mp h with z | z
    · subst z; exact Nat.le_max_left _ _
    · exact Nat.le_trans (depth_mem z) (Nat.le_max_right _ _)
theorem slim_mem {n : Nat} : ∀ {xs : List PyData} {d : PyData}, slimAll n xs = true → d ∈ xs → slimD n d = true
  | x :: xs, d, hs, h => by
    simp only [slimAll, Bool.and_eq_true] at hs
    rcases List.mem_cons.mp h with z | z
    · subst z; exact hs.1
    · exact slim_mem hs.2 z
def noDict : PyData → Bool
  | .dict _ => false
  | _ => true
/-- the two stand for the same datum: True -/
def spLike (K : PySem.W.Frag) (m : Nat) : Sp := fun vs H Q _ => ∃ (x y : V) (d : PyData), vs = [x, y] ∧ Dp K H x d ∧ Dp K H y d ∧ d.depth < m ∧ slimD 100000 d = true ∧
  ∀ H', Same H H' → Q (.bl true) H'
theorem like_seq {H : Hp} {K : PySem.W.Frag} {xs ys : List V} {ds : List PyData} (hx : DpAll K H xs ds) (hy : DpAll K H ys ds) {i : Nat} (hi : i < ds.length) :
    ∃ x y, atI xs ((0 : Int) + (i : Int)) = some x ∧ atI ys ((0 : Int) + (i : Int)) = some y ∧ Dp K H x ds[i] ∧ Dp K H y ds[i] := by
  obtain ⟨x, h1, h2⟩ := VB.DpAll.get hx (List.getElem?_eq_getElem hi)
  obtain ⟨y, h3, h4⟩ := VB.DpAll.get hy (List.getElem?_eq_getElem hi)
  rw [Int.zero_add]
  exact ⟨x, y, atI_nat h1, atI_nat h3, h2, h4⟩
theorem sameIn {H H' : Hp} {p : Addr} {o : HO} (x : Same H H') (h : H p = none) : Same H (upd H' p o) := fun b u q => by rw [upd_ne (ne_of_none q h)]; exact x b u q
theorem sqAny {H H' : Hp} {a : Addr} {xs : List V} (s0 : Same H H') (h : SqL K H a xs ∨ SqT K H a xs) : SqL K H' a xs ∨ SqT K H' a xs :=
  h.imp (fun z => s0.seq z) fun z => Same.sqT s0 z
theorem ixAny {H : Hp} {a : Addr} {xs : List V} {i : Int} {v : V} {Q : VK} (h : SqL K H a xs ∨ SqT K H a xs) (e : atI xs i = some v) (q : Q v H) : rIx K (.ref a) (.int i) H Q := by
  rcases h with h | h
  · exact .inl ⟨a, xs, i, v, rfl, rfl, h, e, q⟩
  · exact .inr (.inl ⟨a, xs, i, v, rfl, rfl, h, e, q⟩)
theorem all_true : ∀ n : Nat, (List.replicate n true).all id = true
  | 0 => rfl
  | n + 1 => by rw [List.replicate_succ, List.all_cons, all_true n] <;> rfl
theorem c_like (D : Df K mg "_law_like" s__law_like) (z_isinstance : mg "isinstance" = none) (z_bool : mg "bool" = none) (z_str : mg "str" = none) (z_int : mg "int" = none)
    (z_list : mg "list" = none) (z_tuple : mg "tuple" = none) (z_len : mg "len" = none) (z_range : mg "range" = none) (z_all : mg "all" = none) :
    ∀ m : Nat, C8.Cal P w K mg base m "_law_like" (spLike K m) [] := by
  intro m
  induction m with
  | zero => exact calNone D (ps := ["actual", "due"]) (fun _ _ _ _ _ _ us hl => match us, hl with | [_, _], _ => rfl) fun vs H Q E ⟨_, _, _, _, _, _, z, _⟩ => Nat.not_lt_zero _ z
  | succ m c__law_like =>
    refine D.cal sc__law_like (fun _ _ _ _ _ _ us hl => match us, hl with | [_, _], _ => rfl) (fun vs H Q E h => ?_) (fun f cdv A outer s H vs Q E hr h => ?_)
    · obtain ⟨x, y, d, rfl, _⟩ := h
      rfl
    obtain ⟨x, y, d, rfl, hx, hy, hm, hw, q⟩ := h
    refine ⟨_, (pss_cons (ps_if (pt_cmpR op_isN (pv 1) pe_non (nomark _))
      (pss_one (ps_ret (pe_cmpR op_isN (pv 0) pe_non (nomark _))))
      pss_nil)
    (pss_cons (ps_if (pt_val (pe_callB (VK.isi (K := K) rfl) (by rfl) z_isinstance (by decide +kernel) (pa_cons (pv 1) (pa_cons (pe_bltn (v := .ty "bool") (by rfl) z_bool (by decide +kernel) rfl) pa_nil))))
      (pss_one (ps_ret (pe_and (pe_callB (VK.isi (K := K) rfl) (by rfl) z_isinstance (by decide +kernel) (pa_cons (pv 0) (pa_cons (pe_bltn (v := .ty "bool") (by rfl) z_bool (by decide +kernel) rfl) pa_nil))) (pe_one (pe_cmpR op_eq (pv 0) (pv 1) (nomark _))))))
      pss_nil)
    (pss_cons (ps_if (pt_val (pe_callB (VK.isi (K := K) rfl) (by rfl) z_isinstance (by decide +kernel) (pa_cons (pv 1) (pa_cons (pe_bltn (v := .ty "str") (by rfl) z_str (by decide +kernel) rfl) pa_nil))))
      (pss_one (ps_ret (pe_and (pe_callB (VK.isi (K := K) rfl) (by rfl) z_isinstance (by decide +kernel) (pa_cons (pv 0) (pa_cons (pe_bltn (v := .ty "str") (by rfl) z_str (by decide +kernel) rfl) pa_nil))) (pe_one (pe_cmpR op_eq (pv 0) (pv 1) (nomark _))))))
      pss_nil)
    (pss_cons (ps_if (pt_val (pe_callB (VK.isi (K := K) rfl) (by rfl) z_isinstance (by decide +kernel) (pa_cons (pv 1) (pa_cons (pe_bltn (v := .ty "int") (by rfl) z_int (by decide +kernel) rfl) pa_nil))))
      (pss_one (ps_ret (pe_and (pe_callB (VK.isi (K := K) rfl) (by rfl) z_isinstance (by decide +kernel) (pa_cons (pv 0) (pa_cons (pe_bltn (v := .ty "int") (by rfl) z_int (by decide +kernel) rfl) pa_nil))) (pe_and (pe_not (pe_callB (VK.isi (K := K) rfl) (by rfl) z_isinstance (by decide +kernel) (pa_cons (pv 0) (pa_cons (pe_bltn (v := .ty "bool") (by rfl) z_bool (by decide +kernel) rfl) pa_nil)))) (pe_one (pe_cmpR op_eq (pv 0) (pv 1) (nomark _)))))))
      pss_nil)
    (pss_cons (ps_if (PW.pt (pw_or (pt_cmpR op_ne (pe_callB (VK.isi (K := K) rfl) (by rfl) z_isinstance (by decide +kernel) (pa_cons (pv 1) (pa_cons (pe_bltn (v := .ty "list") (by rfl) z_list (by decide +kernel) rfl) pa_nil))) (pe_callB (VK.isi (K := K) rfl) (by rfl) z_isinstance (by decide +kernel) (pa_cons (pv 0) (pa_cons (pe_bltn (v := .ty "list") (by rfl) z_list (by decide +kernel) rfl) pa_nil))) (nomark _)) (pw_or1 (pt_cmpR op_ne (pe_callB (VK.isi (K := K) rfl) (by rfl) z_isinstance (by decide +kernel) (pa_cons (pv 1) (pa_cons (pe_bltn (v := .ty "tuple") (by rfl) z_tuple (by decide +kernel) rfl) pa_nil))) (pe_callB (VK.isi (K := K) rfl) (by rfl) z_isinstance (by decide +kernel) (pa_cons (pv 0) (pa_cons (pe_bltn (v := .ty "tuple") (by rfl) z_tuple (by decide +kernel) rfl) pa_nil))) (nomark _)))))
      (pss_one (ps_ret pe_bl))
      pss_nil)
    (pss_cons (ps_if (pt_cmpR op_ne (pe_callB (VK.lenQ (K := K) rfl) (by rfl) z_len PySem.boot_len (pa_cons (pv 0) pa_nil)) (pe_callB (VK.lenQ (K := K) rfl) (by rfl) z_len PySem.boot_len (pa_cons (pv 1) pa_nil)) (nomark _))
      (pss_one (ps_ret pe_bl))
      pss_nil)
    (pss_one (ps_ret (pe_callB (VK.allL (K := K) rfl rfl) (by rfl) z_all (by decide +kernel) (pa_cons (pe_lc (own := [("k", 2)]) (tt := tYes) rfl sc__law_like.nd (pi_range1 rfl z_range (pa_cons (pe_callB (VK.lenQ (K := K) rfl) (by rfl) z_len PySem.boot_len (pa_cons (pv 1) pa_nil)) pa_nil)) (blkOk_by (N := ["actual", "due", "k"]) (sc := defScope s__law_like) (by decide +kernel)) (fun _ _ _ _ _ => (pg_name (i := 2) sc__law_like.nd rfl (Or.inl rfl) (hf := Or.inr rfl))) (fun _ _ _ _ _ => pts_nil) (fun _ _ _ _ _ => (C8.pe_c c__law_like hr (by first | decide | omega) rfl (pa_cons (pe_ix (VK.ixQ (K := K) rfl) (pv 0) (pv 2) (fun _ _ => rfl)) (pa_cons (pe_ix (VK.ixQ (K := K) rfl) (pv 1) (pv 2) (fun _ _ => rfl)) pa_nil))))) pa_nil)))))))))), ?_⟩
    refine ⟨_, rfl, rfl, _, rfl, ?_⟩
    cases d
    case none =>
      cases hx
      cases hy
      refine ite2 (fun _ => ?_) (fun c => absurd (decide_eq_true rfl) c)
      exact ⟨_, rfl, rfl, q H (Same.refl H)⟩
    case bool b =>
      have ty : TyX K H y (.type "bool") := dp_ty hy
      have tx : TyX K H x (.type "bool") := dp_ty hx
      cases hx
      cases hy
      refine ite2 (fun c => absurd (of_decide_eq_true c) (by intro z; cases z)) (fun _ => ?_)
      refine ⟨_, rfl, _, _, _, _, true, rfl, .ty _, ty, kit_ty (by decide +kernel), _, rfl, iteT ?_⟩
      refine ⟨_, rfl, _, _, _, _, true, rfl, .ty _, tx, kit_ty (by decide +kernel), _, rfl, iteT ?_⟩
      refine ⟨_, rfl, _, rfl, rfl, ?_⟩
      rw [decide_eq_true rfl]
      exact q H (Same.refl H)
    case str b =>
      have ty : TyX K H y (.type "str") := dp_ty hy
      have tx : TyX K H x (.type "str") := dp_ty hx
      cases hx
      cases hy
      refine ite2 (fun c => absurd (of_decide_eq_true c) (by intro z; cases z)) (fun _ => ?_)
      refine ⟨_, rfl, _, _, _, _, false, rfl, .ty _, ty, kit_ty (by decide +kernel), _, rfl, iteF ?_⟩
      refine ⟨_, rfl, _, _, _, _, true, rfl, .ty _, ty, kit_ty (by decide +kernel), _, rfl, iteT ?_⟩
      refine ⟨_, rfl, _, _, _, _, true, rfl, .ty _, tx, kit_ty (by decide +kernel), _, rfl, iteT ?_⟩
      refine ⟨_, rfl, _, rfl, rfl, ?_⟩
      rw [decide_eq_true rfl]
      exact q H (Same.refl H)
    case int b =>
      have ty : TyX K H y (.type "int") := dp_ty hy
      have tx : TyX K H x (.type "int") := dp_ty hx
      cases hx
      cases hy
      refine ite2 (fun c => absurd (of_decide_eq_true c) (by intro z; cases z)) (fun _ => ?_)
      refine ⟨_, rfl, _, _, _, _, false, rfl, .ty _, ty, kit_ty (by decide +kernel), _, rfl, iteF ?_⟩
      refine ⟨_, rfl, _, _, _, _, false, rfl, .ty _, ty, kit_ty (by decide +kernel), _, rfl, iteF ?_⟩
      refine ⟨_, rfl, _, _, _, _, true, rfl, .ty _, ty, kit_ty (by decide +kernel), _, rfl, iteT ?_⟩
      refine ⟨_, rfl, _, _, _, _, true, rfl, .ty _, tx, kit_ty (by decide +kernel), _, rfl, iteT ?_⟩
      refine ⟨_, rfl, _, _, _, _, false, rfl, .ty _, tx, kit_ty (by decide +kernel), _, rfl, _, rfl, iteT ?_⟩
      refine ⟨_, rfl, _, rfl, rfl, ?_⟩
      rw [decide_eq_true rfl]
      exact q H (Same.refl H)
    case dict kvs => cases hx
    case' list ds =>
      have ty : TyX K H y (.type "list") := dp_ty hy
      have tx : TyX K H x (.type "list") := dp_ty hx
      cases hx
      cases hy
      rename_i a xs sx0 dx b ys sy0 dy
      have sx : SqL K H a xs ∨ SqT K H a xs := .inl sx0
      have sy : SqL K H b ys ∨ SqT K H b ys := .inl sy0
      refine ite2 (fun c => absurd (of_decide_eq_true c) (by intro z; cases z)) (fun _ => ?_)
      refine ⟨_, rfl, _, _, _, _, false, rfl, .ty _, ty, kit_ty (by decide +kernel), _, rfl, iteF ?_⟩
      refine ⟨_, rfl, _, _, _, _, false, rfl, .ty _, ty, kit_ty (by decide +kernel), _, rfl, iteF ?_⟩
      refine ⟨_, rfl, _, _, _, _, false, rfl, .ty _, ty, kit_ty (by decide +kernel), _, rfl, iteF ?_⟩
      refine ⟨_, rfl, _, _, _, _, true, rfl, .ty _, ty, kit_ty (by decide +kernel), _, rfl, _, _, _, _, true, rfl, .ty _, tx, kit_ty (by decide +kernel), rfl, _, rfl, iteNS rfl ?_⟩
      refine ⟨_, rfl, _, _, _, _, false, rfl, .ty _, ty, kit_ty (by decide +kernel), _, rfl, _, _, _, _, false, rfl, .ty _, tx, kit_ty (by decide +kernel), rfl, _, rfl, iteNS rfl ?_⟩
      clear sx0 sy0 ty tx
    case' tuple ds =>
      have ty : TyX K H y (.type "tuple") := dp_ty hy
      have tx : TyX K H x (.type "tuple") := dp_ty hx
      cases hx
      cases hy
      rename_i a xs sx0 dx b ys sy0 dy
      have sx : SqL K H a xs ∨ SqT K H a xs := .inr sx0
      have sy : SqL K H b ys ∨ SqT K H b ys := .inr sy0
      refine ite2 (fun c => absurd (of_decide_eq_true c) (by intro z; cases z)) (fun _ => ?_)
      refine ⟨_, rfl, _, _, _, _, false, rfl, .ty _, ty, kit_ty (by decide +kernel), _, rfl, iteF ?_⟩
      refine ⟨_, rfl, _, _, _, _, false, rfl, .ty _, ty, kit_ty (by decide +kernel), _, rfl, iteF ?_⟩
      refine ⟨_, rfl, _, _, _, _, false, rfl, .ty _, ty, kit_ty (by decide +kernel), _, rfl, iteF ?_⟩
      refine ⟨_, rfl, _, _, _, _, false, rfl, .ty _, ty, kit_ty (by decide +kernel), _, rfl, _, _, _, _, false, rfl, .ty _, tx, kit_ty (by decide +kernel), rfl, _, rfl, iteNS rfl ?_⟩
      refine ⟨_, rfl, _, _, _, _, true, rfl, .ty _, ty, kit_ty (by decide +kernel), _, rfl, _, _, _, _, true, rfl, .ty _, tx, kit_ty (by decide +kernel), rfl, _, rfl, iteNS rfl ?_⟩
      clear sx0 sy0 ty tx
    all_goals
      simp only [slimD, Bool.and_eq_true, decide_eq_true_eq] at hw
      have hm2 : PyData.depthAll ds < m := by
        have z := hm
        unfold PyData.depth at z
        omega
      have lx := VB.DpAll.len dx
      have ly := VB.DpAll.len dy
      refine ⟨_, rfl, a, xs, rfl, sx, _, rfl, b, ys, rfl, sy, rfl, _, rfl, iteNS (by rw [lx, ly]) ?_⟩
      have big : ys.length ≤ 100000 := by omega
      refine ⟨_, rfl, b, ys, rfl, sy, _, rfl, by omega, by omega, fun D nD => lc_range (lo := 0) (n := ((ys.length : Int)).toNat)
        (fun i H' => Same H H' ∧ H' D = some (.lst ((List.replicate i true).map V.bl))) ⟨same_upd nD _, upd_same⟩ ?_ ?_⟩
      · rintro i H' hi ⟨s0, hD⟩
        have hi2 : i < ds.length := by omega
        obtain ⟨xi, yi, hxi, hyi, px, py⟩ := like_seq dx dy hi2
        refine ⟨rfl, ?_⟩
        unfold tYes
        refine iteT ?_
        refine ⟨_, rfl, _, rfl, ixAny (sqAny s0 sx) hxi ⟨_, rfl, _, rfl, ixAny (sqAny s0 sy) hyi ?_⟩⟩
        refine ⟨xi, yi, ds[i], rfl, Dp.same s0 _ _ px, Dp.same s0 _ _ py, Nat.lt_of_le_of_lt (depth_mem (List.getElem_mem hi2)) hm2, slim_mem hw.2 (List.getElem_mem hi2), fun H4 s4 => ?_⟩
        refine ⟨_, s4 _ _ hD, ?_, sameIn (s0.trans s4) nD, ?_⟩
        · rw [List.length_map, List.length_replicate]
          have z := sizeLine_eq
          omega
        · rw [upd_same, List.replicate_succ', List.map_append] <;> rfl
      · rintro H' ⟨s0, hD⟩
        refine ⟨D, _, rfl, SqL.of hD, ?_⟩
        rw [all_true]
        exact q H' s0
end
end LW

set_option Elab.async false
set_option linter.all false
set_option maxRecDepth 100000
set_option maxHeartbeats 4000000
namespace LW
open PySem PySem.Spec PyProof.Rows L2 LamX NdefX VB VM VP
abbrev s_has_form : Stmt := top 16
theorem sc_has_form : FnScope ["word", "firsts", "signs", "sign"] ["word", "firsts", "signs"] (defScope s_has_form) := ⟨rfl, rfl, rfl, by decide +kernel, rfl, by decide +kernel, by decide +kernel⟩
theorem inV_strs (x : Str) : ∀ ss : List Str, inV (.str x) (ss.map V.str) = decide (x ∈ ss)
  | [] => by simp [inV]
  | y :: ss => by
    have ih := inV_strs x ss
    unfold inV at ih ⊢
    rw [List.map_cons, List.any_cons, ih]
    show ((y == x) || decide (x ∈ ss)) = _
    by_cases e : x = y
    · subst e; simp
    · have e2 : (y == x) = false := beq_eq_false_iff_ne.mpr (fun z => e z.symm)
      rw [e2]
      simp [e]
/-- the form of a name: its first sign, its signs, its length -/
def hasForm (f g : List Nat) : List Nat → Bool
  | [] => false
  | c :: r => decide ((c :: r).length ≤ 12) && (decide (c ∈ f) && (c :: r).all fun d => decide (d ∈ g))
theorem hasForm_cons (f g : List Nat) (c : Nat) (r : List Nat) : hasForm f g (c :: r) = (decide ((c :: r).length ≤ 12) && (decide (c ∈ f) && (c :: r).all fun d => decide (d ∈ g))) := rfl
section
variable {P : Program} {w : World} {K : PySem.W.Frag} {mg : Str → Option Value} {base : Heap}
def spForm : Sp := fun vs H Q _ => ∃ (x f g : Str), vs = [.str x, .str f, .str g] ∧ x.length ≤ 1000 ∧
  ∀ H', Same H H' → Q (.bl (hasForm f.cps.toList g.cps.toList x.cps.toList)) H'
theorem len_codes (x : Str) : x.length = x.cps.toList.length := by
  rw [Array.length_toList] <;> rfl
theorem c_form (D : Df K mg "has_form" s_has_form) (z_len : mg "len" = none) (z_all : mg "all" = none) (g_LONGEST_NAME : ∃ u, mg "LONGEST_NAME" = some u ∧ RelV (.int 12) u) :
    C8.Cal P w K mg base 1 "has_form" spForm [] := by
  refine D.cal sc_has_form (fun _ _ _ _ _ _ us hl => match us, hl with | [_, _, _], _ => rfl) (fun vs H Q E h => ?_) (fun f cdv A outer s H vs Q E hr h => ?_)
  · obtain ⟨x, f, g, rfl, _⟩ := h
    rfl
  obtain ⟨x, fs, gs, rfl, hx, q⟩ := h
  refine ⟨_, (pss_cons (ps_if (pt_not (pt_chain op_le op_le pe_int (pe_callB call_len_str (by rfl) z_len PySem.boot_len (pa_cons (pv 0) pa_nil)) (C8.pe_gc rfl g_LONGEST_NAME)))
      (pss_one (ps_ret pe_bl))
      pss_nil)
    (pss_one (ps_ret (pe_and (pe_cmpR op_in_sign (pe_ix ix_str (pv 0) pe_int (fun _ _ => rfl)) (pv 1) rfl) (pe_one (pe_callB (VK.allL (K := K) rfl rfl) (by rfl) z_all (by decide +kernel) (pa_cons (pe_lc (own := [("sign", 3)]) (tt := tYes) rfl sc_has_form.nd (pi_str (pv 0)) (blkOk_by (N := ["word", "firsts", "signs", "sign"]) (sc := defScope s_has_form) (by decide +kernel)) (fun _ _ _ _ _ => (pg_name (i := 3) sc_has_form.nd rfl (Or.inl rfl) (hf := Or.inr rfl))) (fun _ _ _ _ _ => pts_nil) (fun _ _ _ _ _ => (pe_cmpR op_in_sign (pv 3) (pv 2) rfl))) pa_nil))))))), ?_⟩
  have zl := sizeLine_eq
  have el := len_codes x
  refine ⟨_, rfl, _, rfl, by omega, _, _, rfl, rfl, _, rfl, ?_⟩
  refine ite2 (fun c1 => ?_) (fun c1 => ?_)
  · have c1' : (1 : Int) ≤ (x.length : Int) := of_decide_eq_true c1
    refine ⟨_, _, rfl, rfl, _, rfl, ?_⟩
    by_cases c2 : ((x.length : Nat) : Int) ≤ 12
    · rw [decide_eq_true c2]
      refine iteF ?_
      -- the codes
      obtain ⟨c, r, er⟩ : ∃ c r, x.cps.toList = c :: r := by
        cases e : x.cps.toList with
        | nil => rw [e] at el; exact absurd c1' (by rw [el]; decide)
        | cons c r => exact ⟨c, r, rfl⟩
      have e0 : atI x.cps.toList 0 = some c := by rw [er]; exact atI_nat (xs := c :: r) (j := 0) rfl
      refine ⟨_, rfl, _, _, c, rfl, rfl, by omega, e0, _, rfl, _, _, rfl, rfl, _, rfl, ?_⟩
      have e12 : decide ((c :: r).length ≤ 12) = true := decide_eq_true (by rw [← er, ← el]; omega)
      refine ite2 (fun c3 => ?_) (fun c3 => ?_)
      · refine ⟨_, rfl, _, rfl, fun D1 nD => ?_⟩
        have sz : x.cps.size = (c :: r).length := by rw [← Array.length_toList, er]
        refine lc_it walk_str (fun i H' => Same H H' ∧ H' D1 = some (.lst ((((c :: r).take i).map fun d => decide (d ∈ gs.cps.toList)).map V.bl))) ⟨same_upd nD _, upd_same⟩ (fun _ _ _ _ => trivial) ?_ ?_
        · rintro i y H1 H' hi ⟨s1, hD⟩ ⟨rfl, d, hd, rfl⟩
          have hd2 : (c :: r)[i]? = some d := by rw [← er, Array.getElem?_toList]; exact hd
          refine ⟨rfl, ?_⟩
          unfold tYes
          refine iteT ?_
          refine ⟨_, rfl, _, rfl, d, _, rfl, rfl, ?_⟩
          refine ⟨_, hD, ?_, sameIn s1 nD, ?_⟩
          · have ell : (c :: r).length ≤ 1000 := by rw [← er, ← el]; exact hx
            rw [List.length_map, List.length_map, List.length_take]
            omega
          · rw [upd_same, List.take_add_one, hd2, List.map_append, List.map_append] <;> rfl
        · rintro H' ⟨s1, hD⟩
          rw [sz, List.take_length] at hD
          refine ⟨D1, _, rfl, SqL.of hD, ?_⟩
          have z := q H' s1
          rw [er] at z
          have e : hasForm fs.cps.toList gs.cps.toList (c :: r) = ((c :: r).map fun d => decide (d ∈ gs.cps.toList)).all id := by
            rw [hasForm_cons]
            rw [e12, c3, List.all_map] <;> rfl
          rw [e] at z
          exact z
      · have z := q H (Same.refl H)
        rw [er] at z
        have e : hasForm fs.cps.toList gs.cps.toList (c :: r) = false := by
          rw [hasForm_cons]
          rw [e12, Bool.eq_false_iff.mpr c3] <;> rfl
        rw [e] at z
        exact z
    · rw [decide_eq_false c2]
      refine iteT ?_
      have z := q H (Same.refl H)
      have e : hasForm fs.cps.toList gs.cps.toList x.cps.toList = false := by
        cases e : x.cps.toList with
        | nil => rfl
        | cons c r =>
          rw [hasForm_cons]
          rw [decide_eq_false (show ¬ (c :: r).length ≤ 12 by rw [← e, ← el]; omega)] <;> rfl
      rw [e] at z
      exact z
  · have c1' : ¬ (1 : Int) ≤ (x.length : Int) := fun z => c1 (decide_eq_true z)
    refine ⟨_, rfl, iteT ?_⟩
    have z := q H (Same.refl H)
    have e : hasForm fs.cps.toList gs.cps.toList x.cps.toList = false := by
      cases e : x.cps.toList with
      | nil => rfl
      | cons c r => rw [e] at el; rw [List.length_cons] at el; omega
    rw [e] at z
    exact z
abbrev LOW : Str := "abcdefghijklmnopqrstuvwxyz"
abbrev DIG : Str := "0123456789"
abbrev noEv : List Str := ["stop", "skip", "tau", "tick", "true", "loops"]
def isEvent (x : Str) : Bool := hasForm LOW.cps.toList (LOW ++ DIG).cps.toList x.cps.toList && !decide (x ∈ noEv)
def spTest (t : Str → Bool) : Sp := fun vs H Q _ => ∃ (x : Str), vs = [.str x] ∧ x.length ≤ 1000 ∧ ∀ H', Same H H' → Q (.bl (t x)) H'
end
end LW

set_option Elab.async false
set_option linter.all false
set_option maxRecDepth 100000
set_option maxHeartbeats 4000000
namespace LW
open PySem PySem.Spec PyProof.Rows L2 LamX NdefX VB VM VP
abbrev s_is_event : Stmt := top 15
theorem sc_is_event : FnScope ["word"] ["word"] (defScope s_is_event) := ⟨rfl, rfl, rfl, by decide +kernel, rfl, by decide +kernel, by decide +kernel⟩
abbrev s_is_action : Stmt := top 19
theorem sc_is_action : FnScope ["word"] ["word"] (defScope s_is_action) := ⟨rfl, rfl, rfl, by decide +kernel, rfl, by decide +kernel, by decide +kernel⟩
section
variable {P : Program} {w : World} {K : PySem.W.Frag} {mg : Str → Option Value} {base : Heap}
theorem c_event {na : Addr} (D : Df K mg "is_event" s_is_event) (g_LOWER : ∃ u, mg "LOWER" = some u ∧ RelV (.str LOW) u) (g_DIGITS : ∃ u, mg "DIGITS" = some u ∧ RelV (.str DIG) u)
    (g_NO_EVENTS : ∃ u, mg "NO_EVENTS" = some u ∧ RelV (.ref na) u) (hNE : ∀ H, SqT K H na (noEv.map V.str)) (c_has_form : C8.Cal P w K mg base 1 "has_form" spForm []) :
    C8.Cal P w K mg base 2 "is_event" (spTest isEvent) [] := by
  refine D.cal sc_is_event (fun _ _ _ _ _ _ us hl => match us, hl with | [_], _ => rfl) (fun vs H Q E h => ?_) (fun f cdv A outer s H vs Q E hr h => ?_)
  · obtain ⟨x, rfl, _⟩ := h
    rfl
  obtain ⟨x, rfl, hx, q⟩ := h
  refine ⟨_, (pss_one (ps_ret (pe_and (C8.pe_c c_has_form hr (by first | decide | omega) rfl (pa_cons (pv 0) (pa_cons (C8.pe_gc rfl g_LOWER) (pa_cons (pe_op op_add_str (C8.pe_gc rfl g_LOWER) (C8.pe_gc rfl g_DIGITS)) pa_nil)))) (pe_one (pe_cmpR (VK.notInQ (K := K) rfl) (pv 0) (C8.pe_gc rfl g_NO_EVENTS) rfl))))), ?_⟩
  refine ⟨_, rfl, _, _, rfl, rfl, (by decide), x, LOW, LOW ++ DIG, rfl, hx, fun H1 s1 => ?_⟩
  refine ⟨_, rfl, ?_⟩
  have z := q H1 s1
  unfold isEvent at z
  refine ite2 (fun c => ?_) (fun c => ?_)
  · refine ⟨_, rfl, na, _, rfl, .inr (hNE H1), rfl, rfl, ?_⟩
    rw [c, Bool.true_and] at z
    show Q (.bl (!inV (.str x) (noEv.map V.str))) H1
    rw [inV_strs]
    exact z
  · rw [Bool.eq_false_iff.mpr c, Bool.false_and] at z
    exact z

def isAct (x : Str) : Bool := isEvent x || decide (x ∈ [("tau" : Str), "tick"])
theorem c_action (D : Df K mg "is_action" s_is_action) (c_is_event : C8.Cal P w K mg base 2 "is_event" (spTest isEvent) []) : C8.Cal P w K mg base 3 "is_action" (spTest isAct) [] := by
  refine D.cal sc_is_action (fun _ _ _ _ _ _ us hl => match us, hl with | [_], _ => rfl) (fun vs H Q E h => ?_) (fun f cdv A outer s H vs Q E hr h => ?_)
  · obtain ⟨x, rfl, _⟩ := h
    rfl
  obtain ⟨x, rfl, hx, q⟩ := h
  refine ⟨_, (pss_one (ps_ret (pe_or (C8.pe_c c_is_event hr (by first | decide | omega) rfl (pa_cons (pv 0) pa_nil)) (pe_one (pe_cmpR (VK.inQ (K := K) rfl) (pv 0) (pe_tup (pa_cons pe_str (pa_cons pe_str pa_nil))) rfl))))), ?_⟩
  have zl := sizeLine_eq
  refine ⟨_, rfl, x, rfl, hx, fun H1 s1 => ⟨_, rfl, ?_⟩⟩
  refine ite2 (fun c => ?_) (fun c => ?_)
  · have z := q H1 s1
    unfold isAct at z
    rw [c, Bool.true_or] at z
    exact z
  · refine ⟨_, rfl, (by show 2 ≤ sizeLine; omega), fun t nt => ⟨t, _, rfl, .inr (.inl (.inl upd_same)), rfl, rfl, ?_⟩⟩
    have z := q _ (s1.trans (same_upd nt (.tup [V.str "tau", V.str "tick"])))
    unfold isAct at z
    rw [Bool.eq_false_iff.mpr c, Bool.false_or] at z
    show Q (.bl (inV (.str x) ([("tau" : Str), "tick"].map V.str))) _
    rw [inV_strs]
    exact z
theorem acts_act : ∀ x ∈ acts, isAct x = true := by decide +kernel
end
end LW

set_option Elab.async false
set_option linter.all false
set_option maxRecDepth 100000
set_option maxHeartbeats 4000000
namespace VE
open PySem PySem.Spec PyProof.Rows L2 LamX NdefX VB
/-! defs that may raise -/
/-- an own class of exceptions under its name -/
structure Own (K : PySem.W.Frag) (mg : Str → Option Value) (x : Str) (C : Addr) : Prop where
  at_ : mg x = some (.ref C)
  xP : PySem.W.excIn K C He.veBase "ValueError.__new__" = true
  kP : PySem.W.keepIn K (.ref C) = true
  bP : PySem.W.subIn K (.ref C) (.type "BaseException") = some true
  tP : PySem.W.typeIn K (.ref C) = some (.type "type")
  te : PySem.W.exmOne K (.ref C) (.ref C) = some true
structure CalX (P : Program) (w : World) (K : PySem.W.Frag) (mg : Str → Option Value) (base : Heap) (k : Nat) (x : Str) (sp : Sp) : Prop where
  ex : ∃ (f : Addr) (fd : FuncData) (ps : List Str), FnOk P w K mg base (L2.CX P w) k f fd ps sp ∧ mg x = some (.ref f) ∧ PySem.W.keepIn K (.ref f) = true ∧ Binds K fd ps []
structure MetX (P : Program) (w : World) (K : PySem.W.Frag) (mg : Str → Option Value) (base : Heap) (k : Nat) (C : Addr) (m : Str) (sp : Sp) : Prop where
  ex : ∃ (f : Addr) (fd : FuncData) (ps : List Str), Cls K C ∧ Meth K C m f ∧ FnOk P w K mg base (L2.CX P w) k f fd ps sp ∧ Binds K fd ps []
structure MakX (P : Program) (w : World) (K : PySem.W.Frag) (mg : Str → Option Value) (base : Heap) (k : Nat) (x : Str) (C : Addr) (sp : Sp) : Prop where
  ex : ∃ (f : Addr) (fd : FuncData) (ps : List Str), Mk K C f ∧ FnOk P w K mg base (L2.CX P w) k f fd ps sp ∧ mg x = some (.ref C) ∧ Binds K fd ps []
section
variable {P : Program} {w : World} {K : PySem.W.Frag} {mg : Str → Option Value} {base : Heap}
theorem calX {x : Str} {st : Stmt} {N ps : List Str} {k : Nat} {sp : Sp} (D : Df K mg x st) (S : FnScope N ps (defScope st)) (hb : BindOk x st ps)
    (len : ∀ vs H Q E, sp vs H Q E → vs.length = ps.length)
    (hbody : ∀ (f : Addr) (cdv : Value) (A : Around) (outer : List Env) (s : Shared) (H : Hp) (vs : List V) (Q : VK) (E : XK),
      Room k (A.deeper (envOfC x (defScope st) s.heap.objs.size f cdv)) → sp vs H Q E →
      ∃ t, PSs (cxOf (L2.CX P w) P w K mg base N x (defScope st) f cdv A outer s H E) (defBody st) t ∧ t { nx := fun _ H' => Q .non H', rt := Q } (start N vs) H) :
    CalX P w K mg base (k + 1) x sp := by
  obtain ⟨f, fd, F, hm⟩ := D
  exact ⟨f, fd, ps, F.ok S len (fun cdv A outer s H vs Q E hr h => hbody f cdv A outer s H vs Q E hr h), hm, F.kp, F.bindsN hb⟩
end
section
variable {X : Cx} {k j : Nat} {C : Addr} {x m : Str} {sp : Sp} {W : WX} {p pos apos : Pos} {e o : Expr} {es : List Expr} {ta : TE} {t : TA}
theorem pe_cX (c : CalX X.prog X.w X.K X.mg X.base k x sp) (hr : Room j X.A) (hk : k ≤ j) (hg : Gl X x) (tk : L2.Takes X W) (ha : PA X (e :: es) t)
    (hdb : (x == ("__debug__" : Str)) = false := by decide) (he : starEach (e :: es) X.env = (false, eval e X.env) :: starEach es X.env := by rfl) (hpl : (backTo pos (starEach es X.env)).any (·.1) = false := by rfl) :
    PE X (.Call (.Name x p) (e :: es) [] pos) (tCallS sp (WE W) t) := by
  obtain ⟨f, fd, ps, F, hm, kp, b⟩ := c.ex
  exact pe_callS F (hr.mono hk) hg hm kp b (fun σ => passAt tk σ) ha hdb he hpl
/-- o.m(e, ..), m may raise -/
def tMethS (C : Addr) (m : Str) (sp : Sp) (E : L2.St → XK) (ta : TE) (t : TA) : TE := fun σ H Q => ta σ H fun x H1 => ∃ a dx fs, x = .ref a ∧ H1 a = some (.ins C dx fs) ∧ fs.lookup m = none ∧
  t σ H1 fun vs H2 => sp (x :: vs) H2 Q (E σ)
theorem pe_mX {pl : Sem Bool} (c : MetX X.prog X.w X.K X.mg X.base k C m sp) (hr : Room j X.A) (hk : k ≤ j) (tk : L2.Takes X W) (he : PE X o ta) (ha : PA X (e :: es) t)
    (hst : starEach (e :: es) X.env = (false, eval e X.env) :: starEach es X.env := by rfl) (hpl : (backTo pos (starEach es X.env)).any (·.1) = false := by rfl)
    (ht : eval (.Call (.Attribute o m apos) (e :: es) [] pos) X.env = (do let ov ← eval o X.env; standAt apos.atName; let (f, first) ← holding [ov] (getMethod ov m pl); callWith pos f first (backTo pos (starEach (e :: es) X.env)) (backToKw pos (keywordEach [] X.env))) := by rfl) :
    PE X (.Call (.Attribute o m apos) (e :: es) [] pos) (tMethS C m sp (WE W) ta t) := by
  obtain ⟨f, fd, ps, hc, hm, F, b⟩ := c.ex
  refine ⟨fun pins s σ H Q I h => ?_⟩
  refine PySem.W.methodCall_KW (pl := pl) (thn (he.run pins s σ H _ I h) fun u s1 ⟨y, H1, I1, ry, a, dx, fs, ey, ea, l, q⟩ => ?_) ht
  subst ey
  obtain rfl : u = Value.ref a := ry
  refine getmeth_ok I1 ea hc hm l (PySem.W.callWith_K (first := [.ref a]) (h₀ := X.base) I.ok.mod.kin hm.kp (thn (ha.run pos pins s1 σ H1 _ I1 q) fun us s2 ⟨vs, H2, I2, r, q2⟩ => ⟨I2.kIn, ?_⟩) hst hpl)
  exact run_fnS (us := .ref a :: us) (vs := .ref a :: vs) F (hr.mono hk) b (passAt tk σ) I2 (.cons rfl r) q2
/-- C(e, ..), its __init__ may raise -/
def tMakeS (C : Addr) (sp : Sp) (E : L2.St → XK) (t : TA) : TE := fun σ H Q => t σ H fun vs H1 => ∀ x dx, H1 x = none → H1 dx = none → dx ≠ x →
  sp (.ref x :: vs) (upd (upd H1 dx (.own x)) x (.ins C dx [])) (fun v H2 => v = .non ∧ Q (.ref x) H2) (E σ)
theorem pe_kX (c : MakX X.prog X.w X.K X.mg X.base k x C sp) (hr : Room j X.A) (hk : k + 1 ≤ j) (hg : Gl X x) (tk : L2.Takes X W) (ha : PA X (e :: es) t)
    (hdb : (x == ("__debug__" : Str)) = false := by decide) (he : starEach (e :: es) X.env = (false, eval e X.env) :: starEach es X.env := by rfl) (hpl : (backTo pos (starEach es X.env)).any (·.1) = false := by rfl) :
    PE X (.Call (.Name x p) (e :: es) [] pos) (tMakeS C sp (WE W) t) := by
  obtain ⟨f, fd, ps, M, F, hm, b⟩ := c.ex
  refine ⟨fun pins s σ H Q I h => ?_⟩
  refine wpAny_Call_Name_kw (ld_glob I hg hm ?_ hdb)
  refine PySem.W.callWith_K (h₀ := X.base) I.ok.mod.kin M.kp (thn (ha.run pos pins s σ H _ I h) fun us s1 ⟨vs, H1, I1, r, q⟩ => ⟨I1.kIn, ?_⟩) he hpl
  have hq := q (s1.heap.objs.size + 1) s1.heap.objs.size (I1.hok.fresh (Nat.le_succ _)) (I1.hok.fresh (Nat.le_refl _)) (Nat.ne_of_lt (Nat.lt_succ_self _))
  have I2 := Inv.made (C := C) I1
  have r2 : Vals (V.ref (s1.heap.objs.size + 1) :: vs) (Value.ref (s1.heap.objs.size + 1) :: us) := .cons rfl r
  have hl : (Value.ref (s1.heap.objs.size + 1) :: us).length = ps.length := by
    have z := r2.length
    rw [F.len _ _ _ _ hq] at z
    exact z.symm
  have hb2 := b _ (Value.ref (s1.heap.objs.size + 1) :: us) I2.kIn (by rw [List.append_nil]; exact hl)
  rw [List.append_nil] at hb2
  refine wpAny_call (make_map (f := f) I1.kIn M.makes M.init (beq_iff_eq.mp M.fn) (codeAny_mono (F.run _ X.stack _ _ ⟨Value.ref (s1.heap.objs.size + 1) :: us, []⟩ (Value.ref (s1.heap.objs.size + 1) :: us) _ _ (WE W σ) ((hr.mono hk).make C us [])
    (I2.env0.make C us []) hb2 r2 hq) fun res s' hq' => ?_))
  cases res with
  | error er => exact passAt tk σ pins _ _ er s' I2 hq'
  | ok fl =>
    cases fl with
    | next => exact hq'.elim
    | brk => exact hq'.elim
    | cont => exact hq'.elim
    | ret u =>
      obtain ⟨v, H', I3, rv, ev, q3⟩ := I2.after hq'
      subst ev
      exact ⟨rv, ⟨V.ref (s1.heap.objs.size + 1), H', I3, rfl, q3⟩⟩
end
end VE

set_option Elab.async false
set_option linter.all false
set_option maxRecDepth 100000
set_option maxHeartbeats 4000000
namespace LW
open PySem PySem.Spec PyProof.Rows L2 LamX NdefX VB VM VP VE
abbrev s_check_edges : Stmt := top 21
theorem sc_check_edges : FnScope ["count", "edges", "source", "_", "target", "action"] ["count", "edges"] (defScope s_check_edges) := ⟨rfl, rfl, rfl, by decide +kernel, rfl, by decide +kernel, by decide +kernel⟩
section
variable {P : Program} {w : World} {K : PySem.W.Frag} {mg : Str → Option Value} {base : Heap}
/-- an edge that a system of n states may have -/
def okB (n : Int) (e : Ed) : Bool := (decide (0 ≤ e.1) && decide (e.1 < n)) && (decide (0 ≤ e.2.2) && decide (e.2.2 < n)) && isAct e.2.1
def sysOk (n : Int) (L : List Ed) : Bool := decide (1 ≤ n) && decide (n ≤ 20000) && L.all (okB n)
theorem sysOk_bad {n : Int} {L : List Ed} {e : Ed} (h : e ∈ L) (b : okB n e = false) : sysOk n L = false := by
  refine Bool.eq_false_iff.mpr fun z => ?_
  unfold sysOk at z
  have y := List.all_eq_true.mp (Bool.and_eq_true_iff.mp z).2 e h
  rw [b] at y
  cases y
theorem sysOk_num {n : Int} {L : List Ed} (h : ¬ (1 ≤ n ∧ n ≤ 20000)) : sysOk n L = false := by
  refine Bool.eq_false_iff.mpr fun z => ?_
  unfold sysOk at z
  have y := Bool.and_eq_true_iff.mp (Bool.and_eq_true_iff.mp z).1
  exact h ⟨of_decide_eq_true y.1, of_decide_eq_true y.2⟩
theorem okB_range {n : Int} {e : Ed} (h : ¬ (0 ≤ e.1 ∧ e.1 < n ∧ 0 ≤ e.2.2 ∧ e.2.2 < n)) : okB n e = false := by
  refine Bool.eq_false_iff.mpr fun z => h ?_
  unfold okB at z
  simp only [Bool.and_eq_true, decide_eq_true_eq] at z
  exact ⟨z.1.1.1, z.1.1.2, z.1.2.1, z.1.2.2⟩
theorem okB_act {n : Int} {e : Ed} (h : isAct e.2.1 = false) : okB n e = false := by
  unfold okB
  rw [h, Bool.and_false]
theorem okB_all {n : Int} {e : Ed} (h : 0 ≤ e.1 ∧ e.1 < n ∧ 0 ≤ e.2.2 ∧ e.2.2 < n) (a : isAct e.2.1 = true) : okB n e = true := by
  unfold okB
  rw [a, decide_eq_true h.1, decide_eq_true h.2.1, decide_eq_true h.2.2.1, decide_eq_true h.2.2.2] <;> rfl
def spCheckX (K : PySem.W.Frag) (CS : Addr) : Sp := fun vs H Q E => ∃ (n : Int) (l : Addr) (L : List (Addr × Ed)), vs = [.int n, .ref l] ∧ SqL K H l (refs L) ∧ Eds K H L ∧ L.length ≤ 1000 ∧ (∀ p ∈ L, p.2.2.1.length ≤ 1000) ∧
  (sysOk n (L.map (·.2)) = true → ∀ H', Same H H' → Q .non H') ∧ (sysOk n (L.map (·.2)) = false → ∀ H', Same H H' → E (.ref CS) none H')
theorem c_checkX {CS : Addr} (D : Df K mg "check_edges" s_check_edges) (z_sorted : mg "sorted" = none) (z_set : mg "set" = none) (g_MOST_STATES : ∃ u, mg "MOST_STATES" = some u ∧ RelV (.int 20000) u) (e_BadSystem : VE.Own K mg "BadSystem" CS)
    (c_is_action : C8.Cal P w K mg base 3 "is_action" (spTest isAct) []) : VE.CalX P w K mg base 4 "check_edges" (spCheckX K CS) := by
  refine VE.calX D sc_check_edges (fun _ _ _ _ _ _ us hl => match us, hl with | [_, _], _ => rfl) (fun vs H Q E h => ?_) (fun f cdv A outer s H vs Q E hr h => ?_)
  · obtain ⟨n, l, L, rfl, _⟩ := h
    rfl
  obtain ⟨n, l, L, rfl, hS, hE, len, lens, q, qe⟩ := h
  refine ⟨_, (pss_cons (ps_if (pt_not (pt_chain op_le op_le pe_int (pv 0) (C8.pe_gc rfl g_MOST_STATES)))
      (pss_one (ps_raise rfl (takes_of rfl rfl rfl rfl) (pmk_own PySem.F.excBase_ValueError e_BadSystem.xP e_BadSystem.at_ e_BadSystem.kP (raises_own e_BadSystem.bP e_BadSystem.tP) rfl)))
      pss_nil)
    (pss_cons (ps_for (passes_of rfl) rfl (pi_list (pv 1)) (pg_tup rfl (pgs_cons (pg_name (i := 2) sc_check_edges.nd rfl (Or.inl rfl)) (pgs_cons (pg_name (i := 3) sc_check_edges.nd rfl (Or.inl rfl)) (pgs_cons (pg_name (i := 4) sc_check_edges.nd rfl (Or.inl rfl)) pgs_nil))))
      (pss_one (ps_if (pt_not (PW.pt (pw_and (pt_chain op_le op_lt pe_int (pv 2) (pv 0)) (pw_and1 (pt_chain op_le op_lt pe_int (pv 4) (pv 0))))))
        (pss_one (ps_raise rfl (takes_of rfl rfl rfl rfl) (pmk_own PySem.F.excBase_ValueError e_BadSystem.xP e_BadSystem.at_ e_BadSystem.kP (raises_own e_BadSystem.bP e_BadSystem.tP) rfl)))
        pss_nil)))
    (pss_one (ps_for (passes_of rfl) rfl (pi_list (pe_callB (VK.sortedM (w := w) rfl rfl hr) (by rfl) z_sorted (by decide +kernel) (pa_cons (pe_callTy (VO.cr_setS (K := K) (w := w) rfl rfl rfl (VP.un3 hr)) (by rfl) z_set (by decide +kernel) (pa_cons (pe_lc (own := [("_", 3), ("action", 5)]) (g := gTup K 3 (gCons (gName 3) (gCons (gName 5) (gCons (gName 3) gNil)))) (tt := tYes) rfl sc_check_edges.nd (pi_list (pv 1)) (blkOk_by (N := ["count", "edges", "source", "_", "target", "action"]) (sc := defScope s_check_edges) (by decide +kernel)) (fun _ _ _ _ _ => (pg_tup rfl (pgs_cons (pg_name (i := 3) sc_check_edges.nd rfl (Or.inl rfl) (hf := Or.inr rfl)) (pgs_cons (pg_name (i := 5) sc_check_edges.nd rfl (Or.inl rfl) (hf := Or.inr rfl)) (pgs_cons (pg_name (i := 3) sc_check_edges.nd rfl (Or.inl rfl) (hf := Or.inr rfl)) pgs_nil))))) (fun _ _ _ _ _ => pts_nil) (fun _ _ _ _ _ => (pv 5))) pa_nil)) pa_nil))) (pg_name (i := 5) sc_check_edges.nd rfl (Or.inl rfl))
      (pss_one (ps_if (pt_not (pt_val (C8.pe_c c_is_action hr (by first | decide | omega) rfl (pa_cons (pv 5) pa_nil))))
        (pss_one (ps_raise rfl (takes_of rfl rfl rfl rfl) (pmk_own PySem.F.excBase_ValueError e_BadSystem.xP e_BadSystem.at_ e_BadSystem.kP (raises_own e_BadSystem.bP e_BadSystem.tP) rfl)))
        pss_nil)))))), ?_⟩
  have zl := sizeLine_eq
  refine ⟨_, rfl, _, _, rfl, rfl, _, rfl, ?_⟩
  by_cases c1 : 1 ≤ n
  case neg => exact iteFe (decide_eq_false c1) ⟨_, rfl, iteT (qe (sysOk_num fun z => c1 z.1) H (Same.refl H))⟩
  refine iteTe (decide_eq_true c1) ⟨_, _, rfl, rfl, _, rfl, ?_⟩
  by_cases c2 : n ≤ 20000
  case neg => exact iteTe (by rw [decide_eq_false c2] <;> rfl) (qe (sysOk_num fun z => c2 z.2) H (Same.refl H))
  refine iteNT c2 ?_
  refine ⟨_, rfl, l, rfl, ⟨_, hS⟩, for_list (K := K) (a := l) (xs := refs L)
    (fun i σ H' => H' = H ∧ (∀ (j : Nat) (p : Addr × Ed), j < i → L[j]? = some p → 0 ≤ p.2.1 ∧ p.2.1 < n ∧ 0 ≤ p.2.2.2 ∧ p.2.2.2 < n) ∧ ∃ (r2 r3 r4 : Option V), σ = [some (.int n), some (.ref l), r2, r3, r4, none])
    ⟨rfl, fun j p z => absurd z (Nat.not_lt_zero j), none, none, none, rfl⟩ (fun i σ H' _ z => by rw [z.1]; exact hS) ?_ ?_⟩
  · rintro i v σ H' hv ⟨rfl, inv, r2, r3, r4, rfl⟩
    obtain ⟨p, hp, rfl⟩ := refs_at hv
    have pin := List.mem_of_getElem? hp
    have bad : ¬ (0 ≤ p.2.1 ∧ p.2.1 < n ∧ 0 ≤ p.2.2.2 ∧ p.2.2.2 < n) → E (.ref CS) none H' := fun z => qe (sysOk_bad (List.mem_map_of_mem pin) (okB_range z)) H' (Same.refl H')
    refine ⟨p.1, _, rfl, hE p pin, rfl, .int p.2.1, _, rfl, .str p.2.2.1, _, rfl, .int p.2.2.2, _, rfl, rfl, ?_⟩
    refine ⟨_, rfl, _, _, rfl, rfl, _, rfl, ?_⟩
    by_cases o1 : 0 ≤ p.2.1
    case neg => exact iteFe (decide_eq_false o1) ⟨_, rfl, iteF (iteT (bad fun z => o1 z.1))⟩
    refine iteTe (decide_eq_true o1) ⟨_, rfl, _, _, rfl, rfl, _, rfl, ?_⟩
    by_cases o2 : p.2.1 < n
    case neg => exact iteFe (decide_eq_false o2) (iteT (bad fun z => o2 z.2.1))
    refine iteTe (decide_eq_true o2) ?_
    refine ⟨_, rfl, _, _, rfl, rfl, _, rfl, ?_⟩
    by_cases o3 : 0 ≤ p.2.2.2
    case neg => exact iteFe (decide_eq_false o3) ⟨_, rfl, iteT (bad fun z => o3 z.2.2.1)⟩
    refine iteTe (decide_eq_true o3) ⟨_, rfl, _, _, rfl, rfl, _, rfl, ?_⟩
    by_cases o4 : p.2.2.2 < n
    case neg => exact iteTe (by rw [decide_eq_false o4] <;> rfl) (bad fun z => o4 z.2.2.2)
    refine iteNT o4 ⟨rfl, fun j p' hj hp' => ?_, _, _, _, rfl⟩
    rcases Nat.lt_succ_iff_lt_or_eq.mp hj with z | z
    · exact inv j p' z hp'
    · rw [z, hp] at hp'
      cases hp'
      exact ⟨o1, o2, o3, o4⟩
  · rintro σ H' ⟨rfl, inv, r2, r3, r4, rfl⟩
    rw [refs_len] at inv
    have rng : ∀ p ∈ L, 0 ≤ p.2.1 ∧ p.2.1 < n ∧ 0 ≤ p.2.2.2 ∧ p.2.2.2 < n := fun p hp => by
      obtain ⟨j, hj, e⟩ := List.getElem_of_mem hp
      exact inv j p hj (by rw [List.getElem?_eq_getElem hj, e])
    refine ⟨_, rfl, l, rfl, ⟨_, hS⟩, fun D1 nD => ?_⟩
    refine lc_list (K := K) (a := l) (xs := refs L) (fun i H2 => Same H' H2 ∧ H2 D1 = some (.lst (((L.map fun p => p.2.2.1).take i).map V.str))) ⟨same_upd nD _, upd_same⟩ (fun i H2 _ z => z.1.seq hS) ?_ ?_
    · rintro i v H2 hv ⟨s2, hD⟩
      obtain ⟨p, hp, rfl⟩ := refs_at hv
      have pin := List.mem_of_getElem? hp
      have hE2 := hE.kp (Kp.of s2)
      refine ⟨p.1, _, rfl, hE2 p pin, rfl, .int p.2.1, _, rfl, .str p.2.2.1, _, rfl, .int p.2.2.2, _, rfl, rfl, rfl, ?_⟩
      unfold tYes
      refine iteT ⟨_, rfl, _, hD, ?_, sameIn s2 nD, ?_⟩
      · rw [List.length_map, List.length_take, List.length_map]; omega
      · rw [upd_same, List.take_succ, List.getElem?_map, hp, List.map_append] <;> rfl
    · rintro H2 ⟨s2, hD⟩
      rw [refs_len, List.take_of_length_le (by rw [List.length_map]; exact Nat.le_refl _)] at hD
      refine ⟨D1, _, rfl, SqL.of hD, (by rw [List.length_map]; show L.length + 1 < 4096; omega), fun a S m na mem lm => ?_⟩
      have s3 := same_upd na (VS.SetMO w a S m)
      refine ⟨a, S, m, rfl, upd_same, fun k hk => ?_, fun ss b nd ms ls nb => ?_⟩
      · obtain ⟨x, _, e⟩ := (mem k).1 hk
        exact ⟨x, e⟩
      have s4 := same_upd nb (.lst ((ss.mergeSort VS.leS).map V.str))
      refine ⟨b, rfl, ⟨_, SqL.of upd_same⟩, for_list (K := K) (a := b) (xs := (ss.mergeSort VS.leS).map V.str)
        (fun i σ H3 => Same H' H3 ∧ H3 b = some (.lst ((ss.mergeSort VS.leS).map V.str)) ∧ (∀ (j : Nat) (x : Str), j < i → (ss.mergeSort VS.leS)[j]? = some x → isAct x = true) ∧ ∃ (r5 : Option V), σ = [some (.int n), some (.ref l), r2, r3, r4, r5])
        ⟨(s2.trans s3).trans s4, upd_same, fun j x z => absurd z (Nat.not_lt_zero j), none, rfl⟩ (fun i σ H3 _ z => SqL.of z.2.1) ?_ ?_⟩
      · rintro i v σ H3 hv ⟨s5, hb, inv5, r5, rfl⟩
        rw [List.getElem?_map] at hv
        obtain ⟨x, hx, rfl⟩ := Option.map_eq_some_iff.mp hv
        have xin : x ∈ ss := List.mem_mergeSort.mp (List.mem_of_getElem? hx)
        obtain ⟨y, hy, e⟩ := (mem _).1 ((ms x).1 xin)
        cases e
        obtain ⟨p, pin, rfl⟩ := List.mem_map.mp hy
        refine ⟨_, rfl, _, rfl, lens p pin, fun H4 s6 => ⟨isAct p.2.2.1, rfl, ?_⟩⟩
        show (if (!isAct p.2.2.1) = true then _ else _)
        cases ca : isAct p.2.2.1 with
        | true =>
          refine iteF ⟨s5.trans s6, s6 _ _ hb, fun j x hj hxj => ?_, _, rfl⟩
          rcases Nat.lt_succ_iff_lt_or_eq.mp hj with z | z
          · exact inv5 j x z hxj
          · rw [z, hx] at hxj
            cases hxj
            exact ca
        | false => exact iteT (qe (sysOk_bad (List.mem_map_of_mem pin) (okB_act ca)) H4 (s5.trans s6))
      · rintro σ H3 ⟨s5, _, inv5, r5, rfl⟩
        refine q ?_ H3 s5
        unfold sysOk
        rw [decide_eq_true c1, decide_eq_true c2]
        show (L.map (·.2)).all (okB n) = true
        refine List.all_eq_true.mpr fun e he => ?_
        obtain ⟨p, pin, rfl⟩ := List.mem_map.mp he
        refine okB_all (rng p pin) ?_
        have xin : p.2.2.1 ∈ ss.mergeSort VS.leS := List.mem_mergeSort.mpr ((ms _).2 ((mem _).2 ⟨p.2.2.1, List.mem_map.mpr ⟨p, pin, rfl⟩, rfl⟩))
        obtain ⟨j, hj, ej⟩ := List.getElem_of_mem xin
        refine inv5 j _ ?_ (by rw [List.getElem?_eq_getElem hj, ej])
        rw [List.length_map]
        exact hj
end
end LW

set_option Elab.async false
set_option linter.all false
set_option maxRecDepth 100000
set_option maxHeartbeats 4000000
namespace LW
open PySem PySem.Spec PyProof.Rows L2 LamX NdefX VB VM VP VE
abbrev s_System___init__ : Stmt := inClass (top 20) 0
theorem sc_System___init__ : FnScope ["self", "count", "edges", "_", "source", "action", "target"] ["self", "count", "edges"] (defScope s_System___init__) := ⟨rfl, rfl, rfl, by decide +kernel, rfl, by decide +kernel, by decide +kernel⟩
section
variable {P : Program} {w : World} {K : PySem.W.Frag} {mg : Str → Option Value} {base : Heap}
/-- the class as the top has made it -/
structure SysTxt (K : PySem.W.Frag) (C : Addr) : Prop where
  cl : Cls K C
  n0 : NoAttr K C "count"
  n1 : NoAttr K C "edges"
  n2 : NoAttr K C "_leaving"
  n3 : NoAttr K C "_targets"
abbrev fl1 (n : Int) : List (Str × V) := putF "count" (.int n) []
abbrev fl2 (n : Int) (te : Addr) : List (Str × V) := putF "edges" (.ref te) (fl1 n)
abbrev fl3 (n : Int) (te ll : Addr) : List (Str × V) := putF "_leaving" (.ref ll) (fl2 n te)
abbrev fl4 (n : Int) (te ll td : Addr) : List (Str × V) := putF "_targets" (.ref td) (fl3 n te ll)
theorem fl_len (n : Int) (te ll : Addr) : (fl1 n).length < 1000 ∧ (fl2 n te).length < 1000 ∧ (fl3 n te ll).length < 1000 := by
  have a : (fl1 n).length ≤ 1 := length_putF _ _ []
  have b : (fl2 n te).length ≤ (fl1 n).length + 1 := length_putF _ _ _
  have c : (fl3 n te ll).length ≤ (fl2 n te).length + 1 := length_putF _ _ _
  omega
theorem fl_count (n : Int) (te ll td : Addr) : (fl4 n te ll td).lookup ("count" : Str) = some (.int n) := by
  unfold fl4 fl3 fl2 fl1
  rw [lookup_putF, if_neg (by decide +kernel), lookup_putF, if_neg (by decide +kernel), lookup_putF, if_neg (by decide +kernel), lookup_putF, if_pos rfl]
theorem fl_edges (n : Int) (te ll td : Addr) : (fl4 n te ll td).lookup ("edges" : Str) = some (.ref te) := by
  unfold fl4 fl3 fl2
  rw [lookup_putF, if_neg (by decide +kernel), lookup_putF, if_neg (by decide +kernel), lookup_putF, if_pos rfl]
theorem fl_leav (n : Int) (te ll td : Addr) : (fl4 n te ll td).lookup ("_leaving" : Str) = some (.ref ll) := by
  unfold fl4 fl3
  rw [lookup_putF, if_neg (by decide +kernel), lookup_putF, if_pos rfl]
theorem fl_targ (n : Int) (te ll td : Addr) : (fl4 n te ll td).lookup ("_targets" : Str) = some (.ref td) := by
  unfold fl4
  rw [lookup_putF, if_pos rfl]
theorem fl_none (n : Int) (te ll td : Addr) {m : Str} (h0 : ¬ m = "count") (h1 : ¬ m = "edges") (h2 : ¬ m = "_leaving") (h3 : ¬ m = "_targets") : (fl4 n te ll td).lookup m = none := by
  unfold fl4 fl3 fl2 fl1
  rw [lookup_putF, if_neg h3, lookup_putF, if_neg h2, lookup_putF, if_neg h1, lookup_putF, if_neg h0] <;> rfl
/-- the states to which the edges with an action lead -/
def tg (E : List Ed) (s : Int) (x : Str) : List Int := (E.filter fun e => decide (e.1 = s ∧ e.2.1 = x)).map (·.2.2)
theorem tg_snoc (E : List Ed) (e : Ed) (s : Int) (x : Str) : tg (E ++ [e]) s x = if e.1 = s ∧ e.2.1 = x then tg E s x ++ [e.2.2] else tg E s x := by
  unfold tg
  rw [List.filter_append, List.map_append]
  by_cases h : e.1 = s ∧ e.2.1 = x
  · rw [if_pos h, List.filter_cons, if_pos (decide_eq_true h), List.filter_nil] <;> rfl
  · rw [if_neg h, List.filter_cons, if_neg (by rw [decide_eq_true_eq]; exact h), List.filter_nil, List.map_nil, List.append_nil]
abbrev kT (s : Int) (x : Str) : List Key := [.inl s, .inr x]
/-- the dict of targets; φ: what more is known of a list's address -/
structure Tab (H : Hp) (td : Addr) (E : List Ed) (kvs : List (List Key × V)) (φ : Addr → Prop) : Prop where
  at_ : H td = some (.dT kvs)
  some_ : ∀ k v, valV kvs k = some v → ∃ (b : Addr) (s : Int) (x : Str), k = kT s x ∧ v = .ref b ∧ H b = some (.lst ((tg E s x).map V.int)) ∧ tg E s x ≠ [] ∧ φ b
  none_ : ∀ s x, valV kvs (kT s x) = none → tg E s x = []
  inj : ∀ k k' v, valV kvs k = some v → valV kvs k' = some v → k = k'
theorem Tab.mono {H H' : Hp} {td : Addr} {E : List Ed} {kvs : List (List Key × V)} {φ ψ : Addr → Prop} (T : Tab H td E kvs φ) (hd : H' td = some (.dT kvs)) (hl : ∀ b xs, H b = some (.lst xs) → φ b → H' b = some (.lst xs) ∧ ψ b) : Tab H' td E kvs ψ :=
  ⟨hd, fun k v h => by
    obtain ⟨b, s, x, e1, e2, e3, e4, e5⟩ := T.some_ k v h
    obtain ⟨g1, g2⟩ := hl b _ e3 e5
    exact ⟨b, s, x, e1, e2, g1, e4, g2⟩, T.none_, T.inj⟩
/-- the parts of a System of n states and the edges E at p; φ: what more is known of its lists' addresses -/
structure SysIn (K : PySem.W.Frag) (φ : Addr → Prop) (C : Addr) (H : Hp) (p : Addr) (n : Int) (E : List Ed) (dx te ll td : Addr) (LE : List (Addr × Ed)) (rows : List Addr) (kvs : List (List Key × V)) : Prop where
  hp : H p = some (.ins C dx (fl4 n te ll td))
  ht : H te = some (.tup (refs LE))
  hE : Eds K H LE
  eE : LE.map (·.2) = E
  hl : H ll = some (.lst (rows.map V.ref))
  len : (rows.length : Int) = n
  row : ∀ (j : Nat) (a : Addr), rows[j]? = some a → φ a ∧ ∃ LP : List (Addr × Pr), H a = some (.lst (refs LP)) ∧ Pqs K H LP ∧ LP.map (·.2) = leav E ((j : Nat) : Int)
  tab : Tab H td E kvs φ
  fl : φ ll
structure SysAt (K : PySem.W.Frag) (φ : Addr → Prop) (C : Addr) (H : Hp) (p : Addr) (n : Int) (E : List Ed) : Prop where
  ex : ∃ (dx te ll td : Addr) (LE : List (Addr × Ed)) (rows : List Addr) (kvs : List (List Key × V)), SysIn K φ C H p n E dx te ll td LE rows kvs
  asc : E.Pairwise ltE
  ok : ∀ e ∈ E, okE n e
/-- the System stays where its objects stay -/
theorem SysAt.stay {φ ψ : Addr → Prop} {C p : Addr} {H H' : Hp} {n : Int} {E : List Ed} (S : SysAt K φ C H p n E) (k : Kp H H') (hi : ∀ b c d fs, H b = some (.ins c d fs) → H' b = H b) (hd : ∀ b kvs, H b = some (.dT kvs) → H' b = H b)
    (hl : ∀ b xs, H b = some (.lst xs) → φ b → H' b = H b ∧ ψ b) : SysAt K ψ C H' p n E := by
  obtain ⟨⟨dx, te, ll, td, LE, rows, kvs, S⟩, a, o⟩ := S
  refine ⟨⟨dx, te, ll, td, LE, rows, kvs, (hi _ _ _ _ S.hp).trans S.hp, k.tup _ _ S.ht, S.hE.kp k, S.eE, (hl _ _ S.hl S.fl).1.trans S.hl, S.len, fun j x hj => ?_, S.tab.mono ((hd _ _ S.tab.at_).trans S.tab.at_) fun b xs h z => ⟨(hl _ _ h z).1.trans h, (hl _ _ h z).2⟩, (hl _ _ S.hl S.fl).2⟩, a, o⟩
  obtain ⟨f, LP, g1, g2, g3⟩ := S.row j x hj
  exact ⟨(hl _ _ g1 f).2, LP, (hl _ _ g1 f).1.trans g1, g2.kp k, g3⟩
theorem SysAt.same {φ : Addr → Prop} {C p : Addr} {H H' : Hp} {n : Int} {E : List Ed} (S : SysAt K φ C H p n E) (s : Same H H') : SysAt K φ C H' p n E :=
  S.stay (Kp.of s) (fun b c d fs h => (s _ _ h).trans h.symm) (fun b kvs h => (s _ _ h).trans h.symm) fun b xs h z => ⟨(s _ _ h).trans h.symm, z⟩
theorem SysAt.weak {φ ψ : Addr → Prop} {C p : Addr} {H : Hp} {n : Int} {E : List Ed} (S : SysAt K φ C H p n E) (h : ∀ a, φ a → ψ a) : SysAt K ψ C H p n E :=
  S.stay (Kp.refl H) (fun _ _ _ _ _ => rfl) (fun _ _ _ => rfl) fun b xs _ z => ⟨rfl, h b z⟩
/-- a list that is none of the System's changes -/
theorem SysAt.updL {φ : Addr → Prop} {C p g : Addr} {H : Hp} {n : Int} {E : List Ed} {ys : List V} (S : SysAt K φ C H p n E) (hg : H g = some (.lst ys)) (ng : ¬ φ g) (zs : List V) : SysAt K φ C (upd H g (.lst zs)) p n E :=
  S.stay (Kp.updL hg _) (fun b c d fs h => by rw [upd_ne (ne_of h hg (fun z => nomatch z))]) (fun b kvs h => by rw [upd_ne (ne_of h hg (fun z => nomatch z))]) fun b xs h z => ⟨by rw [upd_ne (show b ≠ g from fun e => ng (by rw [← e]; exact z))], z⟩
theorem but_seq {p a C dx : Addr} {fs : List (Str × V)} {H H' : Hp} {xs : List V} (x : But p H H') (hp : H p = some (.ins C dx fs)) (h : SqL K H a xs) : SqL K H' a xs := by
  rcases h with (h | ⟨o, h⟩) | h
  · exact .inl (.inl (x a _ (ne_of h hp (fun z => nomatch z)) h))
  · exact .inl (.inr ⟨o, x a _ (ne_of h hp (fun z => nomatch z)) h⟩)
  · exact .inr h
theorem but_kp {p C dx : Addr} {fs : List (Str × V)} {H H' : Hp} (x : But p H H') (hp : H p = some (.ins C dx fs)) : Kp H H' :=
  ⟨fun b xs q => x b _ (ne_of q hp (fun z => nomatch z)) q, fun b o u q => x b _ (ne_of q hp (fun z => nomatch z)) q⟩
theorem but_new {p a : Addr} {H H' : Hp} {o : HO} (x : But p H H') (h : H' a = none) : But p H (upd H' a o) := fun b u n e => by
  have z := x b u n e
  rw [upd_ne (ne_of_none z h)]
  exact z
theorem but_own {p : Addr} {H H' : Hp} (x : But p H H') (o : HO) : But p H (upd H' p o) := x.trans (But.upd o)
/-- the pairs of a set of edges, sorted -/
def lePE (a b : Addr × Ed) : Bool := !decide (ltE b.2 a.2)
theorem sorted_eds {M : List (Addr × List Key)} {L : List (Addr × Ed)} (sub : ∀ q ∈ M, q ∈ L.map fun p => (p.1, edK p.2)) (all : ∀ p ∈ L, edK p.2 ∈ M.map (·.2)) (nd : (M.map (·.2)).Nodup) :
    ∃ LE : List (Addr × Ed), M.mergeSort VT.leK = LE.map (fun p => (p.1, edK p.2)) ∧ (∀ p ∈ LE, p ∈ L) ∧ (LE.map (·.2)).Pairwise ltE ∧ ∀ e, e ∈ LE.map (·.2) ↔ e ∈ L.map (·.2) := by
  have inj : ∀ a b : Ed, edK a = edK b → a = b := fun a b e => by
    unfold edK at e
    injection e with e1 e2
    injection e2 with e2 e3
    injection e3 with e3 _
    exact Prod.ext (Sum.inl.inj e1) (Prod.ext (Sum.inr.inj e2) (Sum.inl.inj e3))
  obtain ⟨L3, e3, s3⟩ : ∃ L3 : List (Addr × Ed), M = L3.map (fun p => (p.1, edK p.2)) ∧ ∀ p ∈ L3, p ∈ L := by
    clear all nd
    induction M with
    | nil => exact ⟨[], rfl, fun p z => absurd z List.not_mem_nil⟩
    | cons q M ih =>
      obtain ⟨L3, e, s⟩ := ih fun x hx => sub x (List.mem_cons_of_mem _ hx)
      obtain ⟨p, hp, rfl⟩ := List.mem_map.mp (sub q List.mem_cons_self)
      refine ⟨p :: L3, by rw [List.map_cons, e], fun x hx => ?_⟩
      rcases List.mem_cons.mp hx with rfl | z
      · exact hp
      · exact s x z
  have nd3 : (L3.map (·.2)).Nodup := by
    have z : ((L3.map (·.2)).map edK).Nodup := by
      rw [List.map_map]
      rw [e3, List.map_map] at nd
      exact nd
    exact List.Pairwise.of_map _ (fun a b hab e => hab (congrArg edK e)) z
  have leq : ∀ a b : Addr × Ed, lePE a b = VT.leK (a.1, edK a.2) (b.1, edK b.2) := fun a b => by
    show _ = !PySem.W.dataLt (edD b.2) (edD a.2)
    rw [dataLt_ed]
    rfl
  refine ⟨L3.mergeSort lePE, ?_, fun p hp => s3 p (List.mem_mergeSort.mp hp), ?_, fun e => ?_⟩
  · rw [e3]
    exact (List.map_mergeSort fun a _ b _ => leq a b).symm
  · have z : (L3.mergeSort lePE).map (·.2) = (L3.map (·.2)).mergeSort fun a b => !decide (ltE b a) := List.map_mergeSort fun a _ b _ => rfl
    rw [z]
    exact asc_of_sorted (fun a b h g => ltE_tri h g) (fun a b => rfl) (fun a b c => ltE_trans) ltE_irrefl nd3
  · rw [List.mem_map]
    constructor
    · rintro ⟨p, hp, rfl⟩
      exact List.mem_map_of_mem (s3 p (List.mem_mergeSort.mp hp))
    · intro h
      obtain ⟨p, hp, rfl⟩ := List.mem_map.mp h
      obtain ⟨q, hq, eq⟩ := List.mem_map.mp (all p hp)
      rw [e3] at hq
      obtain ⟨r, hr, rfl⟩ := List.mem_map.mp hq
      exact ⟨r, List.mem_mergeSort.mpr hr, inj _ _ eq⟩
/-- the loop of the constructor: i edges in the rows, j in the dict -/
structure Lp (K : PySem.W.Frag) (H : Hp) (p C dx te ll td : Addr) (n : Int) (LE : List (Addr × Ed)) (rows : List Addr) (i j : Nat) (H' : Hp) : Prop where
  but : But p H H'
  hp : H' p = some (.ins C dx (fl4 n te ll td))
  ht : H' te = some (.tup (refs LE))
  hE : Eds K H' LE
  hl : H' ll = some (.lst (rows.map V.ref))
  rw : ∀ (s : Nat) (a : Addr), rows[s]? = some a → ∃ LP : List (Addr × Pr), H' a = some (.lst (refs LP)) ∧ Pqs K H' LP ∧ LP.map (·.2) = leav ((LE.map (·.2)).take i) ((s : Nat) : Int) ∧ LP.length ≤ i
  hd : ∃ kvs : List (List Key × V), kvs.length ≤ j ∧ Tab H' td ((LE.map (·.2)).take j) kvs fun b => H b = none ∧ b ∉ rows ∧ b ≠ ll
section
variable {H H' H2 : Hp} {p C dx te ll td : Addr} {n : Int} {LE : List (Addr × Ed)} {rows : List Addr} {i j : Nat}
theorem Lp.same (L : Lp K H p C dx te ll td n LE rows i j H') (s : Same H' H2) : Lp K H p C dx te ll td n LE rows i j H2 := by
  refine ⟨L.but.trans (But.of s), s _ _ L.hp, s _ _ L.ht, L.hE.kp (Kp.of s), s _ _ L.hl, fun x a h => ?_, ?_⟩
  · obtain ⟨LP, h1, h2, h3⟩ := L.rw x a h
    exact ⟨LP, s _ _ h1, h2.kp (Kp.of s), h3⟩
  · obtain ⟨kvs, h1, h2⟩ := L.hd
    exact ⟨kvs, h1, h2.mono (s _ _ h2.at_) fun b xs h z => ⟨s _ _ h, z⟩⟩
theorem nin_ne {rows : List Addr} {x : Nat} {a b : Addr} (h : b ∉ rows) (g : rows[x]? = some a) : a ≠ b := fun z => h (by rw [← z]; exact List.mem_of_getElem? g)
theorem but_hide {a : Addr} {o : HO} (x : But p H H') (h : H a = none) : But p H (upd H' a o) := fun b u nb e => by
  rw [upd_ne (ne_of_none e h)]
  exact x b u nb e
/-- one more pair in a row -/
theorem Lp.row (L : Lp K H p C dx te ll td n LE rows i j H') (ndr : rows.Nodup) (fr : ∀ a ∈ rows, H a = none) (llr : ll ∉ rows) {e : Addr × Ed} (he : LE[i]? = some e) {s : Nat} (hs : e.2.1 = ((s : Nat) : Int)) {a : Addr} (ha : rows[s]? = some a)
    {LP : List (Addr × Pr)} (h1 : H' a = some (.lst (refs LP))) (h2 : Pqs K H' LP) (h3 : LP.map (·.2) = leav ((LE.map (·.2)).take i) ((s : Nat) : Int)) (h4 : LP.length ≤ i) {q : Addr} (hq : H' q = some (.tup (pqV e.2.2))) :
    Lp K H p C dx te ll td n LE rows (i + 1) j (upd H' a (.lst (refs LP ++ [.ref q]))) := by
  have ain := List.mem_of_getElem? ha
  have k := Kp.updL h1 (.lst (refs LP ++ [.ref q]))
  have pa : p ≠ a := ne_of L.hp h1 (fun z => nomatch z)
  have ta : te ≠ a := ne_of L.ht h1 (fun z => nomatch z)
  have la : ll ≠ a := fun z => llr (z ▸ ain)
  have tk : (LE.map (·.2)).take (i + 1) = (LE.map (·.2)).take i ++ [e.2] := by rw [List.take_succ, List.getElem?_map, he] <;> rfl
  refine ⟨but_hide L.but (fr a ain), by rw [upd_ne pa]; exact L.hp, by rw [upd_ne ta]; exact L.ht, L.hE.kp k, by rw [upd_ne la]; exact L.hl, fun x b hb => ?_, ?_⟩
  · by_cases hx : x = s
    · subst hx
      obtain rfl : b = a := Option.some.inj (hb.symm.trans ha)
      refine ⟨LP ++ [(q, e.2.2)], by rw [upd_same, refs_snoc], fun y hy => ?_, ?_, by rw [List.length_append, List.length_singleton]; omega⟩
      · rcases List.mem_append.mp hy with z | z
        · exact (h2.kp k) y z
        · rw [List.mem_singleton.mp z]
          exact k.sqT (.inl (.inl hq))
      · rw [tk, leav_snoc, if_pos hs, List.map_append, h3] <;> rfl
    · have nb : b ≠ a := fun z => hx ((List.getElem?_inj (List.getElem?_eq_some_iff.mp hb).1 ndr).mp (by rw [hb, ha, z]))
      obtain ⟨LP2, g1, g2, g3, g4⟩ := L.rw x b hb
      refine ⟨LP2, by rw [upd_ne nb]; exact g1, g2.kp k, ?_, by omega⟩
      rw [tk, leav_snoc, if_neg (by rw [hs]; omega)]
      exact g3
  · obtain ⟨kvs, g1, g2⟩ := L.hd
    have da : td ≠ a := ne_of g2.at_ h1 (fun z => nomatch z)
    exact ⟨kvs, g1, g2.mono (by rw [upd_ne da]; exact g2.at_) fun b xs h z => ⟨by rw [upd_ne (fun y => z.2.1 (by rw [y]; exact ain))]; exact h, z⟩⟩
theorem tk_at {LE : List (Addr × Ed)} {j : Nat} {e : Addr × Ed} (he : LE[j]? = some e) : (LE.map (·.2)).take (j + 1) = (LE.map (·.2)).take j ++ [e.2] := by
  rw [List.take_succ, List.getElem?_map, he] <;> rfl
/-- one more state in a list of the dict -/
theorem Lp.tgt (L : Lp K H p C dx te ll td n LE rows i j H') {e : Addr × Ed} (he : LE[j]? = some e) {kvs : List (List Key × V)} (lk : kvs.length ≤ j) (T : Tab H' td ((LE.map (·.2)).take j) kvs fun b => H b = none ∧ b ∉ rows ∧ b ≠ ll) {b : Addr} (hv : valV kvs (kT e.2.1 e.2.2.1) = some (.ref b)) :
    H' b = some (.lst ((tg ((LE.map (·.2)).take j) e.2.1 e.2.2.1).map V.int)) ∧ Lp K H p C dx te ll td n LE rows i (j + 1) (upd H' b (.lst ((tg ((LE.map (·.2)).take j) e.2.1 e.2.2.1).map V.int ++ [.int e.2.2.2]))) := by
  obtain ⟨b0, s0, x0, k0, v0, h1, ne0, h2, h3, h4⟩ := T.some_ _ _ hv
  cases v0
  obtain ⟨rfl, rfl⟩ : e.2.1 = s0 ∧ e.2.2.1 = x0 := by
    injection k0 with a1 a2
    injection a2 with a2 _
    exact ⟨Sum.inl.inj a1, Sum.inr.inj a2⟩
  refine ⟨h1, ?_⟩
  have k := Kp.updL h1 (.lst ((tg ((LE.map (·.2)).take j) e.2.1 e.2.2.1).map V.int ++ [.int e.2.2.2]))
  have pa : p ≠ b := ne_of L.hp h1 (fun z => nomatch z)
  have ta : te ≠ b := ne_of L.ht h1 (fun z => nomatch z)
  have da : td ≠ b := ne_of T.at_ h1 (fun z => nomatch z)
  refine ⟨but_hide L.but h2, by rw [upd_ne pa]; exact L.hp, by rw [upd_ne ta]; exact L.ht, L.hE.kp k, by rw [upd_ne h4.symm]; exact L.hl, fun x a ha => ?_, ⟨kvs, by omega, by rw [upd_ne da]; exact T.at_, fun k v h => ?_, fun s x h => ?_, T.inj⟩⟩
  · obtain ⟨LP2, g1, g2, g3⟩ := L.rw x a ha
    exact ⟨LP2, by rw [upd_ne (nin_ne h3 ha)]; exact g1, g2.kp k, g3⟩
  · obtain ⟨b', s', x', rfl, rfl, f3, f4, f5⟩ := T.some_ k v h
    by_cases nb : b' = b
    · subst nb
      have z := T.inj _ _ _ h hv
      injection z with z1 z2
      injection z2 with z2 _
      obtain rfl := Sum.inl.inj z1
      obtain rfl := Sum.inr.inj z2
      refine ⟨b', e.2.1, e.2.2.1, rfl, rfl, ?_, ?_, f5⟩
      · rw [tk_at he, tg_snoc, if_pos ⟨rfl, rfl⟩, upd_same, List.map_append] <;> rfl
      · rw [tk_at he, tg_snoc, if_pos ⟨rfl, rfl⟩]
        simp
    · have nk : ¬ (e.2.1 = s' ∧ e.2.2.1 = x') := fun z => nb (by
        obtain ⟨rfl, rfl⟩ := z
        have y := h.symm.trans hv
        injection y with y
        injection y)
      refine ⟨b', s', x', rfl, rfl, ?_, ?_, f5⟩
      · rw [tk_at he, tg_snoc, if_neg nk, upd_ne nb]; exact f3
      · rw [tk_at he, tg_snoc, if_neg nk]; exact f4
  · have nk : ¬ (e.2.1 = s ∧ e.2.2.1 = x) := fun z => by
      obtain ⟨rfl, rfl⟩ := z
      rw [hv] at h; cases h
    rw [tk_at he, tg_snoc, if_neg nk]
    exact T.none_ s x h
/-- a new list in the dict, with one state -/
theorem Lp.new (L : Lp K H p C dx te ll td n LE rows i j H') {e : Addr × Ed} (he : LE[j]? = some e) {kvs : List (List Key × V)} (lk : kvs.length ≤ j) (T : Tab H' td ((LE.map (·.2)).take j) kvs fun b => H b = none ∧ b ∉ rows ∧ b ≠ ll) (fd : H td = none) {b : Addr} (h1 : H' b = some (.lst [])) (h2 : H b = none) (h3 : b ∉ rows) (h4 : b ≠ ll)
    (fresh : ∀ k v, valV kvs k = some v → v ≠ .ref b) (hn : valV kvs (kT e.2.1 e.2.2.1) = none) :
    Lp K H p C dx te ll td n LE rows i (j + 1) (upd (upd H' td (.dT (putK kvs (kT e.2.1 e.2.2.1) (.ref b)))) b (.lst [.int e.2.2.2])) := by
  have hd := T.at_
  have bd : b ≠ td := ne_of h1 hd (fun z => nomatch z)
  have other : ∀ (c : Addr) (o : HO), H' c = some o → c ≠ td → c ≠ b → (upd (upd H' td (.dT (putK kvs (kT e.2.1 e.2.2.1) (.ref b)))) b (.lst [.int e.2.2.2])) c = some o := fun c o e n1 n2 => by rw [upd_ne n2, upd_ne n1]; exact e
  have kp : Kp H' (upd (upd H' td (.dT (putK kvs (kT e.2.1 e.2.2.1) (.ref b)))) b (.lst [.int e.2.2.2])) := ⟨fun c xs e => other c _ e (ne_of e hd (fun z => nomatch z)) (ne_of e h1 (fun z => nomatch z)), fun c o u e => other c _ e (ne_of e hd (fun z => nomatch z)) (ne_of e h1 (fun z => nomatch z))⟩
  have emp := T.none_ _ _ hn
  refine ⟨but_hide (but_hide L.but fd) h2, other _ _ L.hp (ne_of L.hp hd (fun z => nomatch z)) (ne_of L.hp h1 (fun z => nomatch z)), other _ _ L.ht (ne_of L.ht hd (fun z => nomatch z)) (ne_of L.ht h1 (fun z => nomatch z)), L.hE.kp kp, other _ _ L.hl (ne_of L.hl hd (fun z => nomatch z)) h4.symm, fun x a ha => ?_, ⟨_, Nat.le_trans (length_putK _ _ _) (Nat.succ_le_succ lk), by rw [upd_ne bd.symm, upd_same], fun k v h => ?_, fun s x h => ?_, fun k k' v h h' => ?_⟩⟩
  · obtain ⟨LP2, f1, f2, f3⟩ := L.rw x a ha
    exact ⟨LP2, other _ _ f1 (ne_of f1 hd (fun z => nomatch z)) (nin_ne h3 ha), f2.kp kp, f3⟩
  · rw [valV_put] at h
    by_cases ek : k = kT e.2.1 e.2.2.1
    · rw [if_pos ek] at h
      refine ⟨b, e.2.1, e.2.2.1, ek, (Option.some.inj h).symm, ?_, ?_, h2, h3, h4⟩
      · rw [tk_at he, tg_snoc, if_pos ⟨rfl, rfl⟩, emp, upd_same] <;> rfl
      · rw [tk_at he, tg_snoc, if_pos ⟨rfl, rfl⟩]; simp
    · rw [if_neg ek] at h
      obtain ⟨b', s', x', rfl, rfl, f3, f4, f5⟩ := T.some_ k v h
      have nb : b' ≠ b := fun z => fresh _ _ h (by rw [z])
      have nk : ¬ (e.2.1 = s' ∧ e.2.2.1 = x') := fun z => ek (by rw [z.1, z.2])
      refine ⟨b', s', x', rfl, rfl, ?_, ?_, f5⟩
      · rw [tk_at he, tg_snoc, if_neg nk]; exact other _ _ f3 (ne_of f3 hd (fun z => nomatch z)) nb
      · rw [tk_at he, tg_snoc, if_neg nk]; exact f4
  · rw [valV_put] at h
    by_cases ek : kT s x = kT e.2.1 e.2.2.1
    · rw [if_pos ek] at h; cases h
    · rw [if_neg ek] at h
      have nk : ¬ (e.2.1 = s ∧ e.2.2.1 = x) := fun z => ek (by rw [z.1, z.2])
      rw [tk_at he, tg_snoc, if_neg nk]
      exact T.none_ s x h
  · rw [valV_put] at h h'
    by_cases ek : k = kT e.2.1 e.2.2.1
    · by_cases ek' : k' = kT e.2.1 e.2.2.1
      · rw [ek, ek']
      · rw [if_pos ek] at h
        rw [if_neg ek'] at h'
        exact absurd (Option.some.inj h).symm (fresh _ _ h')
    · by_cases ek' : k' = kT e.2.1 e.2.2.1
      · rw [if_neg ek] at h
        rw [if_pos ek'] at h'
        exact absurd (Option.some.inj h').symm (fresh _ _ h)
      · rw [if_neg ek] at h
        rw [if_neg ek'] at h'
        exact T.inj _ _ _ h h'
end
theorem nd_le {α : Type} [DecidableEq α] : ∀ (l m : List α), l.Nodup → (∀ x ∈ l, x ∈ m) → l.length ≤ m.length
  | [], m, _, _ => Nat.zero_le _
  | x :: l, m, nd, h => by
    obtain ⟨n1, n2⟩ := List.nodup_cons.mp nd
    have hx := h x List.mem_cons_self
    have ih := nd_le l (m.erase x) n2 fun y hy => (List.mem_erase_of_ne (fun e => by rw [e] at hy; exact n1 hy)).mpr (h y (List.mem_cons_of_mem _ hy))
    rw [List.length_erase_of_mem hx] at ih
    have := List.length_pos_of_mem hx
    rw [List.length_cons]
    omega
def spInit (K : PySem.W.Frag) (C : Addr) : Sp := fun vs H Q _ => ∃ (p dx : Addr) (n : Int) (l : Addr) (L : List (Addr × Ed)), vs = [.ref p, .int n, .ref l] ∧ H p = some (.ins C dx []) ∧ SqL K H l (refs L) ∧ Eds K H L ∧ 1 ≤ n ∧ n ≤ 20000 ∧ L.length < 64 ∧ (∀ x ∈ L, okE n x.2) ∧
  ∀ (E : List Ed) (H' : Hp), But p H H' → SysAt K (fun a => H a = none) C H' p n E → (∀ e, e ∈ E ↔ e ∈ L.map (·.2)) → Q .non H'
/-- the same, whatever the list's length, where the edges are among 1,200 -/
def spInitU (K : PySem.W.Frag) (C : Addr) : Sp := fun vs H Q _ => ∃ (p dx : Addr) (n : Int) (l : Addr) (L : List (Addr × Ed)), vs = [.ref p, .int n, .ref l] ∧ H p = some (.ins C dx []) ∧ SqL K H l (refs L) ∧ Eds K H L ∧ 1 ≤ n ∧ n ≤ 20000 ∧ VT.Few L ∧ L.length ≤ 1000 ∧ (∀ x ∈ L, okE n x.2) ∧
  ∀ (E : List Ed) (H' : Hp), But p H H' → SysAt K (fun a => H a = none) C H' p n E → (∀ e, e ∈ E ↔ e ∈ L.map (·.2)) → Q .non H'
theorem spInit_few {C : Addr} {vs : List V} {H : Hp} {Q : VK} {E : XK} (h : spInit K C vs H Q E) : spInitU K C vs H Q E := by
  obtain ⟨p, dx, n, l, L, e, hp, hS, hE, n1, n2, len, ok, q⟩ := h
  exact ⟨p, dx, n, l, L, e, hp, hS, hE, n1, n2, VT.few_of (by omega), by omega, ok, q⟩
theorem okE_sys {n : Int} {L : List Ed} (n1 : 1 ≤ n) (n2 : n ≤ 20000) (ok : ∀ e ∈ L, okE n e) : sysOk n L = true := by
  unfold sysOk
  rw [decide_eq_true n1, decide_eq_true n2]
  exact List.all_eq_true.mpr fun e he => let z := ok e he; okB_all ⟨z.1, z.2.1, z.2.2.1, z.2.2.2.1⟩ (acts_act _ z.2.2.2.2)
/-- the constructor: a System, or BadSystem -/
def spInitX (K : PySem.W.Frag) (C CS : Addr) : Sp := fun vs H Q E => spInit K C vs H Q E ∨ (∃ (p : Addr) (n : Int) (l : Addr) (L : List (Addr × Ed)), vs = [.ref p, .int n, .ref l] ∧ SqL K H l (refs L) ∧ Eds K H L ∧ L.length ≤ 1000 ∧ (∀ x ∈ L, x.2.2.1.length ≤ 1000) ∧
  sysOk n (L.map (·.2)) = false ∧ ∀ H', Same H H' → E (.ref CS) none H') ∨ spInitU K C vs H Q E
theorem c_initX {C CS : Addr} {f : Addr} {fd : FuncData} (T : SysTxt K C) (F : FunD K "__init__" "System.__init__" (defArgs s_System___init__) (defBody s_System___init__) (defScope s_System___init__) [] [] f fd)
    (z_range : mg "range" = none) (z_sorted : mg "sorted" = none) (z_set : mg "set" = none) (z_tuple : mg "tuple" = none) (c_check_edges : VE.CalX P w K mg base 4 "check_edges" (spCheckX K CS)) :
    FnOk P w K mg base (L2.CX P w) 5 f fd ["self", "count", "edges"] (spInitX K C CS) := by
  refine F.ok sc_System___init__ (fun vs H Q E h => ?_) (fun cdv A outer s H vs Q E hr h => ?_)
  · rcases h with ⟨p, dx, n, l, L, rfl, _⟩ | ⟨p, n, l, L, rfl, _⟩ | ⟨p, dx, n, l, L, rfl, _⟩ <;> rfl
  have h2 : spInitU K C vs H Q E ∨ ∃ (p : Addr) (n : Int) (l : Addr) (L : List (Addr × Ed)), vs = [.ref p, .int n, .ref l] ∧ SqL K H l (refs L) ∧ Eds K H L ∧ L.length ≤ 1000 ∧ (∀ x ∈ L, x.2.2.1.length ≤ 1000) ∧ sysOk n (L.map (·.2)) = false ∧ ∀ H', Same H H' → E (.ref CS) none H' := by
    rcases h with z | z | z
    · exact .inl (spInit_few z)
    · exact .inr z
    · exact .inl z
  clear h
  rcases h2 with ⟨p, dx, n, l, L, rfl, hp, hS, hE, n1, n2, few, len, ok, q⟩ | ⟨p, n, l, L, rfl, hS, hE, len, lens, bad, qe⟩
  rotate_left
  · refine ⟨_, (pss_cons (ps_expr (VE.pe_cX c_check_edges hr (by first | decide | omega) rfl (takes_of rfl rfl rfl rfl) (pa_cons (pv 1) (pa_cons (pv 2) pa_nil))))
    (pss_cons (ps_fld (pv 0) (pv 1) rfl)
    (pss_cons (ps_fld (pv 0) (pe_callTy (VK.tupQ (K := K) rfl) (by rfl) z_tuple (by decide +kernel) (pa_cons (pe_callB (VT.cr_sortT (K := K) (P := P) (w := w) rfl rfl rfl rfl hr) (by rfl) z_sorted (by decide +kernel) (pa_cons (pe_callTy (VT.cr_setT (K := K) (P := P) (w := w) rfl rfl rfl rfl (VP.un3 hr)) (by rfl) z_set (by decide +kernel) (pa_cons (pv 2) pa_nil)) pa_nil)) pa_nil)) rfl)
    (pss_cons (ps_fld (pv 0) (pe_lc (own := [("_", 3)]) (tt := tYes) rfl sc_System___init__.nd (pi_range1 rfl z_range (pa_cons (pv 1) pa_nil)) (blkOk_by (N := ["self", "count", "edges", "_", "source", "action", "target"]) (sc := defScope s_System___init__) (by decide +kernel)) (fun _ _ _ _ _ => (pg_name (i := 3) sc_System___init__.nd rfl (Or.inl rfl) (hf := Or.inr rfl))) (fun _ _ _ _ _ => pts_nil) (fun _ _ _ _ _ => (pe_lst pa_nil))) rfl)
    (pss_cons (ps_fld (pv 0) pe_dnewT rfl)
    (pss_one (ps_for (passes_of rfl) rfl (pi_tup (pe_fld (pv 0) rfl)) (pg_tup rfl (pgs_cons (pg_name (i := 4) sc_System___init__.nd rfl (Or.inl rfl)) (pgs_cons (pg_name (i := 5) sc_System___init__.nd rfl (Or.inl rfl)) (pgs_cons (pg_name (i := 6) sc_System___init__.nd rfl (Or.inl rfl)) pgs_nil))))
      (pss_cons (ps_expr (pe_bm PySem.F.plainAttrs_list PySem.F.slot_list_append PySem.F.type_list_append mt_append (pe_ix (VK.ixL (K := K) rfl) (pe_fld (pv 0) rfl) (pv 4) (fun _ _ => rfl)) (pa_cons (pe_tup (pa_cons (pv 5) (pa_cons (pv 6) pa_nil))) pa_nil)))
      (pss_one (ps_expr (pe_bm PySem.F.plainAttrs_list PySem.F.slot_list_append PySem.F.type_list_append mt_append (VO.pe_setdT (hu_of hr) (pe_fld (pv 0) rfl) (pe_tup (pa_cons (pv 4) (pa_cons (pv 5) pa_nil))) (pe_lst pa_nil) ⟨rfl, rfl, rfl, rfl⟩) (pa_cons (pv 6) pa_nil)))))))))))), ?_⟩
    exact ⟨_, rfl, _, rfl, n, l, L, rfl, hS, hE, len, lens, fun z => absurd (z.symm.trans bad) (by decide), fun _ => qe⟩
  refine ⟨_, (pss_cons (ps_expr (VE.pe_cX c_check_edges hr (by first | decide | omega) rfl (takes_of rfl rfl rfl rfl) (pa_cons (pv 1) (pa_cons (pv 2) pa_nil))))
    (pss_cons (ps_fld (pv 0) (pv 1) rfl)
    (pss_cons (ps_fld (pv 0) (pe_callTy (VK.tupQ (K := K) rfl) (by rfl) z_tuple (by decide +kernel) (pa_cons (pe_callB (VT.cr_sortT (K := K) (P := P) (w := w) rfl rfl rfl rfl hr) (by rfl) z_sorted (by decide +kernel) (pa_cons (pe_callTy (VT.cr_setT (K := K) (P := P) (w := w) rfl rfl rfl rfl (VP.un3 hr)) (by rfl) z_set (by decide +kernel) (pa_cons (pv 2) pa_nil)) pa_nil)) pa_nil)) rfl)
    (pss_cons (ps_fld (pv 0) (pe_lc (own := [("_", 3)]) (tt := tYes) rfl sc_System___init__.nd (pi_range1 rfl z_range (pa_cons (pv 1) pa_nil)) (blkOk_by (N := ["self", "count", "edges", "_", "source", "action", "target"]) (sc := defScope s_System___init__) (by decide +kernel)) (fun _ _ _ _ _ => (pg_name (i := 3) sc_System___init__.nd rfl (Or.inl rfl) (hf := Or.inr rfl))) (fun _ _ _ _ _ => pts_nil) (fun _ _ _ _ _ => (pe_lst pa_nil))) rfl)
    (pss_cons (ps_fld (pv 0) pe_dnewT rfl)
    (pss_one (ps_for (passes_of rfl) rfl (pi_tup (pe_fld (pv 0) rfl)) (pg_tup rfl (pgs_cons (pg_name (i := 4) sc_System___init__.nd rfl (Or.inl rfl)) (pgs_cons (pg_name (i := 5) sc_System___init__.nd rfl (Or.inl rfl)) (pgs_cons (pg_name (i := 6) sc_System___init__.nd rfl (Or.inl rfl)) pgs_nil))))
      (pss_cons (ps_expr (pe_bm PySem.F.plainAttrs_list PySem.F.slot_list_append PySem.F.type_list_append mt_append (pe_ix (VK.ixL (K := K) rfl) (pe_fld (pv 0) rfl) (pv 4) (fun _ _ => rfl)) (pa_cons (pe_tup (pa_cons (pv 5) (pa_cons (pv 6) pa_nil))) pa_nil)))
      (pss_one (ps_expr (pe_bm PySem.F.plainAttrs_list PySem.F.slot_list_append PySem.F.type_list_append mt_append (VO.pe_setdT (hu_of hr) (pe_fld (pv 0) rfl) (pe_tup (pa_cons (pv 4) (pa_cons (pv 5) pa_nil))) (pe_lst pa_nil) ⟨rfl, rfl, rfl, rfl⟩) (pa_cons (pv 6) pa_nil)))))))))))), ?_⟩
  have zl := sizeLine_eq
  have hok : sysOk n (L.map (·.2)) = true := okE_sys n1 n2 fun e he => by obtain ⟨x, hx, rfl⟩ := List.mem_map.mp he; exact ok x hx
  refine ⟨_, rfl, _, rfl, n, l, L, rfl, hS, hE, by omega, fun x hx => Nat.le_trans (acts_ok _ (ok x hx).2.2.2.2).2 (by decide), fun _ H1 s1 => ?_, fun z => absurd (hok.symm.trans z) (by decide)⟩
  have hp1 := s1 _ _ hp
  refine ⟨_, rfl, _, rfl, p, C, dx, [], rfl, hp1, T.cl, T.n0, (by show 0 < 1000; decide), ?_⟩
  have B2 : But p H (upd H1 p (.ins C dx (fl1 n))) := but_own (But.of s1) _
  have hp2 : upd H1 p (.ins C dx (fl1 n)) p = some (.ins C dx (fl1 n)) := upd_same
  show _
  have hS2 := but_seq B2 hp hS
  have k2 := but_kp B2 hp
  refine ⟨_, rfl, l, L.map fun x => (x.1, edK x.2), rfl, ?_, fun x hx => ?_, (by obtain ⟨U, hU, inU⟩ := few; exact ⟨U.map edK, by rw [List.length_map]; exact hU, fun y hy => by obtain ⟨z, hz, rfl⟩ := List.mem_map.mp hy; exact List.mem_map_of_mem (inU z hz)⟩), fun a M na ofM => ?_⟩
  · rw [List.map_map]; exact hS2
  · obtain ⟨y, hy, rfl⟩ := List.mem_map.mp hx
    exact (hE.kp k2) y hy
  have s3 := same_upd na (VT.SetKO P w a M)
  have key : ∀ x ∈ M, ∃ y ∈ L, x = (y.1, edK y.2) := fun x hx => by
    obtain ⟨y, hy, rfl⟩ := List.mem_map.mp (ofM.sub x hx)
    exact ⟨y, hy, rfl⟩
  have B3 := but_new B2 (o := VT.SetKO P w a M) na
  have hp3 : upd (upd H1 p (.ins C dx (fl1 n))) a (VT.SetKO P w a M) p = some (.ins C dx (fl1 n)) := s3 _ _ hp2
  have k3 := but_kp B3 hp
  refine ⟨a, M, rfl, upd_same, fun x hx => ?_, fun d hd d' hd' => ?_, fun x hx => ?_, fun M' b pm nb => ?_⟩
  · obtain ⟨y, hy, rfl⟩ := key x hx
    exact (hE.kp k3) y hy
  · obtain ⟨x, hx, rfl⟩ := List.mem_map.mp hd
    obtain ⟨y, hy, rfl⟩ := List.mem_map.mp hd'
    obtain ⟨_, _, rfl⟩ := key x hx
    obtain ⟨_, _, rfl⟩ := key y hy
    rfl
  · obtain ⟨_, _, rfl⟩ := key x hx
    exact List.cons_ne_nil _ _
  obtain ⟨LE, eLE, subLE, ascLE, memLE⟩ := sorted_eds (M := M') (L := L) (fun x hx => ofM.sub x (pm.mem_iff.mp hx)) (fun y hy => ((pm.map (·.2)).mem_iff).mpr (ofM.all _ (List.mem_map.mpr ⟨y, hy, rfl⟩))) ((pm.map (·.2)).nodup_iff.mpr ofM.nd)
  have eref : (M'.mergeSort VT.leK).map (fun q => V.ref q.1) = refs LE := by
    rw [eLE, List.map_map]
    rfl
  rw [eref]
  clear eref eLE
  have s4 := same_upd nb (.lst (refs LE))
  have B4 := but_new B3 (o := .lst (refs LE)) nb
  refine ⟨b, _, rfl, .inl ⟨SqL.of upd_same, fun te nte => ?_⟩⟩
  have s5 := same_upd nte (.tup (refs LE))
  have B5 := but_new B4 (o := .tup (refs LE)) nte
  have hp5 := s5 _ _ (s4 _ _ hp3)
  have hte : upd (upd (upd (upd H1 p (.ins C dx (fl1 n))) a (VT.SetKO P w a M)) b (.lst (refs LE))) te (.tup (refs LE)) te = some (.tup (refs LE)) := upd_same
  have ok' : ∀ e ∈ LE.map (·.2), okE n e := fun e he => by
    obtain ⟨x, hx, rfl⟩ := List.mem_map.mp ((memLE e).1 he)
    exact ok x hx
  have hLE : Eds K (upd (upd (upd (upd H1 p (.ins C dx (fl1 n))) a (VT.SetKO P w a M)) b (.lst (refs LE))) te (.tup (refs LE))) LE := fun x hx => (hE.kp (but_kp B5 hp)) x (subLE x hx)
  have lenLE : LE.length < 1201 := by
    obtain ⟨U, hU, inU⟩ := few
    have z := nd_le _ U (List.nodup_iff_pairwise_ne.mpr (ascLE.imp fun h e => by rw [e] at h; exact ltE_irrefl _ h)) fun e he => by
      obtain ⟨y, hy, rfl⟩ := List.mem_map.mp ((memLE e).1 he)
      exact inU y hy
    rw [List.length_map] at z
    omega
  generalize upd (upd (upd (upd H1 p (.ins C dx (fl1 n))) a (VT.SetKO P w a M)) b (.lst (refs LE))) te (.tup (refs LE)) = H5 at *
  clear hp3 hp2 hp1 s3 s4 s5 key B2 B3 B4 k2 k3 hS2 
  refine ⟨_, rfl, p, C, dx, _, rfl, hp5, T.cl, T.n1, (fl_len n te te).1, ?_⟩
  have B6 : But p H (upd H5 p (.ins C dx (fl2 n te))) := but_own B5 _
  have hp6 : upd H5 p (.ins C dx (fl2 n te)) p = some (.ins C dx (fl2 n te)) := upd_same
  have pte : te ≠ p := ne_of hte hp5 (fun z => nomatch z)
  have hte6 : upd H5 p (.ins C dx (fl2 n te)) te = some (.tup (refs LE)) := by rw [upd_ne pte]; exact hte
  refine ⟨_, rfl, n, rfl, by omega, by omega, fun ll nll => lc_range (lo := 0) (n := n.toNat)
    (fun i H' => ∃ rows : List Addr, H' ll = some (.lst (rows.map V.ref)) ∧ rows.length = i ∧ rows.Nodup ∧ (∀ a ∈ rows, H' a = some (.lst []) ∧ H a = none) ∧ Same (upd H5 p (.ins C dx (fl2 n te))) H')
    ⟨[], upd_same, rfl, List.nodup_nil, fun a z => absurd z List.not_mem_nil, same_upd nll _⟩ ?_ ?_⟩
  · rintro i H' hi ⟨rows, hll, lenr, ndr, fr, sH⟩
    refine ⟨rfl, ?_⟩
    unfold tYes
    refine iteT ⟨Nat.zero_le _, fun q nq => ?_⟩
    have sq := same_upd nq (.lst [])
    have hll2 := sq _ _ hll
    have qll : q ≠ ll := (ne_of_none hll nq).symm
    have qH : H q = none := B6.none (ne_of_none (sH _ _ hp6) nq).symm (sH.free nq)
    have fr2 : ∀ a ∈ rows, a ≠ ll := fun a ha => fun z => by
      have h1 := (fr a ha).1
      rw [z, hll] at h1
      cases hr : rows with
      | nil => rw [hr] at ha; cases ha
      | cons x xs => rw [hr] at h1; cases h1
    refine ⟨_, hll2, by rw [List.length_map, lenr]; omega, rows ++ [q], by rw [upd_same, List.map_append] <;> rfl, by rw [List.length_append, lenr] <;> rfl, ?_, fun a ha => ?_, sameIn (sH.trans sq) nll⟩
    · exact List.nodup_append.mpr ⟨ndr, by simp, fun a ha b hb => by rw [List.mem_singleton.mp hb]; intro e; have h1 := (fr a ha).1; rw [e, nq] at h1; cases h1⟩
    · rcases List.mem_append.mp ha with z | z
      · exact ⟨by rw [upd_ne (fr2 a z)]; exact sq _ _ (fr a z).1, (fr a z).2⟩
      · rw [List.mem_singleton.mp z]
        exact ⟨by rw [upd_ne qll, upd_same], qH⟩
  · rintro H7 ⟨rows, hll, lenr, ndr, fr, sH⟩
    have llr : ll ∉ rows := fun z => by
      have h1 := (fr ll z).1
      rw [hll] at h1
      cases hr : rows with
      | nil => rw [hr] at z; cases z
      | cons x xs => rw [hr] at h1; cases h1
    have llH : H ll = none := B6.none (ne_of_none hp6 nll).symm nll
    have B7 := B6.trans (But.of sH)
    have hp7 := sH _ _ hp6
    refine ⟨_, rfl, p, C, dx, _, rfl, hp7, T.cl, T.n2, (fl_len n te te).2.1, ?_⟩
    intro td ntd
    have tdp : td ≠ p := fun z => by rw [z, upd_same] at ntd; cases ntd
    have ntd7 : H7 td = none := by rw [upd_ne tdp] at ntd; exact ntd
    refine ⟨_, rfl, p, C, dx, fl3 n te ll, rfl, (by rw [upd_ne tdp.symm, upd_same]), T.cl, T.n3, (fl_len n te ll).2.2, ?_⟩
    have tdH : H td = none := B7.none tdp ntd7
    have L0 : Lp K H p C dx te ll td n LE rows 0 0 (upd (upd (upd H7 p (.ins C dx (fl3 n te ll))) td (.dT [])) p (.ins C dx (fl4 n te ll td))) := by
      have other : ∀ (c : Addr) (o : HO), H7 c = some o → c ≠ p → (upd (upd (upd H7 p (.ins C dx (fl3 n te ll))) td (.dT [])) p (.ins C dx (fl4 n te ll td))) c = some o := fun c o e n1 => by rw [upd_ne n1, upd_ne (ne_of_none e ntd7), upd_ne n1]; exact e
      have hx : Kp H7 (upd (upd (upd H7 p (.ins C dx (fl3 n te ll))) td (.dT [])) p (.ins C dx (fl4 n te ll td))) := ⟨fun c xs e => other c _ e (ne_of e hp7 (fun z => nomatch z)), fun c o u e => other c _ e (ne_of e hp7 (fun z => nomatch z))⟩
      refine ⟨but_own (but_hide (but_own B7 _) tdH) _, upd_same, other _ _ (sH _ _ hte6) pte, (hLE.kp ?_), other _ _ hll (ne_of hll hp7 (fun z => nomatch z)), fun x a ha => ?_, ⟨[], Nat.le_refl _, (by rw [upd_ne tdp, upd_same]), (fun k v z => by rw [valV_nil] at z; cases z), (fun s x z => rfl), (fun k k' v z => by rw [valV_nil] at z; cases z)⟩⟩
      · exact (but_kp (but_own (But.refl p H5) _) hp5).trans ((Kp.of sH).trans hx)
      · have h1 := (fr a (List.mem_of_getElem? ha)).1
        exact ⟨[], other _ _ h1 (ne_of h1 hp7 (fun z => nomatch z)), fun y z => absurd z List.not_mem_nil, rfl, Nat.le_refl _⟩
    generalize upd (upd (upd H7 p (.ins C dx (fl3 n te ll))) td (.dT [])) p (.ins C dx (fl4 n te ll td)) = H8 at L0 ⊢
    refine ⟨_, rfl, p, C, dx, _, _, rfl, L0.hp, T.cl, T.n1, fl_edges n te ll td, te, rfl, ⟨_, .inl (.inl L0.ht)⟩, for_tup (K := K) (a := te) (xs := refs LE)
      (fun i σ H' => Lp K H p C dx te ll td n LE rows i i H' ∧ ∃ (r3 r4 r5 r6 : Option V), σ = [some (.ref p), some (.int n), some (.ref l), r3, r4, r5, r6])
      ⟨L0, none, none, none, none, rfl⟩ (fun i σ H' _ z => .inl (.inl z.1.ht)) ?_ ?_⟩
    · rintro i v σ H9 hv ⟨L9, r3, r4, r5, r6, rfl⟩
      obtain ⟨e, he, rfl⟩ := refs_at hv
      have ein := List.mem_of_getElem? he
      have lti : i < LE.length := (List.getElem?_eq_some_iff.mp he).1
      obtain ⟨o1, o2, o3, o4, o5⟩ := ok' e.2 (List.mem_map_of_mem ein)
      refine ⟨e.1, _, rfl, L9.hE e ein, rfl, .int e.2.1, _, rfl, .str e.2.2.1, _, rfl, .int e.2.2.2, _, rfl, rfl, ?_⟩
      have lts : e.2.1.toNat < rows.length := by omega
      have es : e.2.1 = ((e.2.1.toNat : Nat) : Int) := by omega
      have ha : rows[e.2.1.toNat]? = some rows[e.2.1.toNat] := List.getElem?_eq_getElem lts
      generalize rows[e.2.1.toNat] = a at ha
      obtain ⟨LP, h1, h2, h3, h4⟩ := L9.rw _ a ha
      have hat : atI (rows.map V.ref) e.2.1 = some (.ref a) := by rw [es]; exact atI_nat (by rw [List.getElem?_map, ha] <;> rfl)
      refine ⟨_, rfl, p, C, dx, _, _, rfl, L9.hp, T.cl, T.n2, fl_leav n te ll td, _, rfl, ll, _, _, _, rfl, rfl, SqL.of L9.hl, hat, .inl ⟨rfl, _, SqL.of h1⟩, _, rfl, _, rfl, (by show 2 ≤ sizeLine; omega), fun q nq => ?_⟩
      have sq := same_upd nq (.tup [.str e.2.2.1, .int e.2.2.2])
      refine ⟨a, _, _, rfl, rfl, sq _ _ h1, (by rw [refs_len]; omega), ?_⟩
      have L10 := (L9.same sq).row ndr (fun b hb => (fr b hb).2) llr he es ha (sq _ _ h1) (h2.kp (Kp.of sq)) h3 h4 (q := q) upd_same
      generalize upd (upd H9 q (.tup [.str e.2.2.1, .int e.2.2.2])) a (.lst (refs LP ++ [.ref q])) = H10 at L10 ⊢
      obtain ⟨kvs, d2, d0⟩ := L10.hd
      have d1 := d0.at_
      refine ⟨_, rfl, p, C, dx, _, _, rfl, L10.hp, T.cl, T.n3, fl_targ n te ll td, td, rfl, .inr ⟨_, .inl d1⟩, _, rfl, _, rfl, (by show 2 ≤ sizeLine; omega), fun k nk => ⟨Nat.zero_le _, fun z nz => ?_⟩⟩
      have sk := same_upd nk (.tup [.int e.2.1, .str e.2.2.1])
      have sz := same_upd nz (.lst [])
      have L12 := (L10.same sk).same sz
      have hz : upd (upd H10 k (.tup [.int e.2.1, .str e.2.2.1])) z (.lst []) z = some (.lst []) := upd_same
      have hk : upd (upd H10 k (.tup [.int e.2.1, .str e.2.2.1])) z (.lst []) k = some (.tup [.int e.2.1, .str e.2.2.1]) := sz _ _ upd_same
      have zp : z ≠ p := (ne_of_none (L10.same sk).hp nz).symm
      have zH : H z = none := (L10.same sk).but.none zp nz
      have zr : z ∉ rows := fun y => by
        obtain ⟨t, ht, et⟩ := List.getElem_of_mem y
        obtain ⟨LP2, g1, _⟩ := (L10.same sk).rw t z (by rw [List.getElem?_eq_getElem ht, et])
        rw [nz] at g1; cases g1
      have zl2 : z ≠ ll := (ne_of_none (L10.same sk).hl nz).symm
      have d1' := sz _ _ (sk _ _ d1)
      have skz := sk.trans sz
      generalize upd (upd H10 k (.tup [.int e.2.1, .str e.2.2.1])) z (.lst []) = H12 at L12 hz hk d1' skz ⊢
      have d12 : Tab H12 td ((LE.map (·.2)).take i) kvs fun b => H b = none ∧ b ∉ rows ∧ b ≠ ll := d0.mono d1' fun b xs h z => ⟨skz _ _ h, z⟩
      have fresh : ∀ k v, valV kvs k = some v → v ≠ .ref z := fun k v h e => by
        obtain ⟨b, _, _, _, ev, hb, _⟩ := d0.some_ k v h
        rw [ev] at e
        injection e with e
        rw [e] at hb
        rw [sk _ _ hb] at nz
        cases nz
      refine ⟨kvs, [.inl e.2.1, .inr e.2.2.1], k, d1', rfl, hk, by omega, fun v hv => ?_, fun hn => ?_⟩
      · obtain ⟨b, s0, x0, _, rfl, _⟩ := d12.some_ _ _ hv
        obtain ⟨g1, g2⟩ := L12.tgt he d2 d12 hv
        have tl : (tg ((LE.map (·.2)).take i) e.2.1 e.2.2.1).length ≤ i := by
          unfold tg
          rw [List.length_map]
          exact Nat.le_trans (List.length_filter_le _ _) (List.length_take_le _ _)
        refine ⟨.inl ⟨rfl, _, SqL.of g1⟩, _, rfl, b, _, _, rfl, rfl, g1, by rw [List.length_map]; omega, ?_⟩
        exact ⟨g2, _, _, _, _, rfl⟩
      · have zd : z ≠ td := ne_of hz d1' (fun y => nomatch y)
        refine ⟨.inl ⟨rfl, _, SqL.of (by rw [upd_ne zd]; exact hz)⟩, _, rfl, z, _, _, rfl, rfl, by rw [upd_ne zd]; exact hz, (by show 0 < sizeLine; omega), ?_⟩
        exact ⟨L12.new he d2 d12 tdH hz zH zr zl2 fresh hn, _, _, _, _, rfl⟩
    · rintro σ H9 ⟨L9, r3, r4, r5, r6, rfl⟩
      obtain ⟨kvs, _, T9⟩ := L9.hd
      rw [refs_len, List.take_of_length_le (by rw [List.length_map]; exact Nat.le_refl _)] at T9
      refine q (LE.map (·.2)) H9 L9.but ⟨⟨dx, te, ll, td, LE, rows, kvs, L9.hp, L9.ht, L9.hE, rfl, L9.hl, by omega, fun j a hj => ?_, T9.mono T9.at_ fun b xs h z => ⟨h, z.1⟩, llH⟩, ascLE, ok'⟩ memLE
      obtain ⟨LP, g1, g2, g3, _⟩ := L9.rw j a hj
      refine ⟨(fr a (List.mem_of_getElem? hj)).2, LP, g1, g2, ?_⟩
      rw [g3, refs_len, List.take_of_length_le (by rw [List.length_map]; exact Nat.le_refl _)]
end
end LW

set_option Elab.async false
set_option linter.all false
set_option maxRecDepth 100000
set_option maxHeartbeats 4000000
namespace VX
open PySem PySem.Spec PyProof.Rows L2 LamX NdefX VB
/-! a def that may raise, where it does not -/
abbrev calm (sp : Sp) : Sp := fun vs H Q _ => sp vs H Q fun _ _ _ => False
section
variable {P : Program} {w : World} {K : PySem.W.Frag} {mg : Str → Option Value} {base : Heap}
theorem fnCalm {k : Nat} {f : Addr} {fd : FuncData} {ps : List Str} {sp : Sp} (F : FnOk P w K mg base (L2.CX P w) k f fd ps sp) : FnOk P w K mg base CX0 k f fd ps (calm sp) := by
  refine ⟨fun vs H Q E h => F.len _ _ _ _ h, fun A outer s H args us vs Q E hr he hb hv h => codeAny_mono (F.run A outer s H args us vs Q (fun _ _ _ => False) hr he hb hv h) fun r s' q => ?_⟩
  cases r with
  | error e =>
    obtain ⟨_, _, _, _, _, _, _, _, _, _, _, _, z⟩ := q
    exact z.elim
  | ok fl => cases fl <;> exact q
theorem calCalm {k : Nat} {x : Str} {sp : Sp} (c : VE.CalX P w K mg base k x sp) : C8.Cal P w K mg base k x (calm sp) [] := by
  obtain ⟨f, fd, ps, F, hm, kp, b⟩ := c.ex
  exact ⟨f, fd, ps, [], fnCalm F, hm, kp, b, .nil⟩
theorem metCalm {k : Nat} {C : Addr} {m : Str} {sp : Sp} (c : VE.MetX P w K mg base k C m sp) : C8.Met P w K mg base k C m (calm sp) [] := by
  obtain ⟨f, fd, ps, hc, me, F, b⟩ := c.ex
  exact ⟨f, fd, ps, [], hc, me, fnCalm F, b, .nil⟩
theorem makCalm {k : Nat} {C : Addr} {x : Str} {sp : Sp} (c : VE.MakX P w K mg base k x C sp) : C8.Mak P w K mg base k x C (calm sp) [] := by
  obtain ⟨f, fd, ps, M, F, hm, b⟩ := c.ex
  exact ⟨f, fd, ps, [], M, fnCalm F, hm, b, .nil⟩
theorem metImp {k : Nat} {C : Addr} {m : Str} {sp sp' : Sp} {dvs : List V} (c : C8.Met P w K mg base k C m sp dvs) (h : ∀ vs H Q E, sp' vs H Q E → sp vs H Q E) : C8.Met P w K mg base k C m sp' dvs := by
  obtain ⟨f, fd, ps, ds, hc, me, F, r⟩ := c.ex
  exact ⟨f, fd, ps, ds, hc, me, F.imp h, r⟩
theorem makImp {k : Nat} {C : Addr} {x : Str} {sp sp' : Sp} {dvs : List V} (c : C8.Mak P w K mg base k x C sp dvs) (h : ∀ vs H Q E, sp' vs H Q E → sp vs H Q E) : C8.Mak P w K mg base k x C sp' dvs := by
  obtain ⟨f, fd, ps, ds, M, F, r⟩ := c.ex
  exact ⟨f, fd, ps, ds, M, F.imp h, r⟩
theorem metXOf {m qual : Str} {C : Addr} {st : Stmt} {f : Addr} {fd : FuncData} {N ps : List Str} {k : Nat} {sp : Sp} (c : Cls K C) (me : Meth K C m f) (F : FunD K m qual (defArgs st) (defBody st) (defScope st) [] [] f fd) (S : FnScope N ps (defScope st))
    (hb : ∀ (kV doc pm : Value) (an : Option Addr) (cdv ct : Value) (us : List Value), us.length = ps.length → bindArgs (PySem.W.fnOf m qual (defArgs st) (defBody st) (defScope st) .none kV doc pm an cdv ct) ⟨us, []⟩ = pure (ps.zip us))
    (len : ∀ vs H Q E, sp vs H Q E → vs.length = ps.length)
    (hbody : ∀ (cdv : Value) (A : Around) (outer : List Env) (s : Shared) (H : Hp) (vs : List V) (Q : VK) (E : XK),
      Room k (A.deeper (envOfC qual (defScope st) s.heap.objs.size f cdv)) → sp vs H Q E →
      ∃ t, PSs (cxOf (L2.CX P w) P w K mg base N qual (defScope st) f cdv A outer s H E) (defBody st) t ∧ t { nx := fun _ H' => Q .non H', rt := Q } (start N vs) H) :
    VE.MetX P w K mg base (k + 1) C m sp :=
  ⟨f, fd, ps, c, me, F.ok S len (fun cdv A outer s H vs Q E hr h => hbody cdv A outer s H vs Q E hr h), F.bindsN hb⟩
end
section
variable {P : Program} {w : World} {K : PySem.W.Frag} {mg : Str → Option Value} {base : Heap}
theorem metOf {m qual : Str} {C : Addr} {st : Stmt} {f : Addr} {fd : FuncData} {N ps : List Str} {k : Nat} {sp : Sp} (c : Cls K C) (me : Meth K C m f) (F : FunD K m qual (defArgs st) (defBody st) (defScope st) [] [] f fd) (S : FnScope N ps (defScope st))
    (hb : ∀ (kV doc pm : Value) (an : Option Addr) (cdv ct : Value) (us : List Value), us.length = ps.length → bindArgs (PySem.W.fnOf m qual (defArgs st) (defBody st) (defScope st) .none kV doc pm an cdv ct) ⟨us, []⟩ = pure (ps.zip us))
    (len : ∀ vs H Q E, sp vs H Q E → vs.length = ps.length)
    (hbody : ∀ (cdv : Value) (A : Around) (outer : List Env) (s : Shared) (H : Hp) (vs : List V) (Q : VK) (E : XK),
      Room k (A.deeper (envOfC qual (defScope st) s.heap.objs.size f cdv)) → sp vs H Q E →
      ∃ t, PSs (cxOf CX0 P w K mg base N qual (defScope st) f cdv A outer s H E).nox (defBody st) t ∧ t { nx := fun _ H' => Q .non H', rt := Q } (start N vs) H) :
    C8.Met P w K mg base (k + 1) C m sp [] := by
  refine ⟨f, fd, ps, [], c, me, F.ok S len (fun cdv A outer s H vs Q E hr h => ?_), F.bindsN hb, .nil⟩
  obtain ⟨t, a, b⟩ := hbody cdv A outer s H vs Q E hr h
  exact ⟨t, a.nox, b⟩
end
theorem iteMem {p : Prop} [Decidable p] {A B : Prop} (h1 : p → A) (h2 : ¬ p → B) : if (if true = true then !decide p else decide p) = true then B else A := by
  rw [if_pos rfl]
  by_cases h : p
  · rw [decide_eq_true h]; exact iteF (h1 h)
  · rw [decide_eq_false h]; exact iteT (h2 h)
theorem inV_ints (t : Int) (o : List Int) : inV (.int t) (o.map V.int) = decide (t ∈ o) := by
  induction o with
  | nil => rfl
  | cons x o ih =>
    show (eqV (.int x) (.int t) || inV (.int t) (o.map V.int)) = _
    rw [ih]
    show ((x == t) || _) = _
    by_cases h : t = x
    · subst h; simp
    · have h2 : ¬ x = t := fun z => h z.symm
      simp [h, h2]
/-! == of instances by their own __eq__, True or False -/
def spEqB (R : Addr → Addr → Bool → Hp → Prop) : Sp := fun vs H Q _ => ∃ a b r, vs = [.ref a, .ref b] ∧ R a b r H ∧ ∀ H', Ext H H' → Q (.bl r) H'
def rEqI (C : Addr) (R : Addr → Addr → Bool → Hp → Prop) : R2 := fun x y H Q => ∃ (a b dx dy : Addr) (fs gs : List (Str × V)) (r : Bool), x = .ref a ∧ y = .ref b ∧ H a = some (.ins C dx fs) ∧ H b = some (.ins C dy gs) ∧ R a b r H ∧ ∀ H', Ext H H' → Q (.bl r) H'
theorem op_eqI {X : Cx} {n : Nat} {CX : CXT} {C f : Addr} {fd : FuncData} {ps : List Str} {R : Addr → Addr → Bool → Hp → Prop} {E : XK} (F : FnOk X.prog X.w X.K X.mg X.base CX n f fd ps (spEqB R))
    (hs : PySem.W.findIn X.K (.ref C) "__eq__" = some (some (.ref f))) (hf : PySem.W.isFn X.K (.ref f) = true) (hb : Binds X.K fd ps []) (hx : Passes CX X E) (hr : Room n X.A) : OpR X (compareOp .Eq) (rEqI C R) := by
  intro pins s σ H x y v u Q I rx ry hq
  obtain ⟨a, b, dx, dy, fs, gs, r, rfl, rfl, ha, hb', hR, q⟩ := hq
  show wpAny (model X.prog X.w) X.A (richCompare .Eq v u) (EP X pins σ Q) X.xe s
  cases rx
  cases ry
  obtain ⟨mA, J, _⟩ := ins_get I.hok ha
  obtain ⟨mB, J', _⟩ := ins_get I.hok hb'
  obtain ⟨od, J, _⟩ := J.look
  obtain ⟨od', J', _⟩ := J'.look
  obtain ⟨m, hF⟩ := I.fr
  refine PySem.W.cmp_K (op := .Eq) (tb := .ref C) hr.units0 hF I.ok.mod.kin J J'.type (by simp [PySem.W.notFirst]) hs hf ?_
  have hsp : spEqB R [.ref a, .ref b] H (fun v H' => (∃ r, v = .bl r) ∧ Q v H') E := ⟨a, b, r, rfl, hR, fun H' e => ⟨⟨r, rfl⟩, q H' e⟩⟩
  have e0 : Env0 X.prog X.w X.K X.mg X.base X.A X.stack s H := I.env0
  have hl := F.len _ _ _ _ hsp
  have r2 : Vals [V.ref a, V.ref b] [Value.ref a, Value.ref b] := .cons rfl (.cons rfl .nil)
  refine wpAny_call (codeAny_mono (F.run X.A X.stack s H ⟨[.ref a, .ref b], []⟩ [.ref a, .ref b] [.ref a, .ref b] _ E hr e0 (by
    have := hb s [.ref a, .ref b] I.kIn (by simpa using hl)
    simpa using this) r2 hsp) fun r s' hq => ?_)
  cases r with
  | error e => exact hx pins σ H s e s' I hq
  | ok fl =>
    cases fl with
    | ret w =>
      obtain ⟨v, H', I', rv, ⟨r, ev⟩, q'⟩ := I.after hq
      subst ev
      cases rv
      exact ⟨.bl r, H', I', rfl, q'⟩
    | next => exact False.elim hq
    | brk => exact False.elim hq
    | cont => exact False.elim hq
/-- try .. except x, by a name -/
def tTry (K : PySem.W.Frag) (c : Value) (tb : WX → TS) (ts : Addr → Value → Option Addr → TS) (Wout : WX) : TS := fun D σ H => tb (wOnly K c ts Wout D) D σ H
theorem ps_try {X : Cx} {K : PySem.W.Frag} (hK : X.K = K) {x : Str} {c : Value} {body suite : List Stmt} {b₀ : Stmt} {np pos pos' : Pos} {tb : WX → TS} {ts : Addr → Value → Option Addr → TS} {Wout : WX} (hs : X.stack = X.env :: X.outer) (hf : X.env.frame = some X.env.locals) (hc : Names X x c) (tk : L2.Takes X Wout)
    (hb : ∀ (W : WX) (pn : List (Addr × Obj)) (xe : Value → Shared → Prop), L2.Takes (X.tr pn xe) W → PassesOwn (model X.prog X.w) X.A X.env xe → PSs (X.tr pn xe) body (tb W))
    (hsu : ∀ (a : Addr) (oe : Obj) (cls : Value) (d : Option Addr) (pn : List (Addr × Obj)), L2.Zc cls d oe → (∃ vs, oe.data = .fields vs) → PSs (X.suite a ((a, oe) :: pn)) (b₀ :: suite) (ts a cls d)) :
    PS X (.Try body [.ExceptHandler (some (.Name x np)) none (b₀ :: suite) pos'] [] [] pos) (tTry K c tb ts Wout) := by
  subst hK
  exact ps_try_only hs hf hc tk hb hsu
/-! xs[::-1] -/
theorem revL {X : Cx} {K : PySem.W.Frag} (h : X.K = K) {e : Expr} {te : TE} {k : Nat} {p1 p2 p3 pos : Pos} (he : PE X e te) : PE X (.Subscript e (.Slice none none (some (.UnaryOp .USub (.Constant (.int 1) k p1) p2)) p3) pos) (tRevL K te) := by
  subst h
  exact pe_revL he
end VX

set_option Elab.async false
set_option linter.all false
set_option maxRecDepth 100000
set_option maxHeartbeats 4000000
namespace VQ
open PySem PySem.Spec PyProof.Rows L2 LamX NdefX VB VM
/-! sets of whole numbers (fewer than 64), told with the world by its name; sorted of whole numbers -/
section
variable {X : Cx} {w : World} (h : X.w = w)
include h
theorem set0I : CallR X (.type "set") (rSet0 w) := by subst h; exact cr_set0
theorem inI : OpR X (compareOp .In) (rSIn w) := by subst h; exact or_sin
theorem notInI : OpR X (compareOp .NotIn) (rSNotIn w) := by subst h; exact or_snotin
theorem sortedSI (hc : X.calm = true) : CallR X (.builtin "sorted") (rSortedSet w) := by subst h; exact cr_sortedSet hc
theorem saddI {o e : Expr} {es : List Expr} {to : TE} {t : TA} {apos cpos : Pos} (ho : PE X o to) (ha : PA X (e :: es) t)
    (hbase : attributeBase o "add" X.env (eval o X.env) = eval o X.env := by rfl)
    (hfew : ((backTo cpos (starEach (e :: es) X.env)).all (fun x => !x.1) && (backToKw cpos (keywordEach [] X.env)).all (fun x => x.1.isSome)
      && decide ((e :: es).length + ([] : List Keyword).length + (if ([] : List Keyword).isEmpty then 0 else 1) < 30)) = true := by rfl)
    (hline : (apos.endLine == cpos.line) = true := by rfl) (hs : starEach (e :: es) X.env = (false, eval e X.env) :: starEach es X.env := by rfl) (hplain : (backTo cpos (starEach es X.env)).any (·.1) = false := by rfl) :
    PE X (.Call (.Attribute o "add" apos) (e :: es) [] cpos) (tSAdd w to t) := by subst h; exact pe_sadd ho ha hbase hfew hline hs hplain
end
/-- sorted of whole numbers -/
def srtI (l : List Int) : List Int := l.mergeSort fun a b => decide (a ≤ b)
def rSortI (K : PySem.W.Frag) : List V → Hp → VK → Prop := fun vs H Q => ∃ (a : Addr) (ns : List Int), vs = [V.ref a] ∧ SqL K H a (ns.map V.int) ∧
  ∀ p : Addr, H p = none → Q (.ref p) (upd H p (.lst ((srtI ns).map V.int)))
theorem sortedI {X : Cx} {K : PySem.W.Frag} (h : X.K = K) {k : Nat} (hr : Room k X.A) : CallR X (.builtin "sorted") (rSortI K) := by
  subst h
  intro pins s σ H vs us Q I r hh
  obtain ⟨a, ss, rfl, hs, q⟩ := hh
  have eS : (PySem.W.dataLe false PyData.int : Int → Int → Bool) = fun a b => decide (a ≤ b) := PySem.W.dataLe_int (fun x => x)
  refine VA.cr_sortedB V.int PyData.int hr pins s σ H [V.ref a] us Q I r ⟨a, ss, rfl, hs, fun b _ => .int b, ?_, ?_, ?_, fun p np => ?_⟩
  · intro d hd d' hd'
    obtain ⟨x, _, rfl⟩ := List.mem_map.mp hd
    obtain ⟨y, _, rfl⟩ := List.mem_map.mp hd'
    rfl
  · refine .inr fun d hd => ?_
    obtain ⟨x, _, rfl⟩ := List.mem_map.mp hd
    exact ⟨fun z => PyData.noConfusion z, fun xs z => PyData.noConfusion z⟩
  · intro b _
    show (0 : Nat) ≤ 8
    decide
  · rw [eS]
    exact q p np
theorem srtI_mem {l : List Int} {x : Int} : x ∈ srtI l ↔ x ∈ l := List.mem_mergeSort
theorem srtI_asc {l : List Int} (nd : l.Nodup) : (srtI l).Pairwise (· < ·) :=
  asc_of_sorted (lt := fun a b : Int => a < b) (fun a b h g => by omega) (fun a b => by
    show decide (a ≤ b) = !decide (b < a)
    by_cases h : a ≤ b
    · rw [decide_eq_true h, decide_eq_false (by omega)] <;> rfl
    · rw [decide_eq_false h, decide_eq_true (by omega)] <;> rfl) (fun a b c x y => Int.lt_trans x y) (fun a => Int.lt_irrefl a) nd
theorem ascI {l m : List Int} (hl : l.Pairwise (· < ·)) (hm : m.Pairwise (· < ·)) (h : ∀ x, x ∈ l ↔ x ∈ m) : l = m :=
  asc_unique (fun a => Int.lt_irrefl a) (fun a b c x y => Int.lt_trans x y) hl hm h
theorem ascI_nodup {l : List Int} (h : l.Pairwise (· < ·)) : l.Nodup := List.nodup_iff_pairwise_ne.mpr (h.imp fun z e => by omega)
/-- the states to which silent edges lead -/
inductive Rch (E : List Ed) (S : List Int) : Int → Prop
  | base {x : Int} : x ∈ S → Rch E S x
  | step {x y : Int} : Rch E S x → (x, ("tau" : Str), y) ∈ E → Rch E S y
/-- the closure of states, ascending -/
structure IsClo (E : List Ed) (S cs : List Int) : Prop where
  asc : cs.Pairwise (· < ·)
  mem : ∀ x, x ∈ cs ↔ Rch E S x
theorem Rch.imp {E E' : List Ed} {S S' : List Int} (hE : ∀ e, e ∈ E → e ∈ E') (hS : ∀ x, x ∈ S → x ∈ S') {x : Int} (h : Rch E S x) : Rch E' S' x := by
  induction h with
  | base h => exact .base (hS _ h)
  | step _ h ih => exact .step ih (hE _ h)
theorem IsClo.congr {E E' : List Ed} {S S' cs : List Int} (h : IsClo E S cs) (hE : ∀ e, e ∈ E ↔ e ∈ E') (hS : ∀ x, x ∈ S ↔ x ∈ S') : IsClo E' S' cs :=
  ⟨h.asc, fun x => (h.mem x).trans ⟨fun z => z.imp (fun e => (hE e).1) (fun x => (hS x).1), fun z => z.imp (fun e => (hE e).2) (fun x => (hS x).2)⟩⟩
theorem IsClo.uniq {E : List Ed} {S cs ds : List Int} (h : IsClo E S cs) (g : IsClo E S ds) : cs = ds := ascI h.asc g.asc fun x => (h.mem x).trans (g.mem x).symm
theorem Rch.range {E : List Ed} {S : List Int} {P : Int → Prop} (hE : ∀ e ∈ E, P e.2.2) (hS : ∀ x ∈ S, P x) {x : Int} (h : Rch E S x) : P x := by
  cases h with
  | base h => exact hS _ h
  | step _ h => exact hE _ h
end VQ

set_option Elab.async false
set_option linter.all false
set_option maxRecDepth 100000
set_option maxHeartbeats 4000000
namespace VR
open PySem PySem.Spec PyProof.Rows L2 LamX NdefX VB VM
/-- < of data -/
def rLtD (K : PySem.W.Frag) : R2 := fun x y H Q => ∃ d e, Dp K H x d ∧ Dp K H y e ∧ PySem.W.alike d e = true ∧ d ≠ .none ∧ d.depth ≤ 60 ∧ Q (.bl (PySem.W.dataLt d e)) H
theorem ltD {X : Cx} {K : PySem.W.Frag} (h : X.K = K) (hu : X.A.units + 65 < cLine) : OpR X (compareOp .Lt) (rLtD K) := by
  subst h
  intro pins s σ H x y v u Q I rx ry hh
  obtain ⟨d, e, hd, he, ha, hn, hdp, q⟩ := hh
  obtain ⟨as, r1⟩ := Dp.reads I d x v hd rx
  obtain ⟨bs, r2⟩ := Dp.reads I e y u he ry
  exact PySem.W.lt_data r1 r2 ha hn (by omega) ⟨.bl _, H, I, rfl, q⟩
/-- xs.index(x) of a tuple of texts -/
def rIxOf (K : PySem.W.Frag) : V → List V → Hp → VK → Prop := fun x xs H Q => ∃ (p : Addr) (ys : List Str) (z : Str) (j : Nat), x = .ref p ∧ xs = [.str z] ∧ SqT K H p (ys.map V.str) ∧ ys[j]? = some z ∧ (∀ m, m < j → ys[m]? ≠ some z) ∧ Q (.int (j : Nat)) H
theorem ixOf {X : Cx} {K : PySem.W.Frag} (h : X.K = K) : MtR X "tuple.index" (rIxOf K) := by
  subst h
  intro pins s σ H x xs v us Q I rx rs hh
  obtain ⟨p, ys, z, j, a, b, c, d, e, q⟩ := hh
  exact mt_tup_index pins s σ H x xs v us Q I rx rs ⟨p, ys, z, j, a, b, c, d, e, q⟩
/-- a written tuple without a dict -/
def tupN (K : PySem.W.Frag) (a : Addr) : Bool := match K.lookup a with
  | some ⟨.type c, none, .seq _ _, _⟩ => decide (c = "tuple")
  | _ => false
abbrev TupN (K : PySem.W.Frag) (a : Addr) : Prop := ∃ o, K.lookup a = some o ∧ o.cls = .type "tuple" ∧ o.dict = none
theorem tupN_ok {K : PySem.W.Frag} {a : Addr} (h : tupN K a = true) : TupN K a := by
  unfold tupN at h
  split at h
  · rename_i c its n sl q
    exact ⟨_, q, congrArg Value.type (of_decide_eq_true h), rfl⟩
  · cases h
end VR

set_option Elab.async false
set_option linter.all false
set_option maxRecDepth 100000
set_option maxHeartbeats 4000000
namespace VZ
open PySem PySem.Spec PyProof.Rows L2 LamX NdefX VB VM
/-! what is walked may be a list or a tuple -/
def iSeq (K : PySem.W.Frag) (tl : TE) : TI := fun σ H R => tl σ H fun x H1 => ∃ a, x = .ref a ∧ (((∃ xs, SqL K H1 a xs) ∧ R (Itl K a) H1) ∨ ((∃ xs, SqT K H1 a xs) ∧ R (Itt K a) H1))
theorem pi_seq {X : Cx} {K : PySem.W.Frag} {tg : Expr} (h : X.K = K) {l : Expr} {tl : TE} (hl : PE X l tl) : PI X tg l (iSeq K tl) := by
  subst h
  refine ⟨fun pins s σ H R I h => ?_⟩
  refine thn (hl.run pins s σ H _ I h) fun v s1 ⟨x, H1, I1, r1, q1⟩ => ?_
  obtain ⟨a, e, q⟩ := q1
  subst e
  cases r1
  rcases q with ⟨⟨xs, hq⟩, q⟩ | ⟨⟨xs, hq⟩, q⟩
  · obtain ⟨its, rv, p, hz⟩ := I1.list hq
    refine wpAny_pyIter_list p.isList ?_
    refine ⟨s1.heap.objs.size, [s1.heap.objs.size], _, _, H1, rfl, I1.kept (t' := s1.toks) fun b o e => Heap.get?_push_of_some _ e, turn_list a _, ⟨_, Heap.get?_push_size _ rfl, rfl, rfl⟩, fun b hb => ?_, q⟩
    have e : b = s1.heap.objs.size := by simpa using hb
    subst e
    exact I1.fpOk (Nat.le_refl _) (I1.hok.fresh (Nat.le_refl _))
  · obtain ⟨its, rv, p, hz⟩ := I1.tuple hq
    refine wpAny_pyIter_tuple (show s1.heap.IsTuple a its.toArray from p) ?_
    refine ⟨s1.heap.objs.size, [s1.heap.objs.size], _, _, H1, rfl, I1.kept (t' := s1.toks) fun b o e => Heap.get?_push_of_some _ e, turn_tuple a _, ⟨_, Heap.get?_push_size _ rfl, rfl, rfl⟩, fun b hb => ?_, q⟩
    have e : b = s1.heap.objs.size := by simpa using hb
    subst e
    exact I1.fpOk (Nat.le_refl _) (I1.hok.fresh (Nat.le_refl _))
theorem dc_list {K : PySem.W.Frag} {a : Addr} {xs : List V} {g : TG} {tt : TT} {tk tv : TE} {vs : List Nat} {σ : L2.St} {H1 : Hp} {D : Addr} {Qd : Hp → Prop} (Pv : Nat → Hp → Prop) (h0 : Pv 0 (upd H1 D (.dK []))) (hl : ∀ i H, i ≤ xs.length → Pv i H → SqL K H a xs)
    (hs : ∀ i x H, xs[i]? = some x → Pv i H → g x (wipe σ vs) H fun σ2 H2 => wipe σ2 vs = wipe σ vs ∧ tt σ2 H2 fun b H3 =>
      if b = true then tk σ2 H3 fun y H4 => tv σ2 H4 fun z H5 => ∃ kvs k, y = kV k ∧ H5 D = some (.dK kvs) ∧ kvs.length < sizeLine ∧ Pv (i + 1) (upd H5 D (.dK (putK kvs k z))) else Pv (i + 1) H3) (hd : ∀ H, Pv xs.length H → Qd H) :
    ∃ W : Nat → Nat → Hp → Prop, (∃ m, W 0 m (upd H1 D (.dK []))) ∧ ∀ i m H, W i m H →
      ((Itl K a).stop i H ∧ Qd H) ∨ ((Itl K a).go i H ∧ ∃ Nx : Hp → Prop, (∀ H', Nx H' → ∃ m', m' < m ∧ W (i + 1) m' H') ∧ ∀ x H', (Itl K a).yld i H x H' → g x (wipe σ vs) H' fun σ2 H2 => wipe σ2 vs = wipe σ vs ∧ tt σ2 H2 fun b H3 =>
        if b = true then tk σ2 H3 fun y H4 => tv σ2 H4 fun z H5 => ∃ kvs k, y = kV k ∧ H5 D = some (.dK kvs) ∧ kvs.length < sizeLine ∧ Nx (upd H5 D (.dK (putK kvs k z))) else Nx H3) := by
  refine ⟨fun i m H => m = xs.length - i ∧ i ≤ xs.length ∧ Pv i H, ⟨xs.length, by simp, Nat.zero_le _, h0⟩, ?_⟩
  rintro i m H ⟨rfl, hi, p⟩
  have q := hl i H hi p
  by_cases hlt : i < xs.length
  · refine .inr ⟨⟨xs, xs[i], q, by simp [hlt]⟩, Pv (i + 1), fun H' p' => ⟨xs.length - (i + 1), by omega, rfl, hlt, p'⟩, fun x H' y => ?_⟩
    obtain ⟨e, y⟩ := y
    subst e
    exact hs i x _ (y xs q) p
  · have e : i = xs.length := by omega
    subst e
    exact .inl ⟨⟨xs, q, Nat.le_refl _⟩, hd H p⟩
abbrev SqA (K : PySem.W.Frag) (H : Hp) (a : Addr) (xs : List V) : Prop := SqL K H a xs ∨ SqT K H a xs
theorem sqA_same {K : PySem.W.Frag} {H H' : Hp} {a : Addr} {xs : List V} (s : Same H H') (h : SqA K H a xs) : SqA K H' a xs := h.elim (fun z => .inl (s.seq z)) fun z => .inr (VB.Same.sqT s z)
/-- for over a list or a tuple that stands in H0 -/
theorem for_seq {K : PySem.W.Frag} {a : Addr} {xs : List V} {g : TG} {tb : TS} {D : Ends} {σ : L2.St} {H H0 : Hp} (hq : SqA K H0 a xs) (Pv : Nat → L2.St → Hp → Prop) (h0 : Pv 0 σ H) (s0 : Same H0 H) (hl : ∀ i σ H, Pv i σ H → Same H0 H)
    (hs : ∀ i x σ H, xs[i]? = some x → Pv i σ H → g x σ H fun σ2 H2 => tb { D with nx := Pv (i + 1), ct := Pv (i + 1), bk := D.nx } σ2 H2) (hd : ∀ σ H, Pv xs.length σ H → D.nx σ H) :
    (((∃ xs, SqL K H a xs) ∧ ∃ W : Nat → Nat → L2.St → Hp → Prop, (∃ m, W 0 m σ H) ∧ ∀ i m σ H, W i m σ H →
      ((Itl K a).stop i H ∧ D.nx σ H) ∨ ((Itl K a).go i H ∧ ∃ N : L2.St → Hp → Prop, (∀ σ' H', N σ' H' → ∃ m', m' < m ∧ W (i + 1) m' σ' H') ∧ ∀ x H', (Itl K a).yld i H x H' → g x σ H' fun σ2 H2 => tb { D with nx := N, ct := N, bk := D.nx } σ2 H2)) ∨
    ((∃ xs, SqT K H a xs) ∧ ∃ W : Nat → Nat → L2.St → Hp → Prop, (∃ m, W 0 m σ H) ∧ ∀ i m σ H, W i m σ H →
      ((Itt K a).stop i H ∧ D.nx σ H) ∨ ((Itt K a).go i H ∧ ∃ N : L2.St → Hp → Prop, (∀ σ' H', N σ' H' → ∃ m', m' < m ∧ W (i + 1) m' σ' H') ∧ ∀ x H', (Itt K a).yld i H x H' → g x σ H' fun σ2 H2 => tb { D with nx := N, ct := N, bk := D.nx } σ2 H2))) := by
  rcases hq with hq | hq
  · exact .inl ⟨⟨_, s0.seq hq⟩, for_list Pv h0 (fun i σ H _ p => (hl i σ H p).seq hq) hs hd⟩
  · exact .inr ⟨⟨_, VB.Same.sqT s0 hq⟩, for_tup Pv h0 (fun i σ H _ p => VB.Same.sqT (hl i σ H p) hq) hs hd⟩
/-- a list comprehension over it -/
theorem lc_seq {K : PySem.W.Frag} {a : Addr} {xs : List V} {g : TG} {tt : TT} {te : TE} {vs : List Nat} {σ : L2.St} {H1 H0 : Hp} {Qd : Addr → Hp → Prop} (hq : SqA K H0 a xs) (s0 : Same H0 H1) (Pv : Addr → Nat → Hp → Prop) (h0 : ∀ D, H1 D = none → Pv D 0 (upd H1 D (.lst []))) (hl : ∀ D i H, Pv D i H → Same H0 H)
    (hs : ∀ D, H1 D = none → ∀ i x H, xs[i]? = some x → Pv D i H → g x (wipe σ vs) H fun σ2 H2 => wipe σ2 vs = wipe σ vs ∧ tt σ2 H2 fun b H3 =>
      if b = true then te σ2 H3 fun y H4 => ∃ acc, H4 D = some (.lst acc) ∧ acc.length < sizeLine ∧ Pv D (i + 1) (upd H4 D (.lst (acc ++ [y]))) else Pv D (i + 1) H3) (hd : ∀ D, H1 D = none → ∀ H, Pv D xs.length H → Qd D H) :
    (((∃ xs, SqL K H1 a xs) ∧ ∀ D, H1 D = none → ∃ W : Nat → Nat → Hp → Prop, (∃ m, W 0 m (upd H1 D (.lst []))) ∧ ∀ i m H, W i m H →
      ((Itl K a).stop i H ∧ Qd D H) ∨ ((Itl K a).go i H ∧ ∃ Nx : Hp → Prop, (∀ H', Nx H' → ∃ m', m' < m ∧ W (i + 1) m' H') ∧ ∀ x H', (Itl K a).yld i H x H' → g x (wipe σ vs) H' fun σ2 H2 => wipe σ2 vs = wipe σ vs ∧ tt σ2 H2 fun b H3 =>
        if b = true then te σ2 H3 fun y H4 => ∃ acc, H4 D = some (.lst acc) ∧ acc.length < sizeLine ∧ Nx (upd H4 D (.lst (acc ++ [y]))) else Nx H3)) ∨
    ((∃ xs, SqT K H1 a xs) ∧ ∀ D, H1 D = none → ∃ W : Nat → Nat → Hp → Prop, (∃ m, W 0 m (upd H1 D (.lst []))) ∧ ∀ i m H, W i m H →
      ((Itt K a).stop i H ∧ Qd D H) ∨ ((Itt K a).go i H ∧ ∃ Nx : Hp → Prop, (∀ H', Nx H' → ∃ m', m' < m ∧ W (i + 1) m' H') ∧ ∀ x H', (Itt K a).yld i H x H' → g x (wipe σ vs) H' fun σ2 H2 => wipe σ2 vs = wipe σ vs ∧ tt σ2 H2 fun b H3 =>
        if b = true then te σ2 H3 fun y H4 => ∃ acc, H4 D = some (.lst acc) ∧ acc.length < sizeLine ∧ Nx (upd H4 D (.lst (acc ++ [y]))) else Nx H3))) := by
  rcases hq with hq | hq
  · exact .inl ⟨⟨_, s0.seq hq⟩, fun D nD => lc_list (Pv D) (h0 D nD) (fun i H _ p => (hl D i H p).seq hq) (hs D nD) (hd D nD)⟩
  · exact .inr ⟨⟨_, VB.Same.sqT s0 hq⟩, fun D nD => lc_tup (Pv D) (h0 D nD) (fun i H _ p => VB.Same.sqT (hl D i H p) hq) (hs D nD) (hd D nD)⟩
/-- a dict comprehension over it -/
theorem dc_seq {K : PySem.W.Frag} {a : Addr} {xs : List V} {g : TG} {tt : TT} {tk tv : TE} {vs : List Nat} {σ : L2.St} {H1 H0 : Hp} {Qd : Addr → Hp → Prop} (hq : SqA K H0 a xs) (s0 : Same H0 H1) (Pv : Addr → Nat → Hp → Prop) (h0 : ∀ D, H1 D = none → Pv D 0 (upd H1 D (.dK []))) (hl : ∀ D i H, Pv D i H → Same H0 H)
    (hs : ∀ D, H1 D = none → ∀ i x H, xs[i]? = some x → Pv D i H → g x (wipe σ vs) H fun σ2 H2 => wipe σ2 vs = wipe σ vs ∧ tt σ2 H2 fun b H3 =>
      if b = true then tk σ2 H3 fun y H4 => tv σ2 H4 fun z H5 => ∃ kvs k, y = kV k ∧ H5 D = some (.dK kvs) ∧ kvs.length < sizeLine ∧ Pv D (i + 1) (upd H5 D (.dK (putK kvs k z))) else Pv D (i + 1) H3) (hd : ∀ D, H1 D = none → ∀ H, Pv D xs.length H → Qd D H) :
    (((∃ xs, SqL K H1 a xs) ∧ ∀ D, H1 D = none → ∃ W : Nat → Nat → Hp → Prop, (∃ m, W 0 m (upd H1 D (.dK []))) ∧ ∀ i m H, W i m H →
      ((Itl K a).stop i H ∧ Qd D H) ∨ ((Itl K a).go i H ∧ ∃ Nx : Hp → Prop, (∀ H', Nx H' → ∃ m', m' < m ∧ W (i + 1) m' H') ∧ ∀ x H', (Itl K a).yld i H x H' → g x (wipe σ vs) H' fun σ2 H2 => wipe σ2 vs = wipe σ vs ∧ tt σ2 H2 fun b H3 =>
        if b = true then tk σ2 H3 fun y H4 => tv σ2 H4 fun z H5 => ∃ kvs k, y = kV k ∧ H5 D = some (.dK kvs) ∧ kvs.length < sizeLine ∧ Nx (upd H5 D (.dK (putK kvs k z))) else Nx H3)) ∨
    ((∃ xs, SqT K H1 a xs) ∧ ∀ D, H1 D = none → ∃ W : Nat → Nat → Hp → Prop, (∃ m, W 0 m (upd H1 D (.dK []))) ∧ ∀ i m H, W i m H →
      ((Itt K a).stop i H ∧ Qd D H) ∨ ((Itt K a).go i H ∧ ∃ Nx : Hp → Prop, (∀ H', Nx H' → ∃ m', m' < m ∧ W (i + 1) m' H') ∧ ∀ x H', (Itt K a).yld i H x H' → g x (wipe σ vs) H' fun σ2 H2 => wipe σ2 vs = wipe σ vs ∧ tt σ2 H2 fun b H3 =>
        if b = true then tk σ2 H3 fun y H4 => tv σ2 H4 fun z H5 => ∃ kvs k, y = kV k ∧ H5 D = some (.dK kvs) ∧ kvs.length < sizeLine ∧ Nx (upd H5 D (.dK (putK kvs k z))) else Nx H3))) := by
  rcases hq with hq | hq
  · exact .inl ⟨⟨_, s0.seq hq⟩, fun D nD => dc_list (Pv D) (h0 D nD) (fun i H _ p => (hl D i H p).seq hq) (hs D nD) (hd D nD)⟩
  · exact .inr ⟨⟨_, VB.Same.sqT s0 hq⟩, fun D nD => dc_tup (Pv D) (h0 D nD) (fun i H _ p => VB.Same.sqT (hl D i H p) hq) (hs D nD) (hd D nD)⟩
/-- y = {k: v for ..}, y a local of its own -/
theorem ps_setDc {X : Cx} {i : Nat} {y : Str} {py : Pos} {kx vx tg iter : Expr} {ifs : List Expr} {scope : Scope} {own : List (Str × Nat)} {pos spos : Pos} {wi : TI} {g : TG} {tt : TT} {tk tv : TE} (hc : X.calm = true) (hN : X.N.Nodup) (hy : X.N[i]? = some y) (hyl : X.env.scope.names.lookup y = some .local)
    (hsw : swapsWith (.DictComp kx vx [⟨tg, iter, ifs, 0⟩] scope pos) (some (.Name y py)) spos.line X.env = pure true) (hi : PI X tg iter wi) (ok : BlkOk X.N X.env.scope scope own)
    (hg : ∀ (s : Shared) (H : Hp) (C : Addr) (cl : List (Str × Addr)) (fp : List Addr), PG (X.blk s H scope (compEnvC scope cl C X.env) fp) tg g) (ht : ∀ (s : Shared) (H : Hp) (C : Addr) (cl : List (Str × Addr)) (fp : List Addr), PTs (X.blk s H scope (compEnvC scope cl C X.env) fp) ifs tt)
    (hk : ∀ (s : Shared) (H : Hp) (C : Addr) (cl : List (Str × Addr)) (fp : List Addr), PE (X.blk s H scope (compEnvC scope cl C X.env) fp) kx tk)
    (he : ∀ (s : Shared) (H : Hp) (C : Addr) (cl : List (Str × Addr)) (fp : List Addr), PE (X.blk s H scope (compEnvC scope cl C X.env) fp) vx tv) (hs : ∀ x, foldedSetIterable iter X.env x = pure x := by intro _; rfl) :
    PS X (.Assign [.Name y py] (.DictComp kx vx [⟨tg, iter, ifs, 0⟩] scope pos) spos) (tAsg (tDc wi g tt tk tv (own.map (·.2))) (gName i)) := by
  refine ⟨fun pins s σ H D I h => ?_⟩
  rw [exec_Assign_Name_used _ _ _ _ hsw]
  refine wpAny_bind (wpAny_standAt (wpAny_bind ?_))
  show wpAny _ X.A (do let _ ← comprehension (.DictComp kx vx [⟨tg, iter, ifs, 0⟩] scope pos) scope X.env (firstIterPos [⟨tg, iter, ifs, 0⟩] pos) newDict false (eval iter X.env) (some (assign (.Name y py) X.env))) _ _ s
  have h : tDc wi g tt tk tv (own.map (·.2)) σ H (fun x H1 => gName i x σ H1 D.nx) := h
  refine wpAny_bind (thn (dc_core (Qf := fun _ s' => SP X pins D .next s') hc hN I hi ok hg ht hk he hs h fun L C s' m H' I' q hn f => ?_) fun _ s' hq => wpAny_pure (wpAny_pure hq))
  show wpAny _ _ (assign (.Name y py) X.env (.ref L)) _ _ _
  refine wpAny_assign_Name (store_ok2 (v := V.ref L) I' hN hy (.inl hyl) rfl (fun s2 I2 ⟨a, sb, ha⟩ => ?_) (.inr hyl))
  obtain ⟨f0, f1, f2, f3, f4, f5⟩ := f
  have haC : C ≠ a := by
    rcases ha with z | z
    · rw [z]; exact f1
    · exact fun e => f4 y a z e.symm
  refine ⟨m, hn.sameBut sb haC, fun h3 sb3 => ?_⟩
  exact ⟨_, H', I2.turned (t' := s2.toks) (fun b o hb e => (sb3.2 b hb).trans e) f0 f1 f3 f4 f5, q⟩
theorem sw_trueD {kx vx : Expr} {gs : List Comprehension} {scope : Scope} {pos py : Pos} {y : Str} {l : Nat} {env : Env} (hk : env.scope.kind = .function) (hy : env.scope.names.lookup y = some .local) (hl : (py.line == pos.line) = true)
    (ha : (scope.names.any fun (n, k) => n == y && (k == .local || k == .cell)) = false) : swapsWith (.DictComp kx vx gs scope pos) (some (.Name y py)) l env = pure true := by
  have ky : env.kindOf y = some .local := hy
  have hb : env.blockKind = .function := by unfold Env.blockKind; rw [hk]; rfl
  unfold swapsWith
  simp only [hb, ky, ha, Expr.pos, hl]
  rfl
theorem putK_len {κ : Type} [DecidableEq κ] (c : List (κ × V)) (k : κ) (x : V) : (putK c k x).length ≤ c.length + 1 := by
  unfold putK
  by_cases e : (c.any fun kv => decide (kv.1 = k)) = true
  · rw [if_pos e, List.length_map]
    omega
  · rw [if_neg e, List.length_append, List.length_singleton]
    exact Nat.le_refl _
theorem catA {X : Cx} {K : PySem.W.Frag} (h : X.K = K) : OpR X (binaryOp .Add) (rCatA K) := by subst h; exact op_catA
end VZ

set_option Elab.async false
set_option linter.all false
set_option maxRecDepth 100000
set_option maxHeartbeats 4000000
namespace VD
open PySem PySem.W PySem.Calls PyProof.Rows PySem.SeqAt
/-! sorted of tuples some of which may be empty -/
section
variable {prog : Program} {w : World} {A : Around} {E : Value → Shared → Prop} {s : Shared}
theorem call_tuple_lt {Q : Value → Shared → Prop} {l b : Addr} {items items2 : Array Value} {e r : Nat → Bool} (hl : s.heap.IsTuple l items) (hb : s.heap.IsTuple b items2)
    (he : ∀ j (h1 : j < items.size) (h2 : j < items2.size), EqAt A.in1 s items[j] items2[j] (e j)) (hr : ∀ j (h1 : j < items.size) (h2 : j < items2.size), e j = false → RcLt A.in1 s items[j] items2[j] (r j))
    (h : Q (.bool (firstLt e r (decide (items.size < items2.size)) (List.range (min items.size items2.size)))) s) : wpAny (model prog w) A (call (.builtin "tuple.__lt__") [.ref l, .ref b]) Q E s := by
  obtain ⟨⟨cls, dd, data, sl⟩, ho, hc, n, hd⟩ := id hl
  obtain ⟨⟨cls2, dd2, data2, sl2⟩, ho2, hc2, n2, hd2⟩ := id hb
  simp only at hc hd hc2 hd2
  subst hc hd hc2 hd2
  exact call_meets F.slot_tuple_lt ⟨_, ho, rfl⟩ F.entry_tuple_lt (F.args_tuple_lt_2 _ _) (tuple_ltAt l b items items2 n n2 dd dd2 sl sl2 e r) ⟨ho, ho2, he, hr, h⟩
/-- one tuple against another, whatever the kind of the keys says -/
theorem oneLt_tups {f : Bool} {xs ys : List PyData} {a b : Value} {as bs : List Addr} {Q : Bool → Shared → Prop} (ra : Reads s.heap a (.tuple xs) as) (rb : Reads s.heap b (.tuple ys) bs) (h : alike (.tuple xs) (.tuple ys) = true)
    (hu : A.units + min (PyData.tuple xs).depth (PyData.tuple ys).depth < cLine) (hq : Q (dataLt (.tuple xs) (.tuple ys)) s) : wpAny (model prog w) A (oneLt' f a b) Q E s := by
  cases f with
  | false => exact oneLt_alike (fun z => nomatch z) ra rb h (fun z => nomatch z) hu hq
  | true =>
    have hal : alikeAll xs ys = true := by simpa [alike] using h
    cases ra with
    | @tuple l o vs n _ as₁ h1 h2 h3 h4 =>
      cases rb with
      | @tuple l' o' vs' n' _ bs₁ k1 k2 k3 k4 =>
        have n1 : vs.size = xs.length := by simpa using ReadsAll.length _ _ _ h4
        have n2 : vs'.size = ys.length := by simpa using ReadsAll.length _ _ _ k4
        rw [dataLt_tuple, ← firstLt_toks xs ys hal, ← n1, ← n2] at hq
        rw [oneLt'_eq]
        simp only [if_true]
        refine wpAny_bind (wpAny_cRoomFor (room_here hu) ?_)
        refine wpAny_bind (wpAny_callSpecialIfBound?_slot (T := "tuple") ⟨_, h1, h2⟩ F.slot_tuple_lt (call_tuple_lt (e := pairEq xs ys) (r := fun j => dataLt (xs.getD j .none) (ys.getD j .none)) ⟨_, h1, h2, _, h3⟩ ⟨_, k1, k2, _, k3⟩ (fun j j1 j2 => ?_) (fun j j1 j2 hj => ?_) ?_))
        · have := eqAt_alikeAll xs ys A.in1 s vs.toList vs'.toList _ _ h4 k4 hal (room_in hu) j (by simpa using j1) (by simpa using j2)
          simpa using this
        · have := rcLt_alikeAll xs ys A.in1 s vs.toList vs'.toList _ _ h4 k4 hal (room_in hu) j (by simpa using j1) (by simpa using j2) hj
          simpa using this
        · exact wpAny_truthy_bool hq
/-- the first items of tuples, those of empty ones left out -/
theorem each_firsts : ∀ {vs : List Value} {ds : List PyData} {Q : List (Option Value) → Shared → Prop}, EachIs (fun v d => ∃ as, Reads s.heap v d as) vs ds → (∀ d ∈ ds, ∃ xs, d = .tuple xs) →
    (∀ os : List (Option Value), os.length = ds.length → (∀ (i : Nat), os[i]? = some none ↔ ds[i]? = some (.tuple [])) → Q os s) → wpAny (model prog w) A (vs.mapM firstOfTuple') Q E s
  | _, _, _, .nil, _, h => by rw [List.mapM_nil]; exact wpAny_pure (h [] rfl (fun i => by simp))
  | _, _, Q, .cons (b := d) ⟨as, r⟩ t, ht, h => by
    obtain ⟨xs, rfl⟩ := ht d List.mem_cons_self
    rw [List.mapM_cons]
    refine wpAny_bind ?_
    cases r with
    | @tuple a o vs n _ _ ho hc hd hr =>
      rw [kas_first_eq]
      refine wpAny_bind (Looks.here (show Looks (model prog w) s.heap (typeOf (.ref a)) o.cls from (Looks.ld ho).andThen .now) ?_)
      rw [hc, if_neg (by first | decide | simp)]
      refine wpAny_bind (listItems_at ho hd (wpAny_pure ?_))
      refine wpAny_bind (each_firsts t (fun d hd => ht d (List.mem_cons_of_mem _ hd)) fun os l1 l2 => wpAny_pure (h _ (by rw [List.length_cons, List.length_cons, l1]) fun i => ?_))
      cases i with
      | zero =>
        have e : vs.toList.length = xs.length := ReadsAll.length _ _ _ hr
        rw [Array.length_toList] at e
        rw [List.getElem?_cons_zero, List.getElem?_cons_zero]
        constructor
        · intro z
          have y : vs[0]? = none := Option.some.inj z
          have y2 : vs.size = 0 := by
            rw [Array.getElem?_eq_none_iff] at y
            omega
          have : xs = [] := List.eq_nil_of_length_eq_zero (by omega)
          rw [this]
        · intro z
          have y : xs = [] := by
            have := Option.some.inj z
            injection this
          rw [y] at e
          have y2 : vs[0]? = none := by
            rw [Array.getElem?_eq_none_iff]
            rw [List.length_nil] at e
            omega
          rw [y2]
      | succ i =>
        rw [List.getElem?_cons_succ, List.getElem?_cons_succ]
        exact l2 i
/-- tuples that read as alike data can be sorted -/
theorem sortsT {vs : List Value} {ds : List PyData} (e : EachIs (fun v d => ∃ as, Reads s.heap v d as) vs ds) (hal : AllAlike ds) (ht : ∀ d ∈ ds, ∃ xs, d = .tuple xs) (hu : ∀ d, d ∈ ds → A.units + d.depth < cLine) : SortsAt prog w A s (dataKind s.heap ds) vs := by
  by_cases hne : ∀ d ∈ ds, ∃ x r, d = .tuple (x :: r)
  · exact SortsAt.data e hal (.inl hne) hu
  have hem : ∃ i : Nat, ds[i]? = some (.tuple []) := by
    refine Classical.byContradiction fun n => hne fun d hd => ?_
    obtain ⟨xs, rfl⟩ := ht d hd
    cases xs with
    | nil =>
      obtain ⟨i, hi, e⟩ := List.mem_iff_getElem.mp hd
      exact absurd ⟨i, by rw [List.getElem?_eq_getElem hi, e]⟩ n
    | cons x r => exact ⟨x, r, rfl⟩
  have room : ∀ {d d' : PyData}, d ∈ ds → A.units + min d.depth d'.depth < cLine := fun {d d'} hd => Nat.lt_of_le_of_lt (Nat.add_le_add_left (Nat.min_le_left _ _) _) (hu d hd)
  have lt : ∀ (f : Bool) (E : Value → Shared → Prop) (x y : Value) (a b : (dataKind s.heap ds).α) {Q : Bool → Shared → Prop}, (dataKind s.heap ds).keyOf x = some a → (dataKind s.heap ds).keyOf y = some b → Q ((dataKind s.heap ds).blt a b) s → wpAny (model prog w) A (oneLt' f x y) Q E s := by
    intro f E x y a b Q ha hb hq
    obtain ⟨d, as, hd, ra, rfl⟩ := dataKind_inv ha
    obtain ⟨d', as', hd', rb, rfl⟩ := dataKind_inv hb
    obtain ⟨xs, rfl⟩ := ht d hd
    obtain ⟨ys, rfl⟩ := ht d' hd'
    exact oneLt_tups ra rb (hal _ hd _ hd') (room hd) hq
  obtain ⟨i0, hi0⟩ := hem
  have lenE := e.length
  have ty : ∀ v ∈ vs, Looks (model prog w) s.heap (typeOf v) (Value.type "tuple") := fun v hv => by
    obtain ⟨d, hd, as, r⟩ := e.left v hv
    obtain ⟨xs, rfl⟩ := ht d hd
    exact looks_reads r
  refine ⟨fun v hv => ?_, ?_⟩
  · obtain ⟨d, hd, as, r⟩ := e.left v hv
    exact ⟨_, dataKind_some hal hd r⟩
  · by_cases h0 : ds[0]? = some (.tuple [])
    · refine ⟨oneType', fun E x y a b Q ha hb hq => lt true E x y a b ha hb hq, fun h2 E Q hq => ?_⟩
      rw [keyKind'_eq, List.mapM_toArray, map_eq_pure_bind]
      refine wpAny_bind (wpAny_bind (each_firsts e ht fun os l1 l2 => wpAny_pure ?_))
      have o0 : os[0]? = some none := (l2 0).2 h0
      have na : ¬ (os.toArray.all fun x => x.isSome) = true := by
        rw [List.all_toArray, List.all_eq_true]
        intro z
        have := z none (List.mem_of_getElem? o0)
        cases this
      rw [if_neg na, if_neg (by rw [List.getElem?_toArray, o0]; simp)]
      rw [oneTypeOnly'_eq, List.mapM_toArray, map_eq_pure_bind]
      refine wpAny_bind (wpAny_bind (wpAny_bind (kas_mapM (r := Value.type "tuple") _ (fun v hv Q' hq => (ty v hv).here hq) (wpAny_pure ?_))))
      have hall2 : ((List.map (fun _ => Value.type "tuple") vs).toArray.all fun x => x == Value.type "tuple") = true := by
        simp only [List.all_toArray, List.all_map, List.all_eq_true]
        intro _ _
        exact beq_self_eq_true _
      have h00 : (List.map (fun _ => Value.type "tuple") vs).toArray[0]? = some (Value.type "tuple") := by
        cases vs with
        | nil => simp at h2
        | cons v vs => simp
      rw [h00]
      simp only [hall2, if_true]
      exact wpAny_pure (wpAny_pure hq)
    · refine ⟨general', fun E x y a b Q ha hb hq => lt false E x y a b ha hb hq, fun h2 E Q hq => ?_⟩
      rw [keyKind'_eq, List.mapM_toArray, map_eq_pure_bind]
      refine wpAny_bind (wpAny_bind (each_firsts e ht fun os l1 l2 => wpAny_pure ?_))
      have oi : os[i0]? = some none := (l2 i0).2 hi0
      have na : ¬ (os.toArray.all fun x => x.isSome) = true := by
        rw [List.all_toArray, List.all_eq_true]
        intro z
        have := z none (List.mem_of_getElem? oi)
        cases this
      have o0 : ∃ f, os[0]? = some (some f) := by
        have lt0 : 0 < os.length := by omega
        cases q : os[0]? with
        | none =>
          rw [List.getElem?_eq_none_iff] at q
          omega
        | some o =>
          cases o with
          | none => exact absurd ((l2 0).1 q) h0
          | some f => exact ⟨f, rfl⟩
      obtain ⟨f, o0⟩ := o0
      rw [if_neg na, if_pos (by rw [List.getElem?_toArray, o0]; simp)]
      exact wpAny_pure hq
variable {β : Type} {enc : β → PyData} {R : Value → β → Prop} {vs : List Value} {bs : List β}
theorem sorted_dataT {l : Addr} {Q : Value → Shared → Prop} (hl : s.heap.IsList l vs.toArray) (e : EachIs R vs bs) (er : EachIs (fun v b => ∃ as, Reads s.heap v (enc b) as) vs bs) (hal : AllAlike (bs.map enc)) (hk : ∀ d ∈ bs.map enc, ∃ xs, d = .tuple xs) (hL : bs.length ≤ sizeLine)
    (hu : ∀ b, b ∈ bs → A.units + 2 + (enc b).depth < cLine) (h : ∀ out, out.length = bs.length → EachIs R out (bs.mergeSort (dataLe false enc)) → Q (.ref (s.heap.objs.size + 1)) { s with heap := sortedAll s.heap vs (List.toArray out) }) :
    wpAny (model prog w) A (call (.builtin "sorted") [.ref l]) Q E s := by
  have er' : EachIs (fun v b => ∃ as, Reads (sortingHeap (copyHeap s.heap vs) (s.heap.objs.size + 1) vs) v (enc b) as) vs bs := er.mono fun _ _ ⟨as, r⟩ => ⟨as, PyProof.Rows.Reads.keeps (fun _ _ => sorting_copy_old) r⟩
  exact sorted_vals hl (sortsT (s := { s with heap := sortingHeap (copyHeap s.heap vs) (s.heap.objs.size + 1) vs }) (each_map (R := fun v d => ∃ as, Reads (sortingHeap (copyHeap s.heap vs) (s.heap.objs.size + 1) vs) v d as) enc er') hal hk (bound_map hu)) (by rw [e.length]; exact hL)
    (h _ (by rw [sortVals_length false rfl]; exact e.length) (sortVals_data false e er' hal))
theorem list_sort_dataT {a : Addr} {n : Nat} {Q : Value → Shared → Prop} (ho : s.heap.get? a = some (seqObj "list" vs.toArray n)) (e : EachIs R vs bs) (er : EachIs (fun v b => ∃ as, Reads s.heap v (enc b) as ∧ a ∉ as) vs bs) (hal : AllAlike (bs.map enc)) (hk : ∀ d ∈ bs.map enc, ∃ xs, d = .tuple xs) (hL : bs.length ≤ sizeLine)
    (hu : ∀ b, b ∈ bs → A.units + 1 + (enc b).depth < cLine) (h : ∀ out, out.length = bs.length → EachIs R out (bs.mergeSort (dataLe false enc)) → Q .none { s with heap := sortedHeap s.heap a vs (List.toArray out) }) :
    wpAny (model prog w) A (call (.builtin "list.sort") [.ref a]) Q E s := by
  have er' : EachIs (fun v b => ∃ as, Reads (sortingHeap s.heap a vs) v (enc b) as) vs bs := each_keepBut (h' := sortingHeap s.heap a vs) (fun _ _ hb q => sortingHeap_old hb q) (fun o q => by rw [ho] at q; rw [← Option.some.inj q]) hal er
  refine wpAny_call_entry slot_list_sort ⟨_, ho, rfl⟩ entry_list_sort (list_sort_vals (κ := dataKind (sortingHeap s.heap a vs) (bs.map enc)) ho (sortsT (s := { s with heap := sortingHeap s.heap a vs }) (each_map (R := fun v d => ∃ as, Reads (sortingHeap s.heap a vs) v d as) enc er') hal hk (bound_map hu)) (by rw [e.length]; exact hL) ⟨.none, rfl, ?_⟩) (args_list_sort _)
  exact h _ (by rw [sortVals_length false rfl]; exact e.length) (sortVals_data false e er' hal)
end
end VD
namespace VT
open PySem PySem.Spec PyProof.Rows L2 VD
section
variable {X : Cx} {P : Program} {w : World}
/-- sorted of a set of tuples, the empty one too -/
def rSortTE (P : Program) (w : World) (K : PySem.W.Frag) : List V → Hp → VK → Prop := fun vs H Q => ∃ (a : Addr) (L : List (Addr × List Key)), vs = [V.ref a] ∧ H a = some (SetKO P w a L) ∧ (∀ p ∈ L, SqT K H p.1 (p.2.map kV)) ∧
  PySem.W.AllAlike (L.map fun p => keysD p.2) ∧ ∀ (L' : List (Addr × List Key)) (p : Addr), L'.Perm L → H p = none → Q (.ref p) (upd H p (.lst ((L'.mergeSort leK).map fun q => V.ref q.1)))
theorem cr_sortTE {K : PySem.W.Frag} (hK : X.K = K) (hP : X.prog = P) (hw : X.w = w) {k : Nat} (hc : X.calm = true) (hr : Room k X.A) : CallR X (.builtin "sorted") (rSortTE P w K) := by
  subst hK
  subst hP
  subst hw
  intro pins s σ H vs us Q I r h
  obtain ⟨a, L, rfl, ha, hk, hal, q⟩ := h
  have M0 : BareK (tupM (mixKind X.prog X.w)) s.heap a L := (I.hok a _ ha).1
  obtain ⟨o, es, ep, t, ho, hx, hd, R, room, few⟩ := M0.full fun p hp => inv_tuple I (hk p hp)
  rw [Vals.ref1 r]
  have hun := hr.un
  refine Calls.call_function_entry kind_sorted plain_sorted entry_sorted (args_sorted1 _) ?_
  unfold Builtin.«sorted»
  refine wpAny_bind (m := checkCount "sorted" 1 1 _) (wpAny_pure ?_)
  refine wpAny_bind (collect_set (A := X.A.in1) (I.ok.hd hc) ⟨o, ho, hx.1, hd⟩ (R.fits (by omega)) (by rw [R.size]; exact Nat.lt_of_lt_of_le few (by decide)) R.tab.ris R.led fun s1 us1 k1 hz g1 o1 pm => ?_)
  have pm2 : us1.Perm (L.map fun p => Value.ref p.1) := by
    rw [R.rows, List.map_map] at pm
    exact pm
  obtain ⟨L', pl, rfl⟩ := perm_lift pm2
  have len : L'.length = L.length := pl.length_eq
  have lim : (L'.map fun p => Value.ref p.1).length ≤ sizeLine := by rw [List.length_map, len, sizeLine_eq]; omega
  refine wpAny_bind (wpAny_newList ?_ lim)
  have hoL : (s1.heap.push (seqObj "list" (L'.map fun p => Value.ref p.1).toArray 0)).get? s1.heap.objs.size = some (seqObj "list" (L'.map fun p => Value.ref p.1).toArray 0) := Heap.get?_push_size _ rfl
  refine wpAny_bind (wpAny_holding (list_sort_dataT (enc := fun p : Addr × List Key => keysD p.2) (bs := L') (R := fun (u : Value) (p : Addr × List Key) => u = Value.ref p.1) hoL (each_refs L') ?_ ?_ ?_ (by rw [len, sizeLine_eq]; omega) ?_ fun out lo eo => ?_))
  · have go : ∀ l : List (Addr × List Key), (∀ p ∈ l, p ∈ L) → PySem.W.EachIs (fun (u : Value) (p : Addr × List Key) => ∃ as, Reads (s1.heap.push (seqObj "list" (L'.map fun p => Value.ref p.1).toArray 0)) u (keysD p.2) as ∧ s1.heap.objs.size ∉ as) (l.map fun p => Value.ref p.1) l := by
      intro l
      induction l with
      | nil => intro _; exact .nil
      | cons p l ih =>
        intro hl
        refine .cons ⟨[], tuple_read (tuple_keep (R.mem p (hl p List.mem_cons_self)) fun b o e => Heap.get?_push_of_some _ (k1 b o e)), by simp⟩ (ih fun q hq => hl q (List.mem_cons_of_mem _ hq))
    exact go L' fun p hp => pl.mem_iff.mp hp
  · intro d hd' d' hd''
    refine hal d ?_ d' ?_
    · exact (pl.map _).mem_iff.mp hd'
    · exact (pl.map _).mem_iff.mp hd''
  · intro d hd'
    obtain ⟨p, hp, rfl⟩ := List.mem_map.mp hd'
    exact ⟨_, rfl⟩
  · intro p hp
    show X.A.units + 1 + 1 + (keysD p.2).depth < cLine
    rw [keys_depth]
    omega
  · obtain ⟨c, hc'⟩ := sortedHeap_at (vs := L'.map fun p => Value.ref p.1) (out := out.toArray) hoL
    have kp : ∀ b u, s.heap.get? b = some u → (PyProof.Rows.sortedHeap (s1.heap.push (seqObj "list" (L'.map fun p => Value.ref p.1).toArray 0)) s1.heap.objs.size (L'.map fun p => Value.ref p.1) out.toArray).get? b = some u := by
      intro b u e
      have hlt := Heap.lt_size (k1 b u e)
      rw [sortedHeap_old (Nat.ne_of_lt hlt) (by rw [size_push']; exact Nat.lt_succ_of_lt hlt)]
      exact Heap.get?_push_of_some _ (k1 b u e)
    have fr : H s1.heap.objs.size = none := I.hok.fresh hz
    have rv : Vals ((L'.mergeSort leK).map fun p => V.ref p.1) out := each_out eo
    have J : Inv X pins σ (upd H s1.heap.objs.size (.lst ((L'.mergeSort leK).map fun p => V.ref p.1)))
        { s with heap := PyProof.Rows.sortedHeap (s1.heap.push (seqObj "list" (L'.map fun p => Value.ref p.1).toArray 0)) s1.heap.objs.size (L'.map fun p => Value.ref p.1) out.toArray, gens := s1.gens, drawn := s1.drawn, toks := s1.toks } :=
      I.call (ch := []) (Un.laid kp hz fr) (I.hok.laid kp hz ⟨by rw [List.length_map, List.length_mergeSort, len, sizeLine_eq]; omega, out, c, rv, hc'⟩) (by rw [g1]; exact I.bare) (fun _ z => nomatch z)
    refine wpAny_pure ⟨_, rfl, ?_⟩
    rw [show ({ s1 with heap := PyProof.Rows.sortedHeap (s1.heap.push (seqObj "list" (L'.map fun p => Value.ref p.1).toArray 0)) s1.heap.objs.size (L'.map fun p => Value.ref p.1) out.toArray } : Shared) =
        { s with heap := PyProof.Rows.sortedHeap (s1.heap.push (seqObj "list" (L'.map fun p => Value.ref p.1).toArray 0)) s1.heap.objs.size (L'.map fun p => Value.ref p.1) out.toArray, gens := s1.gens, drawn := s1.drawn, toks := s1.toks } by rw [← o1]]
    exact ⟨.ref _, _, J, rfl, q L' _ pl fr⟩
end
end VT
namespace VD
open PySem PySem.Spec PyProof.Rows L2 LamX NdefX
/-- sorted of a list of tuples, the empty one too -/
def rSortedU {β : Type} (K : PySem.W.Frag) (emb : β → V) (enc : β → PyData) : List V → Hp → VK → Prop := fun vs H Q =>
  ∃ (a : Addr) (bs : List β), vs = [V.ref a] ∧ SqL K H a (bs.map emb) ∧ (∀ b ∈ bs, Dp K H (emb b) (enc b)) ∧
    PySem.W.AllAlike (bs.map enc) ∧ (∀ d ∈ bs.map enc, ∃ xs, d = .tuple xs) ∧ (∀ b ∈ bs, (enc b).depth ≤ 8) ∧
    ∀ p : Addr, H p = none → Q (.ref p) (upd H p (.lst ((bs.mergeSort (PySem.W.dataLe false enc)).map emb)))
section
variable {X : Cx}
theorem cr_sortedU {β : Type} {k : Nat} (emb : β → V) (enc : β → PyData) (hr : Room k X.A) : CallR X (.builtin "sorted") (rSortedU X.K emb enc) := by
  intro pins s σ H vs us Q I r h
  obtain ⟨a, bs, rfl, hs, hd, hal, hk, hdp, q⟩ := h
  obtain ⟨its, rv, hl, hz⟩ := I.list hs
  rw [Vals.ref1 r]
  have hun := hr.un
  have hlen : bs.length ≤ sizeLine := by rw [List.length_map] at hz; exact hz
  refine sorted_dataT (R := fun u b => RelV (emb b) u) hl.isList (VA.each_vals emb rv) (VA.each_reads I emb enc hd rv) hal hk hlen
    (fun b hb => by have := hdp b hb; omega) fun out ho he => ?_
  obtain ⟨ep, he'⟩ := PyProof.Rows.sortedAll_at s.heap its out.toArray
  have hl2 : ((bs.mergeSort (PySem.W.dataLe false enc)).map emb).length ≤ sizeLine := by
    rw [List.length_map, List.length_mergeSort]; exact hlen
  exact ⟨.ref _, upd H (s.heap.objs.size + 1) (.lst ((bs.mergeSort (PySem.W.dataLe false enc)).map emb)),
    I.laid (t' := s.toks) (fun _ _ => PyProof.Rows.sortedAll_old) (Nat.le_succ _) ⟨hl2, out, ep, VA.vals_each emb he, he'⟩, rfl, q _ (I.hok.fresh (Nat.le_succ _))⟩
end
theorem sortedU {β : Type} {X : Cx} {K : PySem.W.Frag} (h : X.K = K) {k : Nat} (emb : β → V) (enc : β → PyData) (hr : Room k X.A) : CallR X (.builtin "sorted") (rSortedU K emb enc) := by subst h; exact cr_sortedU emb enc hr
/-! walks told with the written part by its name (within a comprehension of a comprehension) -/
theorem piL {X : Cx} {K : PySem.W.Frag} {tg : Expr} (h : X.K = K) {l : Expr} {tl : TE} (hl : PE X l tl) : PI X tg l (iList K tl) := by subst h; exact pi_list hl
theorem piT {X : Cx} {K : PySem.W.Frag} {tg : Expr} (h : X.K = K) {l : Expr} {tl : TE} (hl : PE X l tl) : PI X tg l (iTup K tl) := by subst h; exact pi_tup hl
end VD

set_option Elab.async false
set_option linter.all false
set_option maxRecDepth 100000
set_option maxHeartbeats 4000000
namespace VI
open PySem PySem.Spec PyProof.Rows L2 LamX NdefX VB VM
/-! enumerate of a tuple -/
/-- pairs of a number and an item of the tuple at a, the numbers from c on -/
def Itn (K : PySem.W.Frag) (c : Int) (a : Addr) : It where
  go := fun i H => ∃ (xs : List V) (x : V), SqT K H a xs ∧ xs[i]? = some x
  yld := fun i H v H' => ∃ T x, v = .ref T ∧ H T = none ∧ H' = upd H T (.tup [.int (c + (i : Nat)), x]) ∧ ∀ xs, SqT K H a xs → xs[i]? = some x
  stop := fun i H => ∃ xs : List V, SqT K H a xs ∧ xs.length ≤ i
theorem turnN {P : Program} {w : World} {K : PySem.W.Frag} {elts : List Expr} {kk : Nat} {tpos : Pos} (c : Int) {a e it : Addr} (eit : e ≠ it) (ea : e ≠ a) (ait : a ≠ it) :
    Turn P w K (.Tuple elts kk tpos) (Itn K c a) [e, it] e (fun i h => (∃ old, IsEnum h e it (c + ((i : Nat) : Int)) old) ∧ h.IsTupleIter it a i) where
  mem := List.mem_cons_self
  obj := fun i h ⟨⟨old, he⟩, o, ho, oc, od⟩ b hb => by
    rcases List.mem_cons.mp hb with z | z
    · exact ⟨_, z ▸ he, fun v q => by cases q⟩
    · exact ⟨o, List.mem_singleton.mp z ▸ ho, fun v q => by rw [od] at q; cases q⟩
  keep := fun i h h' ⟨⟨old, he⟩, st⟩ k => ⟨⟨old, k e List.mem_cons_self _ he⟩, st.at fun o q => k it (List.mem_cons_of_mem _ List.mem_cons_self) o q⟩
  item := by
    rintro X rfl rfl rfl hc i pins s σ H E I hf ⟨⟨old, he⟩, hit⟩ ⟨xs, x, hq, hx⟩
    obtain ⟨its, rv, pT, hz⟩ := I.tuple hq
    obtain ⟨u, hu, ru⟩ := rv.get hx
    have lt : i < its.toArray.size := by
      rw [List.size_toArray]
      exact (List.getElem?_eq_some_iff.mp hu).1
    have pT' : s.heap.IsTuple a its.toArray := pT
    have lte := Heap.lt_size he
    have ltit : it < s.heap.objs.size := let ⟨_, q, _⟩ := hit; Heap.lt_size q
    refine wpAny_pyNext_enum_itemC (D := Draws.tuple (prog := X.prog) (w := X.w) (A := X.A.in1) (I.ok.hd hc) it a ait its.toArray) he ⟨hit, pT'⟩ lt eit (by simp [eit, ea]) fun y h1 tk py ho st1 hT hsz hk => ?_
    obtain rfl : u = y := by
      have z : its.toArray[i]? = some y := py
      rw [List.getElem?_toArray, hu] at z
      exact Option.some.inj z
    refine ⟨_, rfl, wpAny_letOwnedTupleGo_enum (s := { s with heap := h1, toks := tk + 1 }) ho fun h2 he2 sb => ?_⟩
    have hT2 := (sb.2 _ (Nat.ne_of_gt lte)).trans hT
    have new : ObjOk X.prog X.w (upd H s.heap.objs.size (.tup [.int (c + (i : Nat)), x])) h2 s.heap.objs.size (.tup [.int (c + (i : Nat)), x]) :=
      ⟨by show 2 ≤ sizeLine; decide, [.int (c + (i : Nat)) tk, u], .cons ⟨_, rfl⟩ (.cons ru .nil), ⟨_, hT2, rfl, _, rfl⟩⟩
    have I1 : Inv X pins σ (upd H s.heap.objs.size (.tup [.int (c + (i : Nat)), x])) { s with heap := h2, toks := tk + 1 } := by
      refine I.turnedNew (ch := [e, it]) (fun b ob hb q => ?_) hf (Nat.le_refl _) new
      have n1 : b ≠ e := fun z => hb (z ▸ List.mem_cons_self)
      have n2 : b ≠ it := fun z => hb (z ▸ List.mem_cons_of_mem _ List.mem_cons_self)
      exact (sb.2 b n1).trans (hk b ob n1 n2 q)
    refine ⟨.ref s.heap.objs.size, _, I1, rfl, ⟨_, x, rfl, I.hok.fresh (Nat.le_refl _), rfl, fun ys hy => by rw [I.tuple_inj hy hq]; exact hx⟩, ⟨⟨u, ?_⟩, st1.1.at fun o q => (sb.2 it (Ne.symm eit)).trans q⟩, fun b hb => ?_⟩
    · rw [show c + ((i + 1 : Nat) : Int) = c + (i : Int) + 1 by omega]
      exact he2
    · have lb : b < s.heap.objs.size := by
        rcases List.mem_cons.mp hb with z | z
        · rw [z]; exact lte
        · rw [List.mem_singleton.mp z]; exact ltit
      rw [upd_ne (Nat.ne_of_lt lb)]
      exact (hf b hb).1
  done := by
    rintro X rfl rfl rfl hc i pins s σ H E I hf ⟨⟨old, he⟩, hit⟩ ⟨xs, hq, hx⟩
    obtain ⟨its, rv, pT, hz⟩ := I.tuple hq
    obtain ⟨f0, f1, f2, f3, f4, f5⟩ := hf it (List.mem_cons_of_mem _ List.mem_cons_self)
    have hl := rv.length
    have pT' : s.heap.IsTuple a its.toArray := pT
    have D := Draws.tuple (prog := X.prog) (w := X.w) (A := X.A.in1) (I.ok.hd hc) it a ait its.toArray
    have hst : s.heap.IsTupleIter it a its.toArray.size → s.heap.IsTupleIter it a its.toArray.size ∧ s.heap.IsTuple a its.toArray := fun z => ⟨z, pT'⟩
    have hT : s.TypeIs (.ref e) "enumerate" := ⟨_, he, rfl⟩
    unfold pyNext
    refine wpAny_bind (wpAny_attempt (wpAny_callSpecial?_slot (name := Str.ofString "__next__") hT F.slot_enumerate_next
      (wpAny_call_entry F.slot_enumerate_next hT F.entry_enumerate_next ?_ (F.args_enumerate_next_1 _))))
    refine wpAny_bind (m := field (.ref e) 2) (wpAny_field he rfl (x := .ref it) rfl ?_)
    refine wpAny_bind (wpAny_nextOf_tuple_end (I.ok.hd hc) hit pT' (by rw [List.getElem?_toArray]; exact List.getElem?_eq_none (by omega)) fun h' y eb hy => ?_)
    obtain ⟨o, ho, hcl⟩ := hy
    refine wpAny_bind (wpAny_isInstance (T := "StopIteration") (b := true) ⟨o, ho, hcl⟩ isSubtype_stop ?_)
    exact wpAny_pure ⟨rfl, I.turned (t' := s.toks) (fun b o hb q => eb b o hb q) f0 f1 f3 f4 f5⟩
  self := fun A i s Q E ⟨⟨_, he⟩, _⟩ h => wpAny_pyIter_enum he h
set_option maxHeartbeats 1000000 in
/-- enumerate.__new__ with one argument, of whatever begins an iterator -/
theorem newE {v : Value} {o : Obj} {B : Heap → Prop} (b : Begins v o B) :
    Meets (Builtin.«enumerate.__new__» ⟨[.type "enumerate", v], []⟩) (fun _ R s => B s.heap ∧
      R (.ok (.ret (.ref (s.heap.push o).objs.size))) { s with heap := (s.heap.push o).push { cls := .type "enumerate", data := .fields #[.none, .bool false, .ref s.heap.objs.size, rawInt 0, .none, .none] } }) :=
  .of_wp fun prog w A R s h => by
    obtain ⟨hp, g, d, tk, os⟩ := s
    obtain ⟨hB, h⟩ := h
    have hsub := sub_enumerate
    have it1 : ∀ {A' : Around} {E Q : Value → Shared → Prop}, Q (.ref hp.objs.size) ⟨hp.push o, g, d, tk, os⟩ → wpAny (model prog w) A' (pyIter v) Q E ⟨hp, g, d, tk, os⟩ := fun q => b.iter prog w _ _ _ _ hB q
    wp_walk using it1
    refine wpAny_stack_any fun st => wpAny_pure ?_
    split
    · rename_i c _ _ _ _ _
      cases (c == Value.type "enumerate") <;> (wp_walk using it1; exact ⟨_, rfl, h⟩)
    · wp_walk using it1
      exact ⟨_, rfl, h⟩
theorem callE {prog : Program} {w : World} {A : Around} {E : Value → Shared → Prop} {s : Shared} {v : Value} {o : Obj} {B : Heap → Prop} {Q : Value → Shared → Prop} (b : Begins v o B) (hB : B s.heap)
    (h : ∀ h', IsEnum h' (s.heap.objs.size + 1) s.heap.objs.size 0 .none → h'.get? s.heap.objs.size = some o → h'.objs.size = s.heap.objs.size + 2 → (∀ c u, s.heap.get? c = some u → h'.get? c = some u) → Q (.ref (s.heap.objs.size + 1)) { s with heap := h' }) :
    wpAny (model prog w) A (call (.type "enumerate") [v]) Q E s := by
  refine callType_new F.called_enumerate (by decide) (F.typeCall_enumerate_1 _) (F.newCall_enumerate_1 _) (fun obj => F.args_object_init_2 obj _) F.entry_enumerate_new (newE b) ⟨hB, ?_⟩
  have z1 : (s.heap.push o).objs.size = s.heap.objs.size + 1 := Heap.size_push ..
  have z2 := Heap.get?_push_size (s.heap.push o) (o := { cls := .type "enumerate", data := .fields #[.none, .bool false, .ref s.heap.objs.size, rawInt 0, .none, .none] }) rfl
  show _ ∧ _
  rw [z1] at z2 ⊢
  exact ⟨⟨_, z2, rfl⟩, h _ z2 (Heap.get?_push_of_some _ (Heap.get?_push_size _ b.free)) (by rw [Heap.size_push, z1]) fun c u x => Heap.get?_push_of_some _ (Heap.get?_push_of_some _ x)⟩
def iEnT (K : PySem.W.Frag) (ta : TA) : TI := fun σ H R => ta σ H fun vs H1 => ∃ a xs, vs = [.ref a] ∧ SqT K H1 a xs ∧ R (Itn K 0 a) H1
theorem pi_enT {X : Cx} {K : PySem.W.Frag} (hK : X.K = K) {e : Expr} {ta : TA} {p pos tpos : Pos} {elts : List Expr} {kk : Nat} (hg : Gl X "enumerate") (hm : X.mg "enumerate" = none) (ha : PA X [e] ta) (hs : starEach [e] X.env = [(false, eval e X.env)] := by rfl) :
    PI X (.Tuple elts kk tpos) (.Call (.Name "enumerate" p) [e] [] pos) (iEnT K ta) := by
  subst hK
  refine ⟨fun pins s σ H R I h => ?_⟩
  refine Call_ (ld_blt I hg hm boot_enumerate (PyProof.Rows.callWith_type1 (thn (ha.run pos pins s σ H _ I h) fun us s1 ⟨vs, H1, I1, r1, a, xs, ex, hq, q⟩ => ?_) hs rfl))
  subst ex
  obtain ⟨u, rfl, ru⟩ := r1.one
  cases ru
  obtain ⟨its, rv, pT, hz⟩ := I1.tuple hq
  have pT' : s1.heap.IsTuple a its.toArray := pT
  have la : a < s1.heap.objs.size := let ⟨_, z, _⟩ := pT'; Heap.lt_size z
  refine callE (begins_tuple a its.toArray) pT' fun h' he hit hsz hk => wpAny_pyIter_enum he ?_
  have I2 : Inv X pins σ H1 { s1 with heap := h' } := I1.kept (t' := s1.toks) hk
  refine ⟨s1.heap.objs.size + 1, [s1.heap.objs.size + 1, s1.heap.objs.size], _, _, H1, rfl, I2, turnN 0 (a := a) (e := s1.heap.objs.size + 1) (it := s1.heap.objs.size) (Nat.succ_ne_self _) (Nat.ne_of_gt (Nat.lt_succ_of_lt la)) (Nat.ne_of_lt la), ⟨⟨.none, he⟩, ⟨_, hit, rfl, rfl⟩⟩, fun b hb => ?_, q⟩
  have le : s1.heap.objs.size ≤ b := by
    rcases List.mem_cons.mp hb with z | z
    · rw [z]; omega
    · rw [List.mem_singleton.mp z]; exact Nat.le_refl _
  exact I1.fpOk le (I1.hok.fresh le)
/-- a walk over enumerate of a tuple -/
theorem for_en {K : PySem.W.Frag} {c : Int} {a : Addr} {xs : List V} {g : TG} {tb : TS} {D : Ends} {σ : L2.St} {H : Hp} (Pv : Nat → L2.St → Hp → Prop) (h0 : Pv 0 σ H) (hl : ∀ i σ H, i ≤ xs.length → Pv i σ H → SqT K H a xs)
    (hs : ∀ i x σ H, xs[i]? = some x → Pv i σ H → ∀ T, H T = none → g (.ref T) σ (upd H T (.tup [.int (c + (i : Nat)), x])) fun s2 H2 => tb { D with nx := Pv (i + 1), ct := Pv (i + 1), bk := D.nx } s2 H2) (hd : ∀ σ H, Pv xs.length σ H → D.nx σ H) :
    ∃ W : Nat → Nat → L2.St → Hp → Prop, (∃ m, W 0 m σ H) ∧ ∀ i m σ H, W i m σ H → ((Itn K c a).stop i H ∧ D.nx σ H) ∨
      ((Itn K c a).go i H ∧ ∃ N : L2.St → Hp → Prop, (∀ s' H', N s' H' → ∃ m', m' < m ∧ W (i + 1) m' s' H') ∧ ∀ x H', (Itn K c a).yld i H x H' → g x σ H' fun s2 H2 => tb { D with nx := N, ct := N, bk := D.nx } s2 H2) := by
  refine ⟨fun i m σ H => m + i = xs.length ∧ Pv i σ H, ⟨xs.length, rfl, h0⟩, fun i m σ H ⟨e, p⟩ => ?_⟩
  have q := hl i σ H (by omega) p
  cases m with
  | zero =>
    have e2 : i = xs.length := by omega
    subst e2
    exact .inl ⟨⟨xs, q, Nat.le_refl _⟩, hd _ _ p⟩
  | succ m =>
    have lt : i < xs.length := by omega
    refine .inr ⟨⟨xs, xs[i], q, List.getElem?_eq_getElem lt⟩, Pv (i + 1), fun s' H' p' => ⟨m, Nat.lt_succ_self _, by omega, p'⟩, fun x H' y => ?_⟩
    obtain ⟨T, z, rfl, nT, rfl, g1⟩ := y
    exact hs i z σ H (g1 xs q) p T nT
end VI

set_option Elab.async false
set_option linter.all false
set_option maxRecDepth 100000
set_option maxHeartbeats 4000000
namespace VJ
open PySem PySem.Spec PyProof.Rows L2 LamX NdefX VB VM
/-! what stands behind a piece of a text, said once for all its ways -/
theorem joinV {t : TE} {σ : L2.St} {H : Hp} {Q : VK} (F : V → Hp → Prop) (h : ∀ Q' : VK, (∀ v H', F v H' → Q' v H') → t σ H Q') (r : ∀ v H', F v H' → Q v H') : t σ H Q := h Q r
theorem joinT {t : TT} {σ : L2.St} {H : Hp} {Q : Bool → Hp → Prop} (F : Bool → Hp → Prop) (h : ∀ Q' : Bool → Hp → Prop, (∀ v H', F v H' → Q' v H') → t σ H Q') (r : ∀ v H', F v H' → Q v H') : t σ H Q := h Q r
theorem setJ {te : TE} {g : TG} {u : TS} {D : Ends} {σ : L2.St} {H : Hp} (F : V → Hp → Prop) (h : ∀ Q' : VK, (∀ v H', F v H' → Q' v H') → te σ H Q') (r : ∀ v H', F v H' → g v σ H' (u D)) : tSeq (tAsg te g) u D σ H := h _ r
theorem seqJ {t u : TS} {D : Ends} {σ : L2.St} {H : Hp} (F : L2.St → Hp → Prop) (h : ∀ N : L2.St → Hp → Prop, (∀ s' H', F s' H' → N s' H') → t { D with nx := N } σ H) (r : ∀ s' H', F s' H' → u D s' H') : tSeq t u D σ H := h _ r
theorem ifJ {c : TT} {t u v : TS} {D : Ends} {σ : L2.St} {H : Hp} (F : Bool → Hp → Prop) (h : ∀ Q' : Bool → Hp → Prop, (∀ b H', F b H' → Q' b H') → c σ H Q') (r : ∀ b H', F b H' → if b = true then t { D with nx := v D } σ H' else u { D with nx := v D } σ H') : tSeq (tIfS c t u) v D σ H := h _ r
theorem nm {i : Nat} {x : V} {σ : L2.St} {H : Hp} {N : L2.St → Hp → Prop} (h : N (σ.set i (some x)) H) : gName i x σ H N := h
theorem nmS {i : Nat} {x : V} {σ : L2.St} {H : Hp} {a b c : L2.St → Hp → Prop} {r : VK} (h : a (σ.set i (some x)) H) : gName i x σ H (Ends.nx ⟨a, r, b, c⟩) := h
theorem nx {σ : L2.St} {H : Hp} {a b c : L2.St → Hp → Prop} {r : VK} (h : a σ H) : Ends.nx ⟨a, r, b, c⟩ σ H := h
theorem nxT {σ : L2.St} {H : Hp} {a b c : L2.St → Hp → Prop} {r : VK} (h : a σ H) : tNext ⟨a, r, b, c⟩ σ H := h
theorem catA_of {K : PySem.W.Frag} {H : Hp} {a b : Addr} {xs ys : List V} {Q : VK} (ha : SqT K H a xs) (hb : SqT K H b ys) (hz : xs.length + ys.length ≤ sizeLine) (q : ∀ p H', Same H H' → SqT K H' p (xs ++ ys) → Q (.ref p) H') : rCatA K (.ref a) (.ref b) H Q :=
  ⟨a, b, xs, ys, rfl, rfl, ha, hb, hz, fun e => q b H (Same.refl H) (by rw [e]; exact hb), fun _ e => q a H (Same.refl H) (by rw [e, List.append_nil]; exact ha), fun _ _ p np => q p _ (same_upd np _) (.inl (.inl upd_same))⟩
theorem flatS (ss : List Str) : (ss.map V.str).all flatV = true := by
  rw [List.all_eq_true]
  intro v hv
  obtain ⟨x, _, rfl⟩ := List.mem_map.mp hv
  rfl
end VJ

set_option Elab.async false
set_option linter.all false
set_option maxRecDepth 100000
set_option maxHeartbeats 400000
namespace VL
open PySem PySem.Spec PyProof.Rows L2 LamX NdefX VB VM VI
/-! enumerate of a list, from a start -/
/-- pairs of a number and an item of the list at a, the numbers from c on -/
def Itm (K : PySem.W.Frag) (c : Int) (a : Addr) : It where
  go := fun i H => ∃ (xs : List V) (x : V), SqL K H a xs ∧ xs[i]? = some x
  yld := fun i H v H' => ∃ T x, v = .ref T ∧ H T = none ∧ H' = upd H T (.tup [.int (c + (i : Nat)), x]) ∧ ∀ xs, SqL K H a xs → xs[i]? = some x
  stop := fun i H => ∃ xs : List V, SqL K H a xs ∧ xs.length ≤ i
theorem turnM {P : Program} {w : World} {K : PySem.W.Frag} {elts : List Expr} {kk : Nat} {tpos : Pos} (c : Int) {a e it : Addr} (eit : e ≠ it) (ea : e ≠ a) (ait : a ≠ it) :
    Turn P w K (.Tuple elts kk tpos) (Itm K c a) [e, it] e (fun i h => (∃ old, IsEnum h e it (c + ((i : Nat) : Int)) old) ∧ h.IsListIter it a i) where
  mem := List.mem_cons_self
  obj := fun i h ⟨⟨old, he⟩, o, ho, oc, od⟩ b hb => by
    rcases List.mem_cons.mp hb with z | z
    · exact ⟨_, z ▸ he, fun v q => by cases q⟩
    · exact ⟨o, List.mem_singleton.mp z ▸ ho, fun v q => by rw [od] at q; cases q⟩
  keep := fun i h h' ⟨⟨old, he⟩, st⟩ k => ⟨⟨old, k e List.mem_cons_self _ he⟩, st.at fun o q => k it (List.mem_cons_of_mem _ List.mem_cons_self) o q⟩
  item := by
    rintro X rfl rfl rfl hc i pins s σ H E I hf ⟨⟨old, he⟩, hit⟩ ⟨xs, x, hq, hx⟩
    obtain ⟨its, rv, pT, hz⟩ := I.list hq
    obtain ⟨u, hu, ru⟩ := rv.get hx
    have lt : i < its.toArray.size := by
      rw [List.size_toArray]
      exact (List.getElem?_eq_some_iff.mp hu).1
    have pT' : s.heap.IsList a its.toArray := pT.isList
    have lte := Heap.lt_size he
    have ltit : it < s.heap.objs.size := let ⟨_, q, _⟩ := hit; Heap.lt_size q
    refine wpAny_pyNext_enum_itemC (D := Draws.list (prog := X.prog) (w := X.w) (A := X.A.in1) (I.ok.hd hc) it a ait its.toArray) he ⟨hit, pT'⟩ lt eit (by simp [eit, ea]) fun y h1 tk py ho st1 hT hsz hk => ?_
    obtain rfl : u = y := by
      have z : its.toArray[i]? = some y := py
      rw [List.getElem?_toArray, hu] at z
      exact Option.some.inj z
    refine ⟨_, rfl, wpAny_letOwnedTupleGo_enum (s := { s with heap := h1, toks := tk + 1 }) ho fun h2 he2 sb => ?_⟩
    have hT2 := (sb.2 _ (Nat.ne_of_gt lte)).trans hT
    have new : ObjOk X.prog X.w (upd H s.heap.objs.size (.tup [.int (c + (i : Nat)), x])) h2 s.heap.objs.size (.tup [.int (c + (i : Nat)), x]) :=
      ⟨by show 2 ≤ sizeLine; decide, [.int (c + (i : Nat)) tk, u], .cons ⟨_, rfl⟩ (.cons ru .nil), ⟨_, hT2, rfl, _, rfl⟩⟩
    have I1 : Inv X pins σ (upd H s.heap.objs.size (.tup [.int (c + (i : Nat)), x])) { s with heap := h2, toks := tk + 1 } := by
      refine I.turnedNew (ch := [e, it]) (fun b ob hb q => ?_) hf (Nat.le_refl _) new
      have n1 : b ≠ e := fun z => hb (z ▸ List.mem_cons_self)
      have n2 : b ≠ it := fun z => hb (z ▸ List.mem_cons_of_mem _ List.mem_cons_self)
      exact (sb.2 b n1).trans (hk b ob n1 n2 q)
    refine ⟨.ref s.heap.objs.size, _, I1, rfl, ⟨_, x, rfl, I.hok.fresh (Nat.le_refl _), rfl, fun ys hy => by rw [I.list_inj hy hq]; exact hx⟩, ⟨⟨u, ?_⟩, st1.1.at fun o q => (sb.2 it (Ne.symm eit)).trans q⟩, fun b hb => ?_⟩
    · rw [show c + ((i + 1 : Nat) : Int) = c + (i : Int) + 1 by omega]
      exact he2
    · have lb : b < s.heap.objs.size := by
        rcases List.mem_cons.mp hb with z | z
        · rw [z]; exact lte
        · rw [List.mem_singleton.mp z]; exact ltit
      rw [upd_ne (Nat.ne_of_lt lb)]
      exact (hf b hb).1
  done := by
    rintro X rfl rfl rfl hc i pins s σ H E I hf ⟨⟨old, he⟩, hit⟩ ⟨xs, hq, hx⟩
    obtain ⟨its, rv, pT, hz⟩ := I.list hq
    obtain ⟨f0, f1, f2, f3, f4, f5⟩ := hf it (List.mem_cons_of_mem _ List.mem_cons_self)
    have hl := rv.length
    have pT' : s.heap.IsList a its.toArray := pT.isList
    have D := Draws.list (prog := X.prog) (w := X.w) (A := X.A.in1) (I.ok.hd hc) it a ait its.toArray
    have hst : s.heap.IsListIter it a its.toArray.size → s.heap.IsListIter it a its.toArray.size ∧ s.heap.IsList a its.toArray := fun z => ⟨z, pT'⟩
    have hT : s.TypeIs (.ref e) "enumerate" := ⟨_, he, rfl⟩
    unfold pyNext
    refine wpAny_bind (wpAny_attempt (wpAny_callSpecial?_slot (name := Str.ofString "__next__") hT F.slot_enumerate_next
      (wpAny_call_entry F.slot_enumerate_next hT F.entry_enumerate_next ?_ (F.args_enumerate_next_1 _))))
    refine wpAny_bind (m := field (.ref e) 2) (wpAny_field he rfl (x := .ref it) rfl ?_)
    refine wpAny_bind (wpAny_nextOf_list_end (I.ok.hd hc) hit pT' (by rw [List.getElem?_toArray]; exact List.getElem?_eq_none (by omega)) fun h' y eb hy => ?_)
    obtain ⟨o, ho, hcl⟩ := hy
    refine wpAny_bind (wpAny_isInstance (T := "StopIteration") (b := true) ⟨o, ho, hcl⟩ isSubtype_stop ?_)
    exact wpAny_pure ⟨rfl, I.turned (t' := s.toks) (fun b o hb q => eb b o hb q) f0 f1 f3 f4 f5⟩
  self := fun A i s Q E ⟨⟨_, he⟩, _⟩ h => wpAny_pyIter_enum he h
theorem tyKw {M : Model} {A : Around} {E : Value → Shared → Prop} {s : Shared} {pos : Pos} {T : String} {ags : List (Bool × Sem Value)} {kws : List (Option Str × Sem Value)} {Q : Value → Shared → Prop} (h1 : ags.any (·.1) = false) (h2 : kws.any (·.1.isNone) = false)
    (h : wpAny M A (evalArgs (.type T) true ags kws) (fun z t => wpAny M A (call (.type T) z.pos z.kw) Q E t) E s) : wpAny M A (callWith pos (.type T) [] ags kws) Q E s := by
  unfold callWith
  refine wpAny_bind (wpAny_holding (wpAny_mono h (fun z t hz => ?_) fun _ _ y => y))
  refine wpAny_bind (wpAny_standAt ?_)
  simp only [h1, h2, Bool.or_false]
  refine wpAny_bind (wpAny_pure (wpAny_bind (wpAny_mono hz (fun r t2 hr => ?_) fun _ _ y => y)))
  exact wpAny_bind (wpAny_holding (wpAny_point (wpAny_pure hr)))
def iEnS (K : PySem.W.Frag) (ta tk : TA) : TI := fun σ H R => ta σ H fun vs H1 => tk σ H1 fun zs H2 => ∃ a xs c, vs = [.ref a] ∧ zs = [.int c] ∧ -(2 ^ 62) ≤ c ∧ c < 2 ^ 62 ∧ SqL K H2 a xs ∧ R (Itm K c a) H2
theorem pi_enS {X : Cx} {K : PySem.W.Frag} (hK : X.K = K) {e : Expr} {kws : List Keyword} {ta tk : TA} {p pos tpos : Pos} {elts : List Expr} {kk : Nat} (hg : Gl X "enumerate") (hm : X.mg "enumerate" = none) (ha : PA X [e] ta) (hk : PK X kws tk)
    (he : backTo pos (starEach [e] X.env) = (false, eval e X.env) :: backTo pos (starEach [] X.env) := by rfl) (hpl : (backTo pos (starEach [e] X.env)).any (·.1) = false := by rfl)
    (hall : (backToKw pos (keywordEach kws X.env)).all (·.1.isSome) = true := by rfl) (hnone : (backToKw pos (keywordEach kws X.env)).any (·.1.isNone) = false := by rfl) (hks : (backToKw pos (keywordEach kws X.env)).filterMap (·.1) = [("start" : Str)] := by rfl) :
    PI X (.Tuple elts kk tpos) (.Call (.Name "enumerate" p) [e] kws pos) (iEnS K ta tk) := by
  subst hK
  refine ⟨fun pins s σ H R I h => ?_⟩
  refine wpAny_Call_Name_kw (ld_blt I hg hm boot_enumerate ?_ (by decide) (by decide))
  refine tyKw hpl hnone ?_
  have hA := fun (t : Shared) (J : Inv X pins σ H t) => ha.run pos pins t σ H _ J h
  rw [he] at hA ⊢
  refine evalArgs_kwB hall (thn (hA _ (I.tok _)) fun us s1 ⟨vs, H1, I1, r1, q1⟩ => thn (hk.run pos pins s1 σ H1 _ I1 q1) fun ws s2 ⟨zs, H2, I2, r2, a, xs, c, ex, ez, c0, c1, hq, q⟩ => ?_)
  rw [hks]
  subst ex ez
  obtain ⟨u, rfl, ru⟩ := r1.one
  cases ru
  obtain ⟨z, rfl, rz⟩ := r2.one
  obtain ⟨t, rfl⟩ := rz
  obtain ⟨its, rv, pT, hz⟩ := I2.list hq
  have pT' : s2.heap.IsList a its.toArray := pT.isList
  have la : a < s2.heap.objs.size := let ⟨_, z, _⟩ := pT'; Heap.lt_size z
  refine enum_begins_start (begins_list a its.toArray) pT' (by omega) (by omega) fun h' he' hit hsz hk' => wpAny_pyIter_enum he' ?_
  have I3 : Inv X pins σ H2 { s2 with heap := h' } := I2.kept (t' := s2.toks) hk'
  refine ⟨s2.heap.objs.size + 1, [s2.heap.objs.size + 1, s2.heap.objs.size], _, _, H2, rfl, I3, turnM c (a := a) (e := s2.heap.objs.size + 1) (it := s2.heap.objs.size) (Nat.succ_ne_self _) (Nat.ne_of_gt (Nat.lt_succ_of_lt la)) (Nat.ne_of_lt la), ⟨⟨.none, by rw [Int.ofNat_zero, Int.add_zero]; exact he'⟩, ⟨_, hit, rfl, rfl⟩⟩, fun b hb => ?_, q⟩
  have le : s2.heap.objs.size ≤ b := by
    rcases List.mem_cons.mp hb with z | z
    · rw [z]; omega
    · rw [List.mem_singleton.mp z]; exact Nat.le_refl _
  exact I2.fpOk le (I2.hok.fresh le)
/-- a walk over enumerate of a list -/
theorem for_el {K : PySem.W.Frag} {c : Int} {a : Addr} {xs : List V} {g : TG} {tb : TS} {D : Ends} {σ : L2.St} {H : Hp} (Pv : Nat → L2.St → Hp → Prop) (h0 : Pv 0 σ H) (hl : ∀ i σ H, i ≤ xs.length → Pv i σ H → SqL K H a xs)
    (hs : ∀ i x σ H, xs[i]? = some x → Pv i σ H → ∀ T, H T = none → g (.ref T) σ (upd H T (.tup [.int (c + (i : Nat)), x])) fun s2 H2 => tb { D with nx := Pv (i + 1), ct := Pv (i + 1), bk := D.nx } s2 H2) (hd : ∀ σ H, Pv xs.length σ H → D.nx σ H) :
    ∃ W : Nat → Nat → L2.St → Hp → Prop, (∃ m, W 0 m σ H) ∧ ∀ i m σ H, W i m σ H → ((Itm K c a).stop i H ∧ D.nx σ H) ∨
      ((Itm K c a).go i H ∧ ∃ N : L2.St → Hp → Prop, (∀ s' H', N s' H' → ∃ m', m' < m ∧ W (i + 1) m' s' H') ∧ ∀ x H', (Itm K c a).yld i H x H' → g x σ H' fun s2 H2 => tb { D with nx := N, ct := N, bk := D.nx } s2 H2) := by
  refine ⟨fun i m σ H => m + i = xs.length ∧ Pv i σ H, ⟨xs.length, rfl, h0⟩, fun i m σ H ⟨e, p⟩ => ?_⟩
  have q := hl i σ H (by omega) p
  cases m with
  | zero =>
    have e2 : i = xs.length := by omega
    subst e2
    exact .inl ⟨⟨xs, q, Nat.le_refl _⟩, hd _ _ p⟩
  | succ m =>
    have lt : i < xs.length := by omega
    refine .inr ⟨⟨xs, xs[i], q, List.getElem?_eq_getElem lt⟩, Pv (i + 1), fun s' H' p' => ⟨m, Nat.lt_succ_self _, by omega, p'⟩, fun x H' y => ?_⟩
    obtain ⟨T, z, rfl, nT, rfl, g1⟩ := y
    exact hs i z σ H (g1 xs q) p T nT
/-! a dict of the written part: its keys in order -/
def KList (K : PySem.W.Frag) (w : World) (d : Addr) (ks : List Str) : Prop := ∃ es n, KDict K w d es n ∧ es.toList.map He.keyOf = He.keysIn w.params ks
theorem klist_of {K : PySem.W.Frag} {w : World} {d : Addr} {ks : List Str} (h : He.dicW K d = some (He.keysIn w.params ks)) : KList K w d ks := by
  obtain ⟨es, n, kd⟩ := He.dicW_ok h
  refine ⟨es, n, kd, ?_⟩
  unfold He.dicW at h
  rw [kd.at_] at h
  have z : (decide (("dict" : String) = "dict") && ((#[] : Array (Option Value)).isEmpty && !(d == sysModules))) = true := by rw [kd.low] <;> rfl
  have y : (match decide (("dict" : String) = "dict") && ((#[] : Array (Option Value)).isEmpty && !(d == sysModules)) with | true => some (es.toList.map He.keyOf) | false => none) = some (He.keysIn w.params ks) := h
  rw [z] at y
  exact Option.some.inj y
theorem KList.get {P : Params} {es : List DictEntry} : ∀ {ks : List Str}, es.map He.keyOf = He.keysIn P ks → ∀ {i : Nat} {e : DictEntry}, es[i]? = some e → ∃ x t, ks[i]? = some x ∧ e.key = .str x t := by
  intro ks h i e he
  have h1 : (es.map He.keyOf)[i]? = some (He.keyOf e) := by rw [List.getElem?_map, he] <;> rfl
  rw [h] at h1
  unfold He.keysIn at h1
  rw [List.getElem?_map] at h1
  obtain ⟨x, hx, ex⟩ := Option.map_eq_some_iff.mp h1
  unfold He.keyOf at ex
  split at ex
  · rename_i y t q
    have z := (Prod.mk.inj (Option.some.inj ex)).1
    exact ⟨x, t, hx, by rw [q, z]⟩
  · cases ex
def Itkd (ks : List Str) : It where
  go := fun i _ => i < ks.length
  yld := fun i H v H' => H' = H ∧ ∃ x, ks[i]? = some x ∧ v = .str x
  stop := fun i _ => ks.length ≤ i
theorem turn_kd {P : Program} {w : World} {K : PySem.W.Frag} {tg : Expr} {d it : Addr} {ks : List Str} {es : Array DictEntry} {n : Nat} (D : KDict K w d es n) (hk : es.toList.map He.keyOf = He.keysIn w.params ks) :
    Turn P w K tg (Itkd ks) [it] it (fun i h => h.IsKeyIter it d i es.size n) where
  mem := List.mem_cons_self
  obj := fun i h ⟨o, e, c, dd⟩ b hb => ⟨o, List.mem_singleton.mp hb ▸ e, fun v z => by rw [dd] at z; cases z⟩
  keep := fun i h h' ⟨o, e, r⟩ k => ⟨o, k it List.mem_cons_self o e, r⟩
  item := by
    rintro X rfl rfl rfl hc i pins s σ H E I hf st hg
    obtain ⟨f0, f1, f2, f3, f4, f5⟩ := hf it List.mem_cons_self
    have hl : es.size = ks.length := by
      have z := congrArg List.length hk
      unfold He.keysIn at z
      rw [List.length_map, List.length_map, Array.length_toList] at z
      exact z
    have hlt : i < es.size := by rw [hl]; exact hg
    have raw : s.heap.DictRaw d es n := ⟨_, I.kIn _ _ D.at_, ⟨rfl, rfl, rfl⟩, rfl⟩
    refine PySem.wpAny_pyNext_keys_item_raw st raw hlt fun h' st' sb => ?_
    have I1 : Inv X pins σ H { s with heap := h' } := I.turned (t' := s.toks) (fun b ob hb e => (sb.2 b hb).trans e) f0 f1 f3 f4 f5
    obtain ⟨x, t, hx, ex⟩ := KList.get hk (i := i) (e := es[i]) (by rw [Array.getElem?_toList, Array.getElem?_eq_getElem hlt])
    obtain ⟨oi, e, c, dd⟩ := id st'
    refine ⟨es[i].key, rfl, go_of (s := { s with heap := h' }) e c dd (by decide) ⟨.str x, H, I1, ⟨t, ex⟩, ⟨rfl, x, hx, rfl⟩, st', fun b hb => (hf b hb).1⟩⟩
  done := by
    rintro X rfl rfl rfl hc i pins s σ H E I hf st hg
    obtain ⟨f0, f1, f2, f3, f4, f5⟩ := hf it List.mem_cons_self
    have hl : es.size = ks.length := by
      have z := congrArg List.length hk
      unfold He.keysIn at z
      rw [List.length_map, List.length_map, Array.length_toList] at z
      exact z
    have raw : s.heap.DictRaw d es n := ⟨_, I.kIn _ _ D.at_, ⟨rfl, rfl, rfl⟩, rfl⟩
    exact PySem.wpAny_pyNext_keys_end_raw (I.ok.hd hc) st raw (by rw [hl]; exact hg) fun h' eb => ⟨rfl, I.turned (t' := s.toks) (fun b o hb e => eb b o hb e) f0 f1 f3 f4 f5⟩
  self := fun A i s Q E st h => wpAny_pyIter_keyiter st h
def iKd (K : PySem.W.Frag) (w : World) (te : TE) : TI := fun σ H R => te σ H fun x H1 => ∃ d ks, x = .ref d ∧ KList K w d ks ∧ R (Itkd ks) H1
theorem pi_kd {X : Cx} {K : PySem.W.Frag} {w : World} (hK : X.K = K) (hw : X.w = w) {tg e : Expr} {te : TE} (he : PE X e te) : PI X tg e (iKd K w te) := by
  subst hK hw
  refine ⟨fun pins s σ H R I h => ?_⟩
  refine thn (he.run pins s σ H _ I h) fun u s1 ⟨x, H1, I1, rx, d, ks, ex, ⟨es, n, D, hk⟩, q⟩ => ?_
  subst ex
  obtain rfl : u = Value.ref d := rx
  have raw : s1.heap.DictRaw d es n := ⟨_, I1.kIn _ _ D.at_, ⟨rfl, rfl, rfl⟩, rfl⟩
  exact PySem.wpAny_pyIter_dict_raw D.low raw (pi_one (tk := s1.toks) I1 _ (turn_kd D hk) ⟨_, Heap.get?_push_size _ rfl, rfl, rfl⟩ q)
/-- a walk over it -/
theorem for_kd {ks : List Str} {g : TG} {tb : TS} {D : Ends} {σ : L2.St} {H : Hp} (Pv : Nat → L2.St → Hp → Prop) (h0 : Pv 0 σ H)
    (hs : ∀ i x σ H, ks[i]? = some x → Pv i σ H → g (.str x) σ H fun s2 H2 => tb { D with nx := Pv (i + 1), ct := Pv (i + 1), bk := D.nx } s2 H2) (hd : ∀ σ H, Pv ks.length σ H → D.nx σ H) :
    ∃ W : Nat → Nat → L2.St → Hp → Prop, (∃ m, W 0 m σ H) ∧ ∀ i m σ H, W i m σ H → ((Itkd ks).stop i H ∧ D.nx σ H) ∨
      ((Itkd ks).go i H ∧ ∃ N : L2.St → Hp → Prop, (∀ s' H', N s' H' → ∃ m', m' < m ∧ W (i + 1) m' s' H') ∧ ∀ x H', (Itkd ks).yld i H x H' → g x σ H' fun s2 H2 => tb { D with nx := N, ct := N, bk := D.nx } s2 H2) := by
  refine ⟨fun i m σ H => m + i = ks.length ∧ Pv i σ H, ⟨ks.length, rfl, h0⟩, fun i m σ H ⟨e, p⟩ => ?_⟩
  cases m with
  | zero =>
    have e2 : i = ks.length := by omega
    subst e2
    exact .inl ⟨Nat.le_refl _, hd _ _ p⟩
  | succ m =>
    have lt : i < ks.length := by omega
    refine .inr ⟨lt, Pv (i + 1), fun s' H' p' => ⟨m, Nat.lt_succ_self _, by omega, p'⟩, fun x H' y => ?_⟩
    obtain ⟨rfl, z, hz, rfl⟩ := y
    exact hs i z σ _ hz p
/-- x in d, d[x] for such a dict -/
def rInK (K : PySem.W.Frag) (w : World) : R2 := fun x y H Q => ∃ (d : Addr) (z : Str) (r : Option Value) (es : Array DictEntry) (n : Nat), x = .str z ∧ y = .ref d ∧ KDict K w d es n ∧ PySem.W.nsIn K d z = some r ∧ Q (.bl r.isSome) H
theorem op_inK {X : Cx} {K : PySem.W.Frag} {w : World} (hK : X.K = K) (hw : X.w = w) : OpR X (compareOp .In) (rInK K w) := by
  subst hK hw
  intro pins s σ H x y v u Q I rx ry h
  obtain ⟨d, z, r, es, n, ex, ey, D, e, q⟩ := h
  exact op_in_kd D pins s σ H x y v u Q I rx ry ⟨z, r, ex, ey, e, q⟩
theorem keys_find {P : Params} {name : Str} : ∀ {es : List DictEntry} {ks : List Str}, es.map He.keyOf = He.keysIn P ks →
    (es.find? fun x => x.key.isStr name).isSome = decide (name ∈ ks) ∧ (es.any fun x => x.refKey) = false
  | [], [], _ => ⟨rfl, rfl⟩
  | [], k :: ks, h => by cases h
  | e :: es, [], h => by cases h
  | e :: es, k :: ks, h => by
    have h2 : He.keyOf e :: es.map He.keyOf = some (k, PyData.keyHash P k) :: He.keysIn P ks := h
    obtain ⟨h0, h1⟩ := List.cons.inj h2
    obtain ⟨i1, i2⟩ := keys_find (name := name) h1
    obtain ⟨t, ek⟩ : ∃ t, e.key = .str k t := by
      unfold He.keyOf at h0
      split at h0
      · rename_i y t q
        have z := (Prod.mk.inj (Option.some.inj h0)).1
        exact ⟨t, by rw [q, z]⟩
      · cases h0
    have b : e.key.isStr name = (k == name) := by rw [ek] <;> rfl
    refine ⟨?_, ?_⟩
    · rw [List.find?_cons, b]
      by_cases q : k = name
      · subst q
        simp
      · have q2 : (k == name) = false := beq_eq_false_iff_ne.mpr q
        have q3 : ¬ name = k := fun z => q z.symm
        rw [q2]
        simp only [i1, List.mem_cons]
        simp [q3]
    · rw [List.any_cons, i2, Bool.or_false]
      unfold DictEntry.refKey
      rw [ek]
theorem KList.has {K : PySem.W.Frag} {w : World} {d : Addr} {ks : List Str} (h : KList K w d ks) (z : Str) : ∃ es n r, KDict K w d es n ∧ PySem.W.nsIn K d z = some r ∧ r.isSome = decide (z ∈ ks) := by
  obtain ⟨es, n, D, hk⟩ := h
  obtain ⟨h1, h2⟩ := keys_find (name := z) hk
  unfold PySem.W.nsIn
  rw [D.at_]
  cases e : es.toList.find? fun x => x.key.isStr z with
  | some q =>
    rw [e] at h1
    exact ⟨es, n, some q.val, D, by simp only [e], h1⟩
  | none =>
    rw [e] at h1
    exact ⟨es, n, none, D, by simp only [e, h2]; rfl, h1⟩
/-- x in d -/
theorem inK_of {K : PySem.W.Frag} {w : World} {d : Addr} {ks : List Str} {z : Str} {H : Hp} {Q : VK} (h : KList K w d ks) (q : Q (.bl (decide (z ∈ ks))) H) : rInK K w (.str z) (.ref d) H Q := by
  obtain ⟨es, n, r, D, e, hr⟩ := h.has z
  exact ⟨d, z, r, es, n, rfl, rfl, D, e, by rw [hr]; exact q⟩
/-- join, where the written part is to be named -/
def rJoinK (K : PySem.W.Frag) : V → List V → Hp → VK → Prop := fun x xs H Q => ∃ a p, ∃ ys : List Str, x = .str a ∧ xs = [.ref p] ∧ (SqL K H p (ys.map V.str) ∨ SqT K H p (ys.map V.str)) ∧ (ys.map (·.length)).sum + ys.length * a.length ≤ 16777216 ∧ Q (.str (Txt.join a ys)) H
theorem pe_joinK {X : Cx} {K : PySem.W.Frag} (hK : X.K = K) {o e : Expr} {to te : TE} {apos pos : Pos} (ho : PE X o to) (he : PE X e te) (h1 : starEach [e] X.env = [(false, eval e X.env)] := by rfl)
    (h2 : attributeBase o (Str.ofString "join") X.env (eval o X.env) = eval o X.env := by rfl) (h3 : (apos.endLine == pos.line) = true := by rfl) : PE X (.Call (.Attribute o (Str.ofString "join") apos) [e] [] pos) (tM1 (rJoinK K) to te) := by
  subst hK
  exact pe_join ho he h1 h2 h3
end VL

set_option Elab.async false
set_option linter.all false
set_option maxRecDepth 100000
set_option maxHeartbeats 400000
namespace VES
open PySem PySem.Spec PyProof.Rows L2 LamX NdefX VB VM VI VL
/-! enumerate of a tuple, from a start -/
def iEnST (K : PySem.W.Frag) (ta tk : TA) : TI := fun σ H R => ta σ H fun vs H1 => tk σ H1 fun zs H2 => ∃ a xs c, vs = [.ref a] ∧ zs = [.int c] ∧ -(2 ^ 62) ≤ c ∧ c < 2 ^ 62 ∧ SqT K H2 a xs ∧ R (Itn K c a) H2
theorem pi_enST {X : Cx} {K : PySem.W.Frag} (hK : X.K = K) {e : Expr} {kws : List Keyword} {ta tk : TA} {p pos tpos : Pos} {elts : List Expr} {kk : Nat} (hg : Gl X "enumerate") (hm : X.mg "enumerate" = none) (ha : PA X [e] ta) (hk : PK X kws tk)
    (he : backTo pos (starEach [e] X.env) = (false, eval e X.env) :: backTo pos (starEach [] X.env) := by rfl) (hpl : (backTo pos (starEach [e] X.env)).any (·.1) = false := by rfl)
    (hall : (backToKw pos (keywordEach kws X.env)).all (·.1.isSome) = true := by rfl) (hnone : (backToKw pos (keywordEach kws X.env)).any (·.1.isNone) = false := by rfl) (hks : (backToKw pos (keywordEach kws X.env)).filterMap (·.1) = [("start" : Str)] := by rfl) :
    PI X (.Tuple elts kk tpos) (.Call (.Name "enumerate" p) [e] kws pos) (iEnST K ta tk) := by
  subst hK
  refine ⟨fun pins s σ H R I h => ?_⟩
  refine wpAny_Call_Name_kw (ld_blt I hg hm boot_enumerate ?_ (by decide) (by decide))
  refine tyKw hpl hnone ?_
  have hA := fun (t : Shared) (J : Inv X pins σ H t) => ha.run pos pins t σ H _ J h
  rw [he] at hA ⊢
  refine evalArgs_kwB hall (thn (hA _ (I.tok _)) fun us s1 ⟨vs, H1, I1, r1, q1⟩ => thn (hk.run pos pins s1 σ H1 _ I1 q1) fun ws s2 ⟨zs, H2, I2, r2, a, xs, c, ex, ez, c0, c1, hq, q⟩ => ?_)
  rw [hks]
  subst ex ez
  obtain ⟨u, rfl, ru⟩ := r1.one
  cases ru
  obtain ⟨z, rfl, rz⟩ := r2.one
  obtain ⟨t, rfl⟩ := rz
  obtain ⟨its, rv, pT, hz⟩ := I2.tuple hq
  have pT' : s2.heap.IsTuple a its.toArray := pT
  have la : a < s2.heap.objs.size := let ⟨_, z, _⟩ := pT'; Heap.lt_size z
  refine enum_begins_start (begins_tuple a its.toArray) pT' (by omega) (by omega) fun h' he' hit hsz hk' => wpAny_pyIter_enum he' ?_
  have I3 : Inv X pins σ H2 { s2 with heap := h' } := I2.kept (t' := s2.toks) hk'
  refine ⟨s2.heap.objs.size + 1, [s2.heap.objs.size + 1, s2.heap.objs.size], _, _, H2, rfl, I3, turnN c (a := a) (e := s2.heap.objs.size + 1) (it := s2.heap.objs.size) (Nat.succ_ne_self _) (Nat.ne_of_gt (Nat.lt_succ_of_lt la)) (Nat.ne_of_lt la), ⟨⟨.none, by rw [Int.ofNat_zero, Int.add_zero]; exact he'⟩, ⟨_, hit, rfl, rfl⟩⟩, fun b hb => ?_, q⟩
  have le : s2.heap.objs.size ≤ b := by
    rcases List.mem_cons.mp hb with z | z
    · rw [z]; omega
    · rw [List.mem_singleton.mp z]; exact Nat.le_refl _
  exact I2.fpOk le (I2.hok.fresh le)
end VES

set_option Elab.async false
set_option linter.all false
set_option maxRecDepth 100000
set_option maxHeartbeats 4000000
/-! a list that is made longer by a tuple's items -/
namespace PySem.AutoSeq1
open PySem.Spec PySem.Calls PyProof.Rows
theorem longerByTup {l b : Addr} {xs ys : Array Value} {n : Nat} (h1 : xs.size + ys.size ≤ sizeLine) (h2 : (!xs.isEmpty && Builtin.List.listTooLong (xs.size + ys.size)) ≠ true) :
    Meets (Builtin.«list.extend» ⟨[.ref l, .ref b], []⟩) (fun _ R s =>
      s.heap.get? l = some { cls := .type "list", data := .seq xs n } ∧ IsTup s.heap b ys ∧ R (.ok (.ret .none)) { s with heap := s.heap.update l (Obj.mapSeq (· ++ ys)), toks := s.toks }) := by
  refine .of_wp fun prog w A R s h => ?_
  obtain ⟨hl, ⟨ob, hb, hc, m, hd⟩, hR⟩ := h
  obtain ⟨h0, gs, dr, tk, os⟩ := s
  obtain ⟨c0, d0, dat, sl⟩ := ob
  cases hc
  cases hd
  have q1 := idx_int
  have q2 := sub_tuple_tuple
  have q3 := sub_tuple_list
  have q4 := sub_list_list
  have q5 := sub_list_tuple
  have room : (xs ++ ys).size ≤ sizeLine + 1 := by rw [Array.size_append]; omega
  have room0 : xs.size ≤ sizeLine := by omega
  wp_walk using (wpAny_updateSeq hl rfl (hz := room0) (_hz' := room)), wpAny_loadPart' hl, wpAny_loadPart' hb
  exact ⟨_, rfl, hR⟩
end PySem.AutoSeq1
namespace VG
open PySem PySem.Spec PyProof.Rows L2 LamX NdefX VB VM
def rExtT (K : PySem.W.Frag) : V → List V → Hp → VK → Prop := fun x vs H Q => ∃ l b xs zs, x = .ref l ∧ vs = [.ref b] ∧ H l = some (.lst xs) ∧ SqT K H b zs ∧ xs.length + zs.length ≤ sizeLine ∧ Q .non (upd H l (.lst (xs ++ zs)))
theorem extT {X : Cx} {K : PySem.W.Frag} (hK : X.K = K) : MtM X "list.extend" (rExtT K) := by
  subst hK
  intro pins s σ H x vs v us Q I rx rv h
  obtain ⟨l, b, xs, zs, rfl, rfl, hl, hb, z, q⟩ := h
  cases rx
  obtain ⟨u, rfl, ru⟩ := rv.one
  cases ru
  obtain ⟨z1, i1, n1, r1, len1, e1⟩ := I.lstM hl
  obtain ⟨i2, r2, t2, z2⟩ := I.tuple hb
  have len2 := r2.length
  have fit : i1.toArray.size + i2.toArray.size ≤ sizeLine := by rw [List.size_toArray, List.size_toArray]; omega
  have door : (!i1.toArray.isEmpty && Builtin.List.listTooLong (i1.toArray.size + i2.toArray.size)) ≠ true := by
    rw [notLongL fit, Bool.and_false]
    decide
  refine call_meets F.slot_list_extend ⟨_, e1, rfl⟩ F.entry_list_extend (F.args_list_extend_2 _ _) (PySem.AutoSeq1.longerByTup fit door) ⟨e1, t2, ?_⟩
  exact ⟨.non, _, I.lset (its' := i1 ++ i2) hl e1 (by simp) (r1.append r2) (by rw [List.length_append]; omega), rfl, q⟩
end VG

set_option Elab.async false
set_option linter.all false
set_option maxRecDepth 100000
set_option maxHeartbeats 4000000
namespace LW
open PySem PySem.Spec PyProof.Rows L2 LamX NdefX VB VM VP
abbrev s__law_once : Stmt := top 30
theorem sc__law_once : FnScope ["rows", "found", "row"] ["rows"] (defScope s__law_once) := ⟨rfl, rfl, rfl, by decide +kernel, rfl, by decide +kernel, by decide +kernel⟩
abbrev s__law_system : Stmt := top 29
theorem sc__law_system : FnScope ["cell", "most", "draws", "count", "edges", "k", "draw", "action"] ["cell", "most"] (defScope s__law_system) := ⟨rfl, rfl, rfl, by decide +kernel, rfl, by decide +kernel, by decide +kernel⟩
section
variable {P : Program} {w : World} {K : PySem.W.Frag} {mg : Str → Option Value} {base : Heap}
/-- each edge once, of very many -/
def spOnceM (K : PySem.W.Frag) : Sp := fun vs H Q _ => ∃ (a : Addr) (L : List (Addr × Ed)), vs = [.ref a] ∧ SqL K H a (refs L) ∧ Eds K H L ∧ L.length ≤ 10000000 ∧ (∀ p ∈ L, p.2.2.1 ∈ acts) ∧
  ∀ (p : Addr) (L' : List (Addr × Ed)), H p = none → (∀ x ∈ L', x ∈ L) → L'.map (·.2) = onceG [] (L.map (·.2)) → Q (.ref p) (upd H p (.lst (refs L')))
theorem c_onceM (D : Df K mg "_law_once" s__law_once) : C8.Cal P w K mg base 1 "_law_once" (spOnceM K) [] := by
  refine D.cal sc__law_once (fun _ _ _ _ _ _ us hl => match us, hl with | [_], _ => rfl) (fun vs H Q E h => ?_) (fun f cdv A outer s H vs Q E hr h => ?_)
  · obtain ⟨a, L, rfl, _⟩ := h
    rfl
  obtain ⟨a, L, rfl, hS, hE, hz, ha, q⟩ := h
  refine ⟨_, (pss_cons (ps_set (i := 1) sc__law_once.nd rfl (Or.inl rfl) (pe_lst pa_nil))
    (pss_cons (ps_for PassesOwn.never rfl (pi_list (pv 0)) (pg_name (i := 2) sc__law_once.nd rfl (Or.inl rfl))
      (pss_one (ps_if (pt_cmpR (VP.notInD (K := K) rfl (VP.un65 hr)) (pv 2) (pv 1) rfl)
        (pss_one (ps_expr (pe_bm PySem.F.plainAttrs_list PySem.F.slot_list_append PySem.F.type_list_append mt_append (pv 1) (pa_cons (pv 2) pa_nil))))
        pss_nil)))
    (pss_one (ps_ret (pv 1))))), ?_⟩
  have zl := sizeLine_eq
  refine ⟨Nat.zero_le _, fun l nl => ?_⟩
  have s0 : ∀ o, Same H (upd H l o) := fun o => same_upd nl o
  refine ⟨_, rfl, a, rfl, ⟨_, (s0 _).seq hS⟩, for_list (K := K) (a := a) (xs := refs L)
    (fun i σ H' => ∃ (rr : Option V) (L' : List (Addr × Ed)), σ = [some (.ref a), some (.ref l), rr] ∧ H' = upd H l (.lst (refs L')) ∧ (∀ x ∈ L', x ∈ L) ∧ L'.map (·.2) = onceG [] ((L.map (·.2)).take i) ∧ L'.length ≤ i)
    ⟨none, [], rfl, rfl, fun x z => absurd z List.not_mem_nil, rfl, Nat.le_refl _⟩ (fun i σ H' _ ⟨_, _, _, e, _⟩ => by rw [e]; exact (s0 _).seq hS) ?_ ?_⟩
  · rintro i v σ H' hv ⟨rr, L', rfl, rfl, sub, eL, len⟩
    obtain ⟨p, hp, rfl⟩ := refs_at hv
    have pin := List.mem_of_getElem? hp
    have hE' : Eds K (upd H l (.lst (refs L'))) L := hE.kp (Kp.of (s0 _))
    have hl : upd H l (.lst (refs L')) l = some (.lst (refs L')) := upd_same
    have small : i < L.length := (List.getElem?_eq_some_iff.mp hp).1
    have tk : (L.map (·.2)).take (i + 1) = (L.map (·.2)).take i ++ [p.2] := by rw [List.take_succ, List.getElem?_map, hp] <;> rfl
    have eDp : Dp K (upd H l (.lst (refs L'))) (.ref l) (.list ((L'.map (·.2)).map edD)) := by
      rw [List.map_map]
      exact .lst (SqL.of hl) (Eds.all fun x hx => hE' x (sub x hx))
    refine ⟨_, rfl, _, rfl, _, _, edDp (hE' p pin), eDp, ed_shaped (acts_ok _ (ha p pin)).1, eds_shaped (fun e he => ?_), ?_⟩
    · obtain ⟨x, hx, rfl⟩ := List.mem_map.mp he
      exact (acts_ok _ (ha x (sub x hx))).1
    rw [any_ed, eL]
    refine ⟨_, rfl, ?_⟩
    refine ite2 (fun c => ?_) (fun c => ?_)
    · have nin : ¬ p.2 ∈ onceG [] ((L.map (·.2)).take i) := by simpa using c
      refine ⟨_, rfl, .inl ⟨rfl, _, SqL.of hl⟩, _, rfl, l, _, _, rfl, rfl, hl, (by rw [List.length_map]; omega), ?_⟩
      refine ⟨_, L' ++ [p], rfl, by rw [upd_upd, refs_snoc], fun x hx => ?_, ?_, by rw [List.length_append, List.length_singleton]; omega⟩
      · rcases List.mem_append.mp hx with z | z
        · exact sub x z
        · rw [List.mem_singleton.mp z]; exact pin
      · rw [tk, onceG_snoc, if_neg nin, List.map_append, eL] <;> rfl
    · have inn : p.2 ∈ onceG [] ((L.map (·.2)).take i) := by simpa using c
      refine ⟨_, L', rfl, rfl, sub, ?_, by omega⟩
      rw [tk, onceG_snoc, if_pos inn, eL]
  · rintro σ H' ⟨rr, L', rfl, rfl, sub, eL, len⟩
    rw [List.length_map] at eL
    rw [List.take_of_length_le (by rw [List.length_map]; exact Nat.le_refl _)] at eL
    exact ⟨_, rfl, q l L' nl sub eL⟩
/-- each edge once -/
def spOnceE (K : PySem.W.Frag) : Sp := fun vs H Q _ => ∃ (a : Addr) (L : List (Addr × Ed)), vs = [.ref a] ∧ SqL K H a (refs L) ∧ Eds K H L ∧ L.length ≤ 1000 ∧ (∀ p ∈ L, p.2.2.1 ∈ acts) ∧
  ∀ (p : Addr) (L' : List (Addr × Ed)), H p = none → (∀ x ∈ L', x ∈ L) → L'.map (·.2) = onceG [] (L.map (·.2)) → Q (.ref p) (upd H p (.lst (refs L')))
theorem c_onceE (D : Df K mg "_law_once" s__law_once) : C8.Cal P w K mg base 1 "_law_once" (spOnceE K) [] := VB.calImp (c_onceM D) fun vs H Q _ ⟨a, L, h1, h2, h3, h4, h5⟩ => ⟨a, L, h1, h2, h3, by omega, h5⟩
/-- a system that is drawn -/
def spSys5 (K : PySem.W.Frag) : Sp := fun vs H Q _ => ∃ (c m : Int), vs = [.int c, .int m] ∧ 1 ≤ m ∧ m ≤ 12 ∧
  ∀ (t l : Addr) (n : Int) (L : List (Addr × Ed)) (H' : Hp), Same H H' → H' t = some (.tup [.int n, .ref l]) → H' l = some (.lst (refs L)) → Eds K H' L → 1 ≤ n → n ≤ m → (L.length : Int) < 3 * m → (∀ p ∈ L, okE n p.2) → (∀ p ∈ L, p.2.2.1 ∈ acts0) → Q (.ref t) H'
theorem c_system5 (D : Df K mg "_law_system" s__law_system) (z_range : mg "range" = none) (c__law_draws : C8.Cal P w K mg base 1 "_law_draws" spDraws []) : C8.Cal P w K mg base 2 "_law_system" (spSys5 K) [] := by
  refine D.cal sc__law_system (fun _ _ _ _ _ _ us hl => match us, hl with | [_, _], _ => rfl) (fun vs H Q E h => ?_) (fun f cdv A outer s H vs Q E hr h => ?_)
  · obtain ⟨c, m, rfl, _⟩ := h
    rfl
  obtain ⟨c, m, rfl, m1, m2, q⟩ := h
  refine ⟨_, (pss_cons (ps_set (i := 2) sc__law_system.nd rfl (Or.inl rfl) (C8.pe_c c__law_draws hr (by first | decide | omega) rfl (pa_cons (pv 0) (pa_cons (pe_op op_add (pe_op op_mul pe_int (pv 1)) pe_int) pa_nil))))
    (pss_cons (ps_set (i := 3) sc__law_system.nd rfl (Or.inl rfl) (pe_op op_add pe_int (pe_op op_modN (pe_ix (VK.ixL (K := K) rfl) (pv 2) pe_int (fun _ _ => rfl)) (pv 1))))
    (pss_cons (ps_set (i := 4) sc__law_system.nd rfl (Or.inl rfl) (pe_lst pa_nil))
    (pss_cons (ps_for PassesOwn.never rfl (pi_range1 rfl z_range (pa_cons (pe_op op_modN (pe_ix (VK.ixL (K := K) rfl) (pv 2) pe_int (fun _ _ => rfl)) (pe_op op_mul pe_int (pv 1))) pa_nil)) (pg_name (i := 5) sc__law_system.nd rfl (Or.inl rfl))
      (pss_cons (ps_set (i := 6) sc__law_system.nd rfl (Or.inl rfl) (pe_ix (VK.ixL (K := K) rfl) (pv 2) (pe_op op_add pe_int (pv 5)) (fun _ _ => rfl)))
      (pss_cons (ps_set (i := 7) sc__law_system.nd rfl (Or.inl rfl) (pe_ix (VK.ixL (K := K) rfl) (pe_lst (pa_cons pe_str (pa_cons pe_str (pa_cons pe_str (pa_cons pe_str (pa_cons pe_str (pa_cons pe_str (pa_cons pe_str (pa_cons pe_str (pa_cons pe_str (pa_cons pe_str pa_nil))))))))))) (pe_op op_modN (pv 6) (pe_op op_add pe_int (pe_op op_mod (pe_ix (VK.ixL (K := K) rfl) (pv 2) pe_int (fun _ _ => rfl)) pe_int))) (fun _ _ => rfl)))
      (pss_one (ps_expr (pe_bm PySem.F.plainAttrs_list PySem.F.slot_list_append PySem.F.type_list_append mt_append (pv 4) (pa_cons (pe_tup (pa_cons (pe_op op_modN (pe_op op_fdiv (pv 6) pe_int) (pv 3)) (pa_cons (pv 7) (pa_cons (pe_op op_modN (pe_op op_fdiv (pv 6) pe_int) (pv 3)) pa_nil)))) pa_nil)))))))
    (pss_one (ps_ret (pe_tup (pa_cons (pv 3) (pa_cons (pv 4) pa_nil))))))))), ?_⟩
  have zl := sizeLine_eq
  refine ⟨_, rfl, _, rfl, _, _, rfl, rfl, .inl ⟨by omega, by omega⟩, _, _, rfl, rfl, c, 3 * m + 4, rfl, by omega, by omega, fun d ns nd hlen hb => ?_⟩
  have s1 := same_upd nd (.lst (ns.map V.int))
  have hd : upd H d (.lst (ns.map V.int)) d = some (.lst (ns.map V.int)) := upd_same
  generalize upd H d (.lst (ns.map V.int)) = H1 at *
  have draw : ∀ j : Nat, (j : Int) < 3 * m + 4 → ∃ x, atI (ns.map V.int) (j : Nat) = some (.int x) ∧ 0 ≤ x ∧ x < 4096 := fun j hj => by
    have hk : j < ns.length := by omega
    have hx := hb _ (List.getElem_mem hk)
    exact ⟨ns[j], atI_nat (by rw [List.getElem?_map, List.getElem?_eq_getElem hk] <;> rfl), hx⟩
  obtain ⟨x0, h0, _⟩ := draw 0 (by omega)
  obtain ⟨x1, h1, _⟩ := draw 1 (by omega)
  obtain ⟨x2, h2, _⟩ := draw 2 (by omega)
  have hm0 : m ≠ 0 := by omega
  have n0 := Int.fmod_nonneg_of_pos x0 (show 0 < m by omega)
  have n1 := Int.fmod_lt_of_pos x0 (show 0 < m by omega)
  refine ⟨_, rfl, d, _, _, _, rfl, rfl, SqL.of hd, h0, _, rfl, _, _, rfl, rfl, hm0, _, _, rfl, rfl, ?_⟩
  refine ⟨Nat.zero_le _, fun l nl => ?_⟩
  have s2 := same_upd nl (.lst [])
  have c0 := Int.fmod_nonneg_of_pos x1 (show 0 < 3 * m by omega)
  have c1 := Int.fmod_lt_of_pos x1 (show 0 < 3 * m by omega)
  refine ⟨_, rfl, d, _, _, _, rfl, rfl, SqL.of (s2 _ _ hd), h1, _, rfl, _, _, rfl, rfl, .inl ⟨by omega, by omega⟩, _, _, rfl, rfl, by omega, ?_⟩
  obtain ⟨n, hn⟩ : ∃ n, n = (1 : Int) + x0.fmod m := ⟨_, rfl⟩
  obtain ⟨cnt, hc⟩ : ∃ cnt, cnt = x1.fmod (3 * m) := ⟨_, rfl⟩
  have ndl : d ≠ l := ne_of_none hd nl
  rw [← hc] at c0 c1
  have nlH : H l = none := s1.free nl
  refine ⟨cnt, by rw [hc], by omega, by omega, for_range (lo := 0) (n := cnt.toNat)
    (fun i σ H' => ∃ (L : List (Addr × Ed)) (r5 r6 r7 : Option V), σ = [some (.int c), some (.int m), some (.ref d), some (.int n), some (.ref l), r5, r6, r7] ∧ Same H H' ∧ H' d = some (.lst (ns.map V.int)) ∧ H' l = some (.lst (refs L)) ∧
      Eds K H' L ∧ L.length = i ∧ (∀ p ∈ L, okE n p.2) ∧ ∀ p ∈ L, p.2.2.1 ∈ acts0)
    ⟨[], none, none, none, by rw [hn] <;> rfl, s1.trans s2, s2 _ _ hd, upd_same, fun p z => absurd z List.not_mem_nil, rfl, fun p z => absurd z List.not_mem_nil, fun p z => absurd z List.not_mem_nil⟩ ?_ ?_⟩
  · rintro i σ H2 hi ⟨L, r5, r6, r7, rfl, sH, hd2, hl2, hE, len, ok, ok5⟩
    obtain ⟨x, hx, x0', x1'⟩ := draw (2 + i) (by omega)
    have ei : (2 : Int) + (0 + (i : Int)) = ((2 + i : Nat) : Int) := by omega
    refine ⟨_, rfl, _, rfl, _, _, rfl, rfl, d, _, _, .int x, rfl, rfl, SqL.of hd2, (by rw [ei]; exact hx), ?_⟩
    refine ⟨(by show 10 ≤ sizeLine; omega), fun t nt => ?_⟩
    have s3 := same_upd nt (.lst [.str "a", .str "b", .str "tau", .str "a", .str "c", .str "tau", .str "b", .str "tick", .str "a", .str "tau"])
    have z2 := Int.emod_nonneg x2 (show (2 : Int) ≠ 0 by decide)
    have z3 := Int.emod_lt_of_pos x2 (show (0 : Int) < 2 by decide)
    have a0 := Int.fmod_nonneg_of_pos x (show 0 < 9 + x2 % 2 by omega)
    have a1 := Int.fmod_lt_of_pos x (show 0 < 9 + x2 % 2 by omega)
    obtain ⟨w, hw, hin⟩ : ∃ w : Str, atI [V.str "a", V.str "b", V.str "tau", V.str "a", V.str "c", V.str "tau", V.str "b", V.str "tick", V.str "a", V.str "tau"] (x.fmod (9 + x2 % 2)) = some (.str w) ∧ w ∈ acts0 := by
      have z : x.fmod (9 + x2 % 2) < 10 := by omega
      generalize x.fmod (9 + x2 % 2) = g at *
      have k : g = 0 ∨ g = 1 ∨ g = 2 ∨ g = 3 ∨ g = 4 ∨ g = 5 ∨ g = 6 ∨ g = 7 ∨ g = 8 ∨ g = 9 := by omega
      rcases k with rfl | rfl | rfl | rfl | rfl | rfl | rfl | rfl | rfl | rfl
      · exact ⟨"a", rfl, by decide +kernel⟩
      · exact ⟨"b", rfl, by decide +kernel⟩
      · exact ⟨"tau", rfl, by decide +kernel⟩
      · exact ⟨"a", rfl, by decide +kernel⟩
      · exact ⟨"c", rfl, by decide +kernel⟩
      · exact ⟨"tau", rfl, by decide +kernel⟩
      · exact ⟨"b", rfl, by decide +kernel⟩
      · exact ⟨"tick", rfl, by decide +kernel⟩
      · exact ⟨"a", rfl, by decide +kernel⟩
      · exact ⟨"tau", rfl, by decide +kernel⟩
    refine ⟨_, rfl, _, rfl, d, _, _, .int x2, rfl, rfl, SqL.of (s3 _ _ hd2), h2, _, _, rfl, rfl, (by show (0 : Int) < 2; decide), _, _, rfl, rfl, _, _, rfl, rfl, (by omega), t, _, _, _, rfl, rfl, SqL.of upd_same, hw, ?_⟩
    have hn0 : 0 < n := by omega
    have nne : n ≠ 0 := by omega
    refine ⟨_, rfl, .inl ⟨rfl, _, SqL.of (s3 _ _ hl2)⟩, _, rfl, _, _, rfl, rfl, ⟨by decide, by decide⟩, _, rfl, _, _, rfl, rfl, nne, _, rfl, _, rfl, _, _, rfl, rfl, ⟨by decide, by decide⟩, _, rfl, _, _, rfl, rfl, nne, (by show 3 ≤ sizeLine; omega), fun t2 nt2 => ?_⟩
    have s4 := same_upd nt2 (.tup [.int ((x / 10).fmod n), .str w, .int ((x / 100).fmod n)])
    have hl4 := s4 _ _ (s3 _ _ hl2)
    refine ⟨l, _, _, rfl, rfl, hl4, (by rw [refs_len, len]; omega), ?_⟩
    have k5 : Kp H2 (upd (upd (upd H2 t (.lst [.str "a", .str "b", .str "tau", .str "a", .str "c", .str "tau", .str "b", .str "tick", .str "a", .str "tau"])) t2 (.tup [.int ((x / 10).fmod n), .str w, .int ((x / 100).fmod n)])) l (.lst (refs L ++ [.ref t2]))) :=
      (Kp.of (s3.trans s4)).trans (Kp.updL hl4 _)
    have nt2l : t2 ≠ l := fun z => by rw [z, s3 _ _ hl2] at nt2; cases nt2
    refine ⟨L ++ [(t2, ((x / 10).fmod n, w, (x / 100).fmod n))], _, _, _, rfl, sameIn ((sH.trans s3).trans s4) nlH, by rw [upd_ne ndl]; exact s4 _ _ (s3 _ _ hd2), by rw [upd_same, refs_snoc], fun p hp => ?_, by rw [List.length_append, len] <;> rfl, fun p hp => ?_, fun p hp => ?_⟩
    · rcases List.mem_append.mp hp with z | z
      · exact (hE.kp k5) p z
      · rw [List.mem_singleton.mp z]
        exact .inl (.inl (by rw [upd_ne nt2l]; exact upd_same))
    · rcases List.mem_append.mp hp with z | z
      · exact ok p z
      · rw [List.mem_singleton.mp z]
        exact ⟨Int.fmod_nonneg_of_pos _ hn0, Int.fmod_lt_of_pos _ hn0, Int.fmod_nonneg_of_pos _ hn0, Int.fmod_lt_of_pos _ hn0, acts0_sub _ hin⟩
    · rcases List.mem_append.mp hp with z | z
      · exact ok5 p z
      · rw [List.mem_singleton.mp z]
        exact hin
  · rintro σ H2 ⟨L, r5, r6, r7, rfl, sH, hd2, hl2, hE, len, ok, ok5⟩
    refine ⟨_, rfl, _, rfl, (by show 2 ≤ sizeLine; omega), fun t nt => ?_⟩
    have s3 := same_upd nt (.tup [.int n, .ref l])
    exact q t l n L _ (sH.trans s3) upd_same (s3 _ _ hl2) (hE.kp (Kp.of s3)) (by omega) (by omega) (by omega) ok ok5
/-- .. as most laws use it -/
def spSys (K : PySem.W.Frag) : Sp := fun vs H Q _ => ∃ (c m : Int), vs = [.int c, .int m] ∧ 1 ≤ m ∧ m ≤ 12 ∧
  ∀ (t l : Addr) (n : Int) (L : List (Addr × Ed)) (H' : Hp), Same H H' → H' t = some (.tup [.int n, .ref l]) → H' l = some (.lst (refs L)) → Eds K H' L → 1 ≤ n → n ≤ m → (L.length : Int) < 3 * m → (∀ p ∈ L, okE n p.2) → Q (.ref t) H'
theorem c_system (D : Df K mg "_law_system" s__law_system) (z_range : mg "range" = none) (c__law_draws : C8.Cal P w K mg base 1 "_law_draws" spDraws []) : C8.Cal P w K mg base 2 "_law_system" (spSys K) [] :=
  VB.calImp (c_system5 D z_range c__law_draws) fun vs H Q E ⟨c, m, e, m1, m2, q⟩ => ⟨c, m, e, m1, m2, fun t l n L H' s ht hl hE n1 n2 len ok _ => q t l n L H' s ht hl hE n1 n2 len ok⟩
end
end LW

set_option Elab.async false
set_option linter.all false
set_option maxRecDepth 100000
set_option maxHeartbeats 4000000
namespace LW
open PySem PySem.Spec PyProof.Rows L2 LamX NdefX VB VM VP VE VX
section
variable {P : Program} {w : World} {K : PySem.W.Frag} {mg : Str → Option Value} {base : Heap}
/-- each number once -/
def spOnceI (K : PySem.W.Frag) : Sp := fun vs H Q _ => ∃ (a : Addr) (ss : List Int), vs = [.ref a] ∧ SqL K H a (ss.map V.int) ∧ ss.length ≤ 100000 ∧
  ∀ (p : Addr), H p = none → Q (.ref p) (upd H p (.lst ((onceG [] ss).map V.int)))
theorem c_onceI (D : Df K mg "_law_once" s__law_once) : C8.Cal P w K mg base 1 "_law_once" (spOnceI K) [] := by
  refine D.cal sc__law_once (fun _ _ _ _ _ _ us hl => match us, hl with | [_], _ => rfl) (fun vs H Q E h => ?_) (fun f cdv A outer s H vs Q E hr h => ?_)
  · obtain ⟨a, ss, rfl, _⟩ := h
    rfl
  obtain ⟨a, ss, rfl, hS, hz, q⟩ := h
  refine ⟨_, (pss_cons (ps_set (i := 1) sc__law_once.nd rfl (Or.inl rfl) (pe_lst pa_nil))
    (pss_cons (ps_for PassesOwn.never rfl (pi_list (pv 0)) (pg_name (i := 2) sc__law_once.nd rfl (Or.inl rfl))
      (pss_one (ps_if (pt_cmpR (VK.notInQ (K := K) rfl) (pv 2) (pv 1) rfl)
        (pss_one (ps_expr (pe_bm PySem.F.plainAttrs_list PySem.F.slot_list_append PySem.F.type_list_append mt_append (pv 1) (pa_cons (pv 2) pa_nil))))
        pss_nil)))
    (pss_one (ps_ret (pv 1))))), ?_⟩
  have zl := sizeLine_eq
  refine ⟨Nat.zero_le _, fun l nl => ?_⟩
  have s0 : ∀ o, Same H (upd H l o) := fun o => same_upd nl o
  refine ⟨_, rfl, a, rfl, ⟨_, (s0 _).seq hS⟩, for_list (K := K) (a := a) (xs := ss.map V.int)
    (fun i σ H' => ∃ (rr : Option V), σ = [some (.ref a), some (.ref l), rr] ∧ H' = upd H l (.lst ((onceG [] (ss.take i)).map V.int)))
    ⟨none, rfl, rfl⟩ (fun i σ H' _ ⟨_, _, e⟩ => by rw [e]; exact (s0 _).seq hS) ?_ ?_⟩
  · rintro i x σ H' hi ⟨rr, rfl, rfl⟩
    have hi2 : i < ss.length := by
      have z := (List.getElem?_eq_some_iff.mp hi).1
      rw [List.length_map] at z
      exact z
    have ex : x = V.int ss[i] := by
      rw [List.getElem?_map, List.getElem?_eq_getElem hi2] at hi
      exact (Option.some.inj hi).symm
    subst ex
    have et : onceG [] (ss.take (i + 1)) = if ss[i] ∈ onceG [] (ss.take i) then onceG [] (ss.take i) else onceG [] (ss.take i) ++ [ss[i]] := by
      rw [List.take_add_one, List.getElem?_eq_getElem hi2]
      exact onceG_snoc _ _ _
    have lim : ((onceG [] (ss.take i)).map V.int).length < sizeLine := by
      rw [List.length_map]
      have z := onceG_len (ss.take i) []
      rw [List.length_take, List.length_nil] at z
      omega
    refine ⟨_, rfl, _, rfl, l, _, rfl, .inl (SqL.of upd_same), rfl, ?_, _, rfl, ?_⟩
    · rw [List.all_eq_true]
      intro v hv
      obtain ⟨x, _, rfl⟩ := List.mem_map.mp hv
      rfl
    · rw [inV_ints]
      refine iteMem (p := ss[i] ∈ onceG [] (ss.take i)) (fun h => ?_) (fun h => ?_)
      · refine ⟨_, rfl, ?_⟩
        rw [et, if_pos h]
      · refine ⟨_, rfl, .inl ⟨rfl, _, SqL.of upd_same⟩, _, rfl, l, _, _, rfl, rfl, upd_same, lim, ?_⟩
        refine ⟨_, rfl, ?_⟩
        rw [upd_upd, et, if_neg h, List.map_append] <;> rfl
  · rintro σ H' ⟨rr, rfl, rfl⟩
    rw [List.length_map, List.take_length]
    exact ⟨_, rfl, q l nl⟩
end
end LW

set_option Elab.async false
set_option linter.all false
set_option maxRecDepth 100000
set_option maxHeartbeats 4000000
namespace LW
open PySem PySem.Spec PyProof.Rows L2 LamX NdefX VB VM VP VE VX
abbrev s_System__check_state : Stmt := inClass (top 20) 7
theorem sc_System__check_state : FnScope ["self", "state"] ["self", "state"] (defScope s_System__check_state) := ⟨rfl, rfl, rfl, by decide +kernel, rfl, by decide +kernel, by decide +kernel⟩
section
variable {P : Program} {w : World} {K : PySem.W.Frag} {mg : Str → Option Value} {base : Heap}
/-- the state is there, or BadArgument -/
def spStX (K : PySem.W.Frag) (C CB : Addr) : Sp := fun vs H Q E => ∃ (φ : Addr → Prop) (p : Addr) (n : Int) (E0 : List Ed) (s : Int), vs = [.ref p, .int s] ∧ SysAt K φ C H p n E0 ∧ (0 ≤ s ∧ s < n → Q .non H) ∧ (¬ (0 ≤ s ∧ s < n) → E (.ref CB) none H)
theorem c_stateX {C CB f : Addr} {fd : FuncData} (T : SysTxt K C) (me : Meth K C "_check_state" f) (F : FunD K "_check_state" "System._check_state" (defArgs s_System__check_state) (defBody s_System__check_state) (defScope s_System__check_state) [] [] f fd)
    (e_BadArgument : VE.Own K mg "BadArgument" CB) : VE.MetX P w K mg base 1 C "_check_state" (spStX K C CB) := by
  refine metXOf T.cl me F sc_System__check_state (fun _ _ _ _ _ _ us hl => match us, hl with | [_, _], _ => rfl) (fun vs H Q E h => ?_) (fun cdv A outer s H vs Q E hr h => ?_)
  · obtain ⟨φ, p, n, E0, s, rfl, _⟩ := h
    rfl
  obtain ⟨φ, p, n, E0, s, rfl, ⟨⟨dx, te, ll, td, LE, rows, kvs, S⟩, _, _⟩, q, qe⟩ := h
  refine ⟨_, (pss_one (ps_if (pt_not (pt_chain op_le op_lt pe_int (pv 1) (pe_fld (pv 0) rfl)))
      (pss_one (ps_raise rfl (takes_of rfl rfl rfl rfl) (pmk_own PySem.F.excBase_ValueError e_BadArgument.xP e_BadArgument.at_ e_BadArgument.kP (raises_own e_BadArgument.bP e_BadArgument.tP) rfl)))
      pss_nil)), ?_⟩
  refine ⟨_, rfl, _, _, rfl, rfl, _, rfl, ?_⟩
  by_cases s0 : 0 ≤ s
  case neg => exact iteFe (decide_eq_false s0) ⟨_, rfl, iteT (qe fun z => s0 z.1)⟩
  refine iteTe (decide_eq_true s0) ⟨_, rfl, p, C, dx, _, _, rfl, S.hp, T.cl, T.n0, fl_count n te ll td, _, _, rfl, rfl, _, rfl, ?_⟩
  by_cases s1 : s < n
  case neg => exact iteTe (by rw [decide_eq_false s1] <;> rfl) (qe fun z => s1 z.2)
  exact iteNT s1 (q ⟨s0, s1⟩)
theorem SysIn.rowAt {φ : Addr → Prop} {C p : Addr} {H : Hp} {n : Int} {E : List Ed} {dx te ll td : Addr} {LE : List (Addr × Ed)} {rows : List Addr} {kvs : List (List Key × V)} (S : SysIn K φ C H p n E dx te ll td LE rows kvs) {s : Int} (s0 : 0 ≤ s) (s1 : s < n) :
    ∃ (a : Addr) (LP : List (Addr × Pr)), atI (rows.map V.ref) s = some (.ref a) ∧ H a = some (.lst (refs LP)) ∧ Pqs K H LP ∧ LP.map (·.2) = leav E s := by
  have lts : s.toNat < rows.length := by have := S.len; omega
  have es : s = ((s.toNat : Nat) : Int) := by omega
  have ha : rows[s.toNat]? = some rows[s.toNat] := List.getElem?_eq_getElem lts
  generalize rows[s.toNat] = a at ha
  obtain ⟨_, LP, g1, g2, g3⟩ := S.row _ _ ha
  exact ⟨a, LP, by rw [es]; exact atI_nat (by rw [List.getElem?_map, ha] <;> rfl), g1, g2, by rw [g3, ← es]⟩
end
end LW

set_option Elab.async false
set_option linter.all false
set_option maxRecDepth 100000
set_option maxHeartbeats 4000000
namespace LW
open PySem PySem.Spec PyProof.Rows L2 LamX NdefX VB VM VP VE VX
section
variable {P : Program} {w : World} {K : PySem.W.Frag} {mg : Str → Option Value} {base : Heap}
def spTargX (K : PySem.W.Frag) (C CB : Addr) : Sp := fun vs H Q E => ∃ (φ : Addr → Prop) (p : Addr) (n : Int) (E0 : List Ed) (s : Int) (x : Str), vs = [.ref p, .int s, .str x] ∧ SysAt K φ C H p n E0 ∧ (¬ (0 ≤ s ∧ s < n) → E (.ref CB) none H) ∧
  (0 ≤ s ∧ s < n → ∀ (q : Addr) (H' : Hp), Same H H' → H q = none → H' q = some (.lst ((tg E0 s x).map V.int)) → Q (.ref q) H')
end
end LW

set_option Elab.async false
set_option linter.all false
set_option maxRecDepth 100000
set_option maxHeartbeats 4000000
namespace LW
open PySem PySem.Spec PyProof.Rows L2 LamX NdefX VB VM VP VE VX
/-- the actions of a state, without tau -/
def acs (E : List Ed) (s : Int) : List Str := ((leav E s).filter fun p => decide (¬ p.1 = ("tau" : Str))).map (·.1)
def srtS (l : List Str) : List Str := (onceG [] l).mergeSort VS.leS
def evs (E : List Ed) : List Str := (E.map (·.2.1)).filter fun x => decide (¬ x ∈ [("tau" : Str), "tick"])
theorem tg_leav (E : List Ed) (s : Int) (x : Str) : ((leav E s).filter fun p => decide (p.1 = x)).map (·.2) = tg E s x := by
  unfold tg leav
  induction E with
  | nil => rfl
  | cons e E ih =>
    by_cases h1 : e.1 = s
    · rw [List.filter_cons_of_pos (by simpa using h1), List.map_cons]
      by_cases h2 : e.2.1 = x
      · rw [List.filter_cons_of_pos (by simpa using h2), List.filter_cons_of_pos (by simpa using ⟨h1, h2⟩), List.map_cons, List.map_cons, ih]
      · rw [List.filter_cons_of_neg (by simpa using h2), List.filter_cons_of_neg (by simpa using fun _ => h2), ih]
    · rw [List.filter_cons_of_neg (by simpa using h1), List.filter_cons_of_neg (by simpa using fun z => absurd z h1), ih]
theorem acs_flat (E : List Ed) (s : Int) : (E.filter fun e => decide (e.1 = s ∧ ¬ e.2.1 = ("tau" : Str))).map (·.2.1) = acs E s := by
  unfold acs leav
  induction E with
  | nil => rfl
  | cons e E ih =>
    by_cases h1 : e.1 = s
    · rw [List.filter_cons_of_pos (a := e) (p := fun e => decide (e.1 = s)) (by simpa using h1), List.map_cons]
      by_cases h2 : e.2.1 = "tau"
      · rw [List.filter_cons_of_neg (by simpa using fun _ => h2), List.filter_cons_of_neg (by simpa using h2), ih]
      · rw [List.filter_cons_of_pos (by simpa using ⟨h1, h2⟩), List.filter_cons_of_pos (by simpa using h2), List.map_cons, List.map_cons, ih]
    · rw [List.filter_cons_of_neg (by simpa using fun z => absurd z h1), List.filter_cons_of_neg (by simpa using h1), ih]
/-- a sorted set is told by its members -/
theorem srtS_of {ss l : List Str} (nd : ss.Nodup) (h : ∀ x, x ∈ ss ↔ x ∈ l) : ss.mergeSort VS.leS = srtS l :=
  VB.sort_mem nd (onceG_nodup _ _ List.nodup_nil) fun x => by rw [h, onceG_mem]; simp
end LW

set_option Elab.async false
set_option linter.all false
set_option maxRecDepth 100000
set_option maxHeartbeats 4000000
namespace LW
open PySem PySem.Spec PyProof.Rows L2 LamX NdefX VB VM VP VE VX VQ
end LW

set_option Elab.async false
set_option linter.all false
set_option maxRecDepth 100000
set_option maxHeartbeats 4000000
namespace LW
open PySem PySem.Spec PyProof.Rows L2 LamX NdefX VB VM VP VE VX
abbrev s_System_offers : Stmt := inClass (top 20) 4
theorem sc_System_offers : FnScope ["self", "state", "action", "_"] ["self", "state"] (defScope s_System_offers) := ⟨rfl, rfl, rfl, by decide +kernel, rfl, by decide +kernel, by decide +kernel⟩
section
variable {P : Program} {w : World} {K : PySem.W.Frag} {mg : Str → Option Value} {base : Heap}
def spOffX (K : PySem.W.Frag) (C CB : Addr) : Sp := fun vs H Q E => ∃ (φ : Addr → Prop) (p : Addr) (n : Int) (E0 : List Ed) (s : Int), vs = [.ref p, .int s] ∧ SysAt K φ C H p n E0 ∧ E0.length ≤ 1000 ∧ (¬ (0 ≤ s ∧ s < n) → E (.ref CB) none H) ∧
  (0 ≤ s ∧ s < n → ∀ (q : Addr) (H' : Hp), Same H H' → H' q = some (.tup ((srtS (acs E0 s)).map V.str)) → Q (.ref q) H')
theorem c_offersX {C CB f : Addr} {fd : FuncData} (T : SysTxt K C) (me : Meth K C "offers" f) (F : FunD K "offers" "System.offers" (defArgs s_System_offers) (defBody s_System_offers) (defScope s_System_offers) [] [] f fd)
    (z_tuple : mg "tuple" = none) (z_sorted : mg "sorted" = none) (z_set : mg "set" = none) (c_System__check_state : VE.MetX P w K mg base 1 C "_check_state" (spStX K C CB)) : VE.MetX P w K mg base 2 C "offers" (spOffX K C CB) := by
  refine metXOf T.cl me F sc_System_offers (fun _ _ _ _ _ _ us hl => match us, hl with | [_, _], _ => rfl) (fun vs H Q E h => ?_) (fun cdv A outer s H vs Q E hr h => ?_)
  · obtain ⟨φ, p, n, E0, s, rfl, _⟩ := h
    rfl
  obtain ⟨φ, p, n, E0, s, rfl, SA, lenE, qe, q⟩ := h
  have SA' := SA
  obtain ⟨⟨dx, te, ll, td, LE, rows, kvs, S⟩, _, ok⟩ := SA
  have zl := sizeLine_eq
  refine ⟨_, (pss_cons (ps_expr (VE.pe_mX c_System__check_state hr (by first | decide | omega) (takes_of rfl rfl rfl rfl) (pv 0) (pa_cons (pv 1) pa_nil)))
    (pss_one (ps_ret (pe_callTy (VK.tupQ (K := K) rfl) (by rfl) z_tuple (by decide +kernel) (pa_cons (pe_callB (VK.sortedM (w := w) rfl rfl hr) (by rfl) z_sorted (by decide +kernel) (pa_cons (pe_callTy (VO.cr_setS (K := K) (w := w) rfl rfl rfl (VP.un3 hr)) (by rfl) z_set (by decide +kernel) (pa_cons (pe_lc (own := [("action", 2), ("_", 3)]) (g := gTup K 2 (gCons (gName 2) (gCons (gName 3) gNil))) rfl sc_System_offers.nd (pi_list (pe_ix (VK.ixL (K := K) rfl) (pe_fld (pv 0) rfl) (pv 1) (fun _ _ => rfl))) (blkOk_by (N := ["self", "state", "action", "_"]) (sc := defScope s_System_offers) (by decide +kernel)) (fun _ _ _ _ _ => (pg_tup rfl (pgs_cons (pg_name (i := 2) sc_System_offers.nd rfl (Or.inl rfl) (hf := Or.inr rfl)) (pgs_cons (pg_name (i := 3) sc_System_offers.nd rfl (Or.inl rfl) (hf := Or.inr rfl)) pgs_nil)))) (fun _ _ _ _ _ => (pts_one (pt_cmpR op_ne (pv 2) pe_str (nomark _)))) (fun _ _ _ _ _ => (pv 2))) pa_nil)) pa_nil)) pa_nil))))), ?_⟩
  refine ⟨_, rfl, p, dx, _, rfl, S.hp, fl_none n te ll td (by decide +kernel) (by decide +kernel) (by decide +kernel) (by decide +kernel), _, rfl, φ, p, n, E0, s, rfl, SA', fun hs => ?_, qe⟩
  obtain ⟨a, LP, hat, g1, g2, g3⟩ := S.rowAt hs.1 hs.2
  have lenP : LP.length ≤ 1000 := by
    have z : LP.length = (leav E0 s).length := by rw [← g3, List.length_map]
    have y : (leav E0 s).length ≤ E0.length := by
      unfold leav
      rw [List.length_map]
      exact List.length_filter_le _ _
    omega
  refine ⟨_, rfl, p, C, dx, _, _, rfl, S.hp, T.cl, T.n2, fl_leav n te ll td, _, rfl, ll, _, _, _, rfl, rfl, SqL.of S.hl, hat, a, rfl, ⟨_, SqL.of g1⟩, fun D1 nD => ?_⟩
  refine lc_list (K := K) (a := a) (xs := refs LP) (fun i H2 => Same H H2 ∧ H2 D1 = some (.lst ((((LP.map (·.2)).take i).filter fun p => decide (¬ p.1 = ("tau" : Str))).map fun p => V.str p.1))) ⟨same_upd nD _, upd_same⟩ (fun i H2 _ z => z.1.seq (SqL.of g1)) ?_ ?_
  · rintro i v H2 hv ⟨s2, hD⟩
    obtain ⟨r, hr2, rfl⟩ := refs_at hv
    have rin := List.mem_of_getElem? hr2
    have lti := (List.getElem?_eq_some_iff.mp hr2).1
    have tk : (LP.map (·.2)).take (i + 1) = (LP.map (·.2)).take i ++ [r.2] := by rw [List.take_succ, List.getElem?_map, hr2] <;> rfl
    refine ⟨r.1, _, rfl, (g2.kp (Kp.of s2)) r rin, rfl, .str r.2.1, _, rfl, .int r.2.2, _, rfl, rfl, rfl, ?_⟩
    refine ⟨_, rfl, rfl, _, rfl, ?_⟩
    refine ite2 (fun c => ?_) (fun c => ?_)
    · have ne : ¬ r.2.1 = ("tau" : Str) := by simpa using c
      refine ⟨_, rfl, _, hD, ?_, sameIn s2 nD, ?_⟩
      · rw [List.length_map]
        have z := List.length_filter_le (fun p : Pr => decide (¬ p.1 = ("tau" : Str))) ((LP.map (·.2)).take i)
        have y := List.length_take_le i (LP.map (·.2))
        omega
      · rw [upd_same, tk, List.filter_append, List.filter_cons_of_pos (by simpa using ne), List.filter_nil, List.map_append] <;> rfl
    · have eq : r.2.1 = ("tau" : Str) := by simpa using c
      refine ⟨s2, ?_⟩
      rw [hD, tk, List.filter_append, List.filter_cons_of_neg (by simpa using eq), List.filter_nil, List.append_nil]
  · rintro H2 ⟨s2, hD⟩
    rw [refs_len, List.take_of_length_le (by rw [List.length_map]; exact Nat.le_refl _), g3] at hD
    have hD2 : H2 D1 = some (.lst ((acs E0 s).map V.str)) := by
      rw [hD]
      unfold acs
      rw [List.map_map] <;> rfl
    have lenA : (acs E0 s).length ≤ 1000 := by
      unfold acs
      rw [List.length_map]
      refine Nat.le_trans (List.length_filter_le _ _) ?_
      rw [← g3, List.length_map]
      exact lenP
    refine ⟨D1, _, rfl, SqL.of hD2, (by show (acs E0 s).length + 1 < 4096; omega), fun b M m nb mem lm => ?_⟩
    have s3 := same_upd nb (VS.SetMO w b M m)
    refine ⟨b, M, m, rfl, upd_same, fun k hk => ?_, fun ss c nd ms ls nc => ?_⟩
    · obtain ⟨x, _, e⟩ := (mem k).1 hk
      exact ⟨x, e⟩
    have s4 := same_upd nc (.lst ((ss.mergeSort VS.leS).map V.str))
    have es : ss.mergeSort VS.leS = srtS (acs E0 s) := srtS_of nd fun x => by
      rw [ms, mem]
      constructor
      · rintro ⟨y, hy, e⟩
        cases e
        exact hy
      · exact fun hx => ⟨x, hx, rfl⟩
    rw [es] at s4 ⊢
    refine ⟨c, _, rfl, .inl ⟨SqL.of upd_same, fun l nl => q hs l _ (((s2.trans s3).trans s4).trans (same_upd nl _)) upd_same⟩⟩
end
end LW

set_option Elab.async false
set_option linter.all false
set_option maxRecDepth 100000
set_option maxHeartbeats 4000000
namespace LW
open PySem PySem.Spec PyProof.Rows L2 LamX NdefX VB VM VP VE VX VQ VZ VD
end LW

set_option Elab.async false
set_option linter.all false
set_option maxRecDepth 100000
set_option maxHeartbeats 4000000
namespace LW
open PySem PySem.Spec PyProof.Rows L2 LamX NdefX VB VM VP VE VX
section
variable {P : Program} {w : World} {K : PySem.W.Frag} {mg : Str → Option Value} {base : Heap}
def spStabX (K : PySem.W.Frag) (C CB : Addr) : Sp := fun vs H Q E => ∃ (φ : Addr → Prop) (p : Addr) (n : Int) (E0 : List Ed) (s : Int), vs = [.ref p, .int s] ∧ SysAt K φ C H p n E0 ∧ (¬ (0 ≤ s ∧ s < n) → E (.ref CB) none H) ∧
  (0 ≤ s ∧ s < n → ∀ (H' : Hp), Same H H' → Q (.bl (decide (tg E0 s "tau" = []))) H')
end
end LW

set_option Elab.async false
set_option linter.all false
set_option maxRecDepth 100000
set_option maxHeartbeats 4000000
namespace LW
open PySem PySem.Spec PyProof.Rows L2 LamX NdefX VB VM VP VE VX VQ VZ VD
end LW

set_option Elab.async false
set_option linter.all false
set_option maxRecDepth 100000
set_option maxHeartbeats 4000000
namespace LW
open PySem PySem.Spec PyProof.Rows L2 LamX NdefX VB VM VP VE VX VQ
theorem tg_mem {E : List Ed} {s : Int} {x : Str} {y : Int} : y ∈ tg E s x ↔ (s, x, y) ∈ E := by
  unfold tg
  rw [List.mem_map]
  constructor
  · rintro ⟨e, he, rfl⟩
    obtain ⟨h1, h2⟩ := List.mem_filter.mp he
    obtain ⟨rfl, rfl⟩ := of_decide_eq_true h2
    exact h1
  · intro h
    exact ⟨_, List.mem_filter.mpr ⟨h, by simp⟩, rfl⟩
theorem tg_len (E : List Ed) (s : Int) (x : Str) : (tg E s x).length ≤ E.length := by
  unfold tg
  rw [List.length_map]
  exact List.length_filter_le _ _
theorem few_of {n : Int} {l : List Int} (nd : l.Nodup) (h : ∀ x ∈ l, 0 ≤ x ∧ x < n) : l.length ≤ n.toNat := by
  have z := nd_le l (rng n.toNat) nd fun x hx => rng_mem.2 ⟨(h x hx).1, by have := (h x hx).2; omega⟩
  rw [rng_len] at z
  exact z
theorem SysAt.rangeR {K : PySem.W.Frag} {φ : Addr → Prop} {C p : Addr} {H : Hp} {n : Int} {E : List Ed} (S : SysAt K φ C H p n E) {ss : List Int} (hs : ∀ x ∈ ss, 0 ≤ x ∧ x < n) {x : Int} (h : Rch E ss x) : 0 ≤ x ∧ x < n :=
  Rch.range (P := fun x => 0 ≤ x ∧ x < n) (fun e he => ⟨(S.ok e he).2.2.1, (S.ok e he).2.2.2.1⟩) hs h
section
variable {P : Program} {w : World} {K : PySem.W.Frag} {mg : Str → Option Value} {base : Heap}
def spClos (K : PySem.W.Frag) (C : Addr) : Sp := fun vs H Q _ => ∃ (φ : Addr → Prop) (p a : Addr) (n : Int) (E0 : List Ed) (ss : List Int), vs = [.ref p, .ref a] ∧ SysAt K φ C H p n E0 ∧ n ≤ 60 ∧ E0.length ≤ 1000 ∧
  (SqL K H a (ss.map V.int) ∨ SqT K H a (ss.map V.int)) ∧ (∀ x ∈ ss, 0 ≤ x ∧ x < n) ∧ ss.length ≤ 100000 ∧
  ∀ (q : Addr) (H' : Hp) (cs : List Int), Same H H' → H' q = some (.tup (cs.map V.int)) → IsClo E0 ss cs → Q (.ref q) H'
end
end LW

set_option Elab.async false
set_option linter.all false
set_option maxRecDepth 100000
set_option maxHeartbeats 4000000
namespace LW
open PySem PySem.Spec PyProof.Rows L2 LamX NdefX VB VM VP VE VX VQ
/-- the states to which edges with an action lead -/
def aft (E : List Ed) (ss : List Int) (x : Str) : List Int := (ss.map fun s => tg E s x).flatten
theorem aft_snoc (E : List Ed) (ss : List Int) (s : Int) (x : Str) : aft E (ss ++ [s]) x = aft E ss x ++ tg E s x := by
  unfold aft
  rw [List.map_append, List.flatten_append, List.map_singleton, List.flatten_singleton]
theorem aft_mem {E : List Ed} {ss : List Int} {x : Str} {y : Int} : y ∈ aft E ss x ↔ ∃ s ∈ ss, (s, x, y) ∈ E := by
  unfold aft
  rw [List.mem_flatten]
  constructor
  · rintro ⟨l, hl, hy⟩
    obtain ⟨s, hs, rfl⟩ := List.mem_map.mp hl
    exact ⟨s, hs, tg_mem.1 hy⟩
  · rintro ⟨s, hs, h⟩
    exact ⟨_, List.mem_map_of_mem hs, tg_mem.2 h⟩
theorem aft_len (E : List Ed) (x : Str) : ∀ ss : List Int, (aft E ss x).length ≤ ss.length * E.length
  | [] => Nat.zero_le _
  | s :: ss => by
    have z := aft_len E x ss
    have y := tg_len E s x
    unfold aft at *
    rw [List.map_cons, List.flatten_cons, List.length_append, List.length_cons, Nat.add_mul, Nat.one_mul]
    omega
/-- the states after a trace, step by step -/
def Runs (E : List Ed) : List Int → List Str → List Int → Prop
  | ds, [], cs => cs = ds
  | ds, x :: r, cs => ∃ es, IsClo E (aft E ds x) es ∧ Runs E es r cs
theorem runs_snoc {E : List Ed} : ∀ {r : List Str} {ds cs : List Int} {x : Str}, Runs E ds (r ++ [x]) cs ↔ ∃ es, Runs E ds r es ∧ IsClo E (aft E es x) cs
  | [], ds, cs, x => ⟨fun ⟨es, h, e⟩ => ⟨ds, rfl, by rw [show cs = es from e]; exact h⟩, fun ⟨es, e, h⟩ => ⟨cs, by rw [← show es = ds from e]; exact h, rfl⟩⟩
  | y :: r, ds, cs, x => ⟨fun ⟨es, h, g⟩ => by
      obtain ⟨fs, h2, g2⟩ := runs_snoc.1 g
      exact ⟨fs, ⟨es, h, h2⟩, g2⟩, fun ⟨fs, ⟨es, h, h2⟩, g⟩ => ⟨es, h, runs_snoc.2 ⟨fs, h2, g⟩⟩⟩
theorem runs_uniq {E : List Ed} : ∀ {r : List Str} {ds cs es : List Int}, Runs E ds r cs → Runs E ds r es → cs = es
  | [], _, _, _, h, g => (show _ = _ from h).trans (show _ = _ from g).symm
  | _ :: _, _, _, _, ⟨a, h1, h2⟩, ⟨b, g1, g2⟩ => by
    obtain rfl := h1.uniq g1
    exact runs_uniq h2 g2
theorem aft_congr {E E' : List Ed} (h : ∀ e, e ∈ E ↔ e ∈ E') {ss : List Int} {x : Str} {y : Int} : y ∈ aft E ss x ↔ y ∈ aft E' ss x := by
  rw [aft_mem, aft_mem]
  exact ⟨fun ⟨s, a, b⟩ => ⟨s, a, (h _).1 b⟩, fun ⟨s, a, b⟩ => ⟨s, a, (h _).2 b⟩⟩
theorem runs_congr {E E' : List Ed} (h : ∀ e, e ∈ E ↔ e ∈ E') : ∀ {r : List Str} {ds cs : List Int}, Runs E ds r cs → Runs E' ds r cs
  | [], _, _, e => e
  | _ :: _, _, _, ⟨es, a, b⟩ => ⟨es, a.congr h fun _ => aft_congr h, runs_congr h b⟩
theorem aft_range {n : Int} {E : List Ed} (ok : ∀ e ∈ E, okE n e) {ss : List Int} {x : Str} : ∀ y ∈ aft E ss x, 0 ≤ y ∧ y < n := fun y hy => by
  obtain ⟨s, _, h⟩ := aft_mem.1 hy
  exact ⟨(ok _ h).2.2.1, (ok _ h).2.2.2.1⟩
theorem clo_range {n : Int} {E : List Ed} (ok : ∀ e ∈ E, okE n e) {ss cs : List Int} (h : IsClo E ss cs) (hs : ∀ x ∈ ss, 0 ≤ x ∧ x < n) : ∀ x ∈ cs, 0 ≤ x ∧ x < n := fun x hx =>
  Rch.range (P := fun x => 0 ≤ x ∧ x < n) (fun e he => ⟨(ok e he).2.2.1, (ok e he).2.2.2.1⟩) hs ((h.mem x).1 hx)
theorem clo_len {n : Int} {E : List Ed} (ok : ∀ e ∈ E, okE n e) {ss cs : List Int} (h : IsClo E ss cs) (hs : ∀ x ∈ ss, 0 ≤ x ∧ x < n) : cs.length ≤ n.toNat :=
  few_of (ascI_nodup h.asc) (clo_range ok h hs)
section
variable {P : Program} {w : World} {K : PySem.W.Frag} {mg : Str → Option Value} {base : Heap}
def spAft (K : PySem.W.Frag) (C : Addr) : Sp := fun vs H Q _ => ∃ (φ : Addr → Prop) (p a : Addr) (n : Int) (E0 : List Ed) (ss : List Int) (x : Str), vs = [.ref p, .ref a, .str x] ∧ SysAt K φ C H p n E0 ∧ n ≤ 60 ∧ E0.length ≤ 1000 ∧
  SqT K H a (ss.map V.int) ∧ (∀ x ∈ ss, 0 ≤ x ∧ x < n) ∧ ss.length ≤ 60 ∧
  ∀ (q : Addr) (H' : Hp) (cs : List Int), Same H H' → H' q = some (.tup (cs.map V.int)) → IsClo E0 (aft E0 ss x) cs → Q (.ref q) H'
end
end LW

set_option Elab.async false
set_option linter.all false
set_option maxRecDepth 100000
set_option maxHeartbeats 4000000
namespace LW
open PySem PySem.Spec PyProof.Rows L2 LamX NdefX VB VM VP VE VX VQ
section
variable {P : Program} {w : World} {K : PySem.W.Frag} {mg : Str → Option Value} {base : Heap}
/-- the states after a trace -/
def spStA (K : PySem.W.Frag) (C : Addr) : Sp := fun vs H Q _ => ∃ (φ : Addr → Prop) (p a : Addr) (n : Int) (E0 : List Ed) (xs : List Str), vs = [.ref p, .ref a] ∧ SysAt K φ C H p n E0 ∧ 1 ≤ n ∧ n ≤ 60 ∧ E0.length ≤ 1000 ∧ SqT K H a (xs.map V.str) ∧
  ∀ (q : Addr) (H' : Hp) (c0 cs : List Int), Same H H' → H' q = some (.tup (cs.map V.int)) → IsClo E0 [0] c0 → Runs E0 c0 xs cs → (∀ x ∈ cs, 0 ≤ x ∧ x < n) → cs.length ≤ 60 → Q (.ref q) H'
end
end LW

set_option Elab.async false
set_option linter.all false
set_option maxRecDepth 100000
set_option maxHeartbeats 4000000
namespace LW
open PySem PySem.Spec PyProof.Rows L2 LamX NdefX VB VM VP VE VX VQ VZ VD
/-- a tuple of texts -/
def rowD (x : List Str) : PyData := .tuple (x.map PyData.str)
def ltR (a b : List Str) : Prop := PySem.W.dataLt (rowD a) (rowD b) = true
instance : DecidableRel ltR := fun a b => inferInstanceAs (Decidable (PySem.W.dataLt (rowD a) (rowD b) = true))
theorem toks_inj : ∀ xs ys : List Str, PySem.W.keyToksAll (xs.map PyData.str) = PySem.W.keyToksAll (ys.map PyData.str) → xs = ys
  | [], [], _ => rfl
  | [], y :: ys, h => by
    rw [List.map_nil, List.map_cons, PySem.W.toks_all_cons] at h
    simp [PySem.W.keyToksAll] at h
  | x :: xs, [], h => by
    rw [List.map_nil, List.map_cons, PySem.W.toks_all_cons] at h
    simp [PySem.W.keyToksAll] at h
  | x :: xs, y :: ys, h => by
    rw [List.map_cons, List.map_cons, PySem.W.toks_all_cons, PySem.W.toks_all_cons] at h
    injection h with _ h
    simp only [PySem.W.keyToks, List.cons_append, List.nil_append] at h
    injection h with h1 h2
    injection h1 with h1
    rw [PyProof.Rows.ext_toList h1, toks_inj xs ys h2]
theorem ltR_irrefl (a : List Str) : ¬ ltR a a := by
  intro h
  have z : PySem.W.dataLt (rowD a) (rowD a) = false := (PyProof.Rows.listOrd PyProof.Rows.itemOrd).irrefl (PySem.W.keyToks (rowD a))
  unfold ltR at h
  rw [z] at h
  cases h
theorem ltR_trans {a b c : List Str} (h : ltR a b) (g : ltR b c) : ltR a c := (PyProof.Rows.listOrd PyProof.Rows.itemOrd).trans _ _ _ h g
theorem ltR_tri {a b : List Str} (h : ¬ ltR a b) (g : ¬ ltR b a) : a = b :=
  toks_inj a b ((PyProof.Rows.listOrd PyProof.Rows.itemOrd).total _ _ (Bool.eq_false_iff.mpr h) (Bool.eq_false_iff.mpr g))
theorem ascR {l m : List (List Str)} (hl : l.Pairwise ltR) (hm : m.Pairwise ltR) (h : ∀ x, x ∈ l ↔ x ∈ m) : l = m := asc_unique ltR_irrefl (fun _ _ _ => ltR_trans) hl hm h
theorem strs_alike : ∀ xs ys : List Str, PySem.W.alikeAll (xs.map PyData.str) (ys.map PyData.str) = true
  | [], _ => by rw [List.map_nil]; unfold PySem.W.alikeAll; rfl
  | _ :: _, [] => by rw [List.map_cons, List.map_nil]; unfold PySem.W.alikeAll; rfl
  | x :: xs, y :: ys => by
    rw [List.map_cons, List.map_cons]
    unfold PySem.W.alikeAll
    rw [strs_alike xs ys]
    rfl
theorem row_alike (a b : List Str) : PySem.W.alike (rowD a) (rowD b) = true := strs_alike a b
def Rows (K : PySem.W.Frag) (H : Hp) (L : List (Addr × List Str)) : Prop := ∀ p ∈ L, SqT K H p.1 (p.2.map V.str)
theorem Rows.kp {K : PySem.W.Frag} {H H' : Hp} {L : List (Addr × List Str)} (h : Rows K H L) (x : Kp H H') : Rows K H' L := fun p hp => x.sqT (h p hp)
def rowK (x : List Str) : List Key := x.map Sum.inr
theorem rowK_inj : ∀ {x y : List Str}, rowK x = rowK y → x = y
  | [], [], _ => rfl
  | [], _ :: _, h => by cases h
  | _ :: _, [], h => by cases h
  | a :: x, b :: y, h => by
    unfold rowK at h
    rw [List.map_cons, List.map_cons] at h
    injection h with h1 h2
    rw [Sum.inr.inj h1, rowK_inj (x := x) (y := y) h2]
theorem keysD_row (x : List Str) : VT.keysD (rowK x) = rowD x := by
  unfold VT.keysD rowK rowD
  rw [List.map_map]
  rfl
theorem rowK_kV (x : List Str) : (rowK x).map kV = x.map V.str := by
  unfold rowK
  rw [List.map_map]
  rfl
theorem srtR {le : Addr × List Str → Addr × List Str → Bool} (hle : ∀ a b, le a b = !decide (ltR b.2 a.2)) {L : List (Addr × List Str)} (nd : (L.map (·.2)).Nodup) : ((L.mergeSort le).map (·.2)).Pairwise ltR := by
  have z : (L.mergeSort le).map (·.2) = (L.map (·.2)).mergeSort fun a b => !decide (ltR b a) := List.map_mergeSort fun a _ b _ => hle a b
  rw [z]
  exact asc_of_sorted (fun a b h g => ltR_tri h g) (fun a b => rfl) (fun a b c => ltR_trans) ltR_irrefl nd
theorem sorted_rows {M : List (Addr × List Key)} {L : List (Addr × List Str)} (sub : ∀ q ∈ M, q ∈ L.map fun p => (p.1, rowK p.2)) (nd : (M.map (·.2)).Nodup) :
    ∃ RL : List (Addr × List Str), M.mergeSort VT.leK = RL.map (fun p => (p.1, rowK p.2)) ∧ (∀ p ∈ RL, p ∈ L) ∧ (RL.map (·.2)).Pairwise ltR ∧ ∀ x, x ∈ RL.map (·.2) ↔ rowK x ∈ M.map (·.2) := by
  obtain ⟨L3, e3, s3⟩ : ∃ L3 : List (Addr × List Str), M = L3.map (fun p => (p.1, rowK p.2)) ∧ ∀ p ∈ L3, p ∈ L := by
    clear nd
    induction M with
    | nil => exact ⟨[], rfl, fun p z => absurd z List.not_mem_nil⟩
    | cons q M ih =>
      obtain ⟨L3, e, s⟩ := ih fun x hx => sub x (List.mem_cons_of_mem _ hx)
      obtain ⟨p, hp, rfl⟩ := List.mem_map.mp (sub q List.mem_cons_self)
      refine ⟨p :: L3, by rw [List.map_cons, e], fun x hx => ?_⟩
      rcases List.mem_cons.mp hx with rfl | z
      · exact hp
      · exact s x z
  have e32 : M.map (·.2) = (L3.map (·.2)).map rowK := by rw [e3, List.map_map, List.map_map]; rfl
  have nd3 : (L3.map (·.2)).Nodup := by
    rw [e32] at nd
    exact List.Pairwise.of_map _ (fun a b hab e => hab (congrArg rowK e)) nd
  refine ⟨L3.mergeSort fun a b => !decide (ltR b.2 a.2), ?_, fun p hp => s3 p (List.mem_mergeSort.mp hp), srtR (fun a b => rfl) nd3, fun x => ?_⟩
  · rw [e3]
    refine (List.map_mergeSort fun a _ b _ => ?_).symm
    show (!decide (ltR b.2 a.2)) = !PySem.W.dataLt (VT.keysD (rowK b.2)) (VT.keysD (rowK a.2))
    rw [keysD_row, keysD_row]
    unfold ltR
    exact congrArg (fun b => !b) (Bool.eq_iff_iff.mpr decide_eq_true_iff)
  · rw [e32, ((List.mergeSort_perm L3 _).map _).mem_iff]
    constructor
    · exact fun h => List.mem_map_of_mem h
    · intro h
      obtain ⟨y, hy, e⟩ := List.mem_map.mp h
      rw [← rowK_inj e]
      exact hy
section
variable {P : Program} {w : World} {K : PySem.W.Frag} {mg : Str → Option Value} {base : Heap}
def spAmo (K : PySem.W.Frag) (C : Addr) : Sp := fun vs H Q _ => ∃ (φ : Addr → Prop) (p a : Addr) (n : Int) (E0 : List Ed) (ss : List Int), vs = [.ref p, .ref a] ∧ SysAt K φ C H p n E0 ∧ E0.length ≤ 1000 ∧ SqT K H a (ss.map V.int) ∧ (∀ x ∈ ss, 0 ≤ x ∧ x < n) ∧ ss.length ≤ 60 ∧
  ∀ (q : Addr) (H' : Hp) (RL : List (Addr × List Str)), Same H H' → H' q = some (.lst (refs RL)) → Rows K H' RL → (RL.map (·.2)).Pairwise ltR → (∀ x, x ∈ RL.map (·.2) ↔ ∃ s ∈ ss, tg E0 s "tau" = [] ∧ x = srtS (acs E0 s)) → RL.length ≤ 60 → Q (.ref q) H'
end
end LW

set_option Elab.async false
set_option linter.all false
set_option maxRecDepth 100000
set_option maxHeartbeats 4000000
namespace LW
open PySem PySem.Spec PyProof.Rows L2 LamX NdefX VB VM VP VE VX VQ
section
variable {P : Program} {w : World} {K : PySem.W.Frag} {mg : Str → Option Value} {base : Heap}
def spIsT (K : PySem.W.Frag) (C : Addr) : Sp := fun vs H Q _ => ∃ (φ : Addr → Prop) (p a : Addr) (n : Int) (E0 : List Ed) (xs : List Str), vs = [.ref p, .ref a] ∧ SysAt K φ C H p n E0 ∧ 1 ≤ n ∧ n ≤ 60 ∧ E0.length ≤ 1000 ∧ SqT K H a (xs.map V.str) ∧
  ∀ (H' : Hp) (c0 cs : List Int), Same H H' → IsClo E0 [0] c0 → Runs E0 c0 xs cs → Q (.bl (decide (cs ≠ []))) H'
end
end LW

set_option Elab.async false
set_option linter.all false
set_option maxRecDepth 100000
set_option maxHeartbeats 4000000
namespace LW
open PySem PySem.Spec PyProof.Rows L2 LamX NdefX VB VM VP VE VX VQ VZ
/-- no chain of silent edges without an end -/
inductive Halt (E : List Ed) : Int → Prop
  | mk {s : Int} : (∀ t, t ∈ tg E s ("tau" : Str) → Halt E t) → Halt E s
/-- silent edges to states that are not taken out -/
def cnt (E : List Ed) (R : List Int) (s : Int) : Nat := ((tg E s "tau").filter fun t => decide (¬ t ∈ R)).length
theorem filter_cons_len {t : Int} {R : List Int} (nR : t ∉ R) : ∀ l : List Int, l.Nodup → (l.filter fun x => decide (¬ x ∈ R)).length = (l.filter fun x => decide (¬ x ∈ t :: R)).length + (if t ∈ l then 1 else 0)
  | [], _ => by simp
  | x :: l, nd => by
    obtain ⟨n1, n2⟩ := List.nodup_cons.mp nd
    have ih := filter_cons_len nR l n2
    by_cases h : x = t
    · subst h
      rw [List.filter_cons_of_pos (by simpa using nR), List.filter_cons_of_neg (by simp), List.length_cons, ih, if_neg n1, if_pos List.mem_cons_self]
    · have ht : ¬ t = x := fun z => h z.symm
      by_cases g : x ∈ R
      · rw [List.filter_cons_of_neg (by simpa using g), List.filter_cons_of_neg (by simp [g]), ih]
        simp [ht]
      · rw [List.filter_cons_of_pos (by simpa using g), List.filter_cons_of_pos (by simp [g, h]), List.length_cons, List.length_cons, ih]
        simp only [List.mem_cons, ht, false_or]
        omega
theorem tg_nodup {E : List Ed} (nd : E.Nodup) (s : Int) (x : Str) : (tg E s x).Nodup := by
  unfold tg
  have z : (E.filter fun e => decide (e.1 = s ∧ e.2.1 = x)).Nodup := List.Nodup.sublist List.filter_sublist nd
  refine List.pairwise_map.mpr (List.Pairwise.imp_of_mem (R := fun a b => a ≠ b) (fun {a b} ha hb ne e => ne ?_) z)
  obtain ⟨_, h1⟩ := List.mem_filter.mp ha
  obtain ⟨_, h2⟩ := List.mem_filter.mp hb
  obtain ⟨a1, a2⟩ := of_decide_eq_true h1
  obtain ⟨b1, b2⟩ := of_decide_eq_true h2
  exact Prod.ext (a1.trans b1.symm) (Prod.ext (a2.trans b2.symm) e)
theorem cnt_cons {E : List Ed} (nd : E.Nodup) {t : Int} {R : List Int} (nR : t ∉ R) (s : Int) : cnt E R s = cnt E (t :: R) s + (if t ∈ tg E s "tau" then 1 else 0) :=
  filter_cons_len nR _ (tg_nodup nd s _)
theorem cnt_zero {E : List Ed} {R : List Int} {s : Int} : cnt E R s = 0 ↔ ∀ t, t ∈ tg E s ("tau" : Str) → t ∈ R := by
  unfold cnt
  rw [List.length_eq_zero_iff, List.filter_eq_nil_iff]
  constructor
  · intro h t ht
    have z := h t ht
    simpa using z
  · intro h t ht
    simpa using h t ht
theorem cnt_nil (E : List Ed) (s : Int) : cnt E [] s = (tg E s "tau").length := by
  unfold cnt
  rw [List.filter_eq_self.mpr fun t _ => by simp]
theorem cnt_halt {E : List Ed} {R ss : List Int} (cl : ∀ s ∈ ss, ∀ t, t ∈ tg E s ("tau" : Str) → t ∈ ss) (iff : ∀ s ∈ ss, cnt E R s = 0 ↔ s ∈ R) (hR : ∀ r ∈ R, Halt E r) {s : Int} (hs : s ∈ ss) : cnt E R s = 0 ↔ Halt E s := by
  constructor
  · intro h
    exact hR s ((iff s hs).1 h)
  · intro h
    induction h with
    | mk h ih => exact cnt_zero.2 fun t ht => (iff t (cl _ hs t ht)).1 (ih t ht (cl _ hs t ht))
theorem putK_has {κ : Type} [DecidableEq κ] {kvs : List (κ × V)} {k : κ} {v x : V} (h : valV kvs k = some v) : (putK kvs k x).length = kvs.length := by
  unfold putK
  rw [valV_any, h]
  rw [if_pos (by rfl), List.length_map]
/-- the two dicts: how many, and whence -/
structure DS (H0 H : Hp) (dm ds : Addr) (ss : List Int) (f : Int → Addr) (c : Int → Nat) (p : Int → List Int) : Prop where
  same : Same H0 H
  m : ∃ kvs : List (Key × V), H dm = some (.dK kvs) ∧ kvs.length ≤ 100 ∧ ∀ s ∈ ss, valV kvs (Sum.inl s) = some (.int (c s : Nat))
  s : ∃ kvs : List (Key × V), H ds = some (.dK kvs) ∧ ∀ s ∈ ss, valV kvs (Sum.inl s) = some (.ref (f s))
  l : ∀ s ∈ ss, H (f s) = some (.lst ((p s).map V.int)) ∧ H0 (f s) = none
  inj : ∀ s ∈ ss, ∀ t ∈ ss, f s = f t → s = t
  dm0 : H0 dm = none
  ne : dm ≠ ds
section
variable {H0 H H' : Hp} {dm ds : Addr} {ss : List Int} {f : Int → Addr} {c : Int → Nat} {p : Int → List Int}
theorem DS.go (D : DS H0 H dm ds ss f c p) (s : Same H H') : DS H0 H' dm ds ss f c p := by
  refine ⟨D.same.trans s, ?_, ?_, fun x hx => ⟨s _ _ (D.l x hx).1, (D.l x hx).2⟩, D.inj, D.dm0, D.ne⟩
  · obtain ⟨kvs, h, r⟩ := D.m
    exact ⟨kvs, s _ _ h, r⟩
  · obtain ⟨kvs, h, r⟩ := D.s
    exact ⟨kvs, s _ _ h, r⟩
theorem DS.setM (D : DS H0 H dm ds ss f c p) {kvs : List (Key × V)} (hd : H dm = some (.dK kvs)) (hl : kvs.length ≤ 100) (hv : ∀ s ∈ ss, valV kvs (Sum.inl s) = some (.int (c s : Nat))) {x : Int} (hx : x ∈ ss) (v : Nat) :
    DS H0 (upd H dm (.dK (putK kvs (Sum.inl x) (.int (v : Nat))))) dm ds ss f (fun y => if y = x then v else c y) p := by
  refine ⟨sameIn D.same D.dm0, ⟨_, upd_same, by rw [putK_has (hv x hx)]; exact hl, fun y hy => ?_⟩, ?_, fun y hy => ⟨?_, (D.l y hy).2⟩, D.inj, D.dm0, D.ne⟩
  · rw [valV_put]
    by_cases e : y = x
    · subst e; rw [if_pos rfl]; simp
    · rw [if_neg (fun z => e (Sum.inl.inj z)), hv y hy]; simp [e]
  · obtain ⟨k2, h, r⟩ := D.s
    exact ⟨k2, by rw [upd_ne D.ne.symm]; exact h, r⟩
  · rw [upd_ne (ne_of (D.l y hy).1 hd (fun z => nomatch z))]
    exact (D.l y hy).1
theorem DS.push (D : DS H0 H dm ds ss f c p) {t : Int} (ht : t ∈ ss) (x : Int) :
    DS H0 (upd H (f t) (.lst ((p t).map V.int ++ [.int x]))) dm ds ss f c (fun y => if y = t then p t ++ [x] else p y) := by
  refine ⟨sameIn D.same (D.l t ht).2, ?_, ?_, fun y hy => ⟨?_, (D.l y hy).2⟩, D.inj, D.dm0, D.ne⟩
  · obtain ⟨k2, h, r⟩ := D.m
    exact ⟨k2, by rw [upd_ne (ne_of h (D.l t ht).1 (fun z => nomatch z))]; exact h, r⟩
  · obtain ⟨k2, h, r⟩ := D.s
    exact ⟨k2, by rw [upd_ne (ne_of h (D.l t ht).1 (fun z => nomatch z))]; exact h, r⟩
  · by_cases e : y = t
    · subst e
      rw [if_pos rfl, upd_same, List.map_append] <;> rfl
    · rw [if_neg e, upd_ne (fun z => e (D.inj y hy t ht z))]
      exact (D.l y hy).1
theorem DS.lst (D : DS H0 H dm ds ss f c p) {e : Addr} (h0 : H0 e = none) {zs : List V} (he : H e = some (.lst zs)) (nf : ∀ s ∈ ss, f s ≠ e) (ys : List V) : DS H0 (upd H e (.lst ys)) dm ds ss f c p := by
  refine ⟨sameIn D.same h0, ?_, ?_, fun y hy => ⟨by rw [upd_ne (nf y hy)]; exact (D.l y hy).1, (D.l y hy).2⟩, D.inj, D.dm0, D.ne⟩
  · obtain ⟨k2, h, r⟩ := D.m
    exact ⟨k2, by rw [upd_ne (ne_of h he (fun z => nomatch z))]; exact h, r⟩
  · obtain ⟨k2, h, r⟩ := D.s
    exact ⟨k2, by rw [upd_ne (ne_of h he (fun z => nomatch z))]; exact h, r⟩
theorem DS.cast {c' : Int → Nat} {p' : Int → List Int} (D : DS H0 H dm ds ss f c p) (hc : ∀ s ∈ ss, c s = c' s) (hp : ∀ s ∈ ss, p s = p' s) : DS H0 H dm ds ss f c' p' := by
  refine ⟨D.same, ?_, D.s, fun x hx => ⟨by rw [← hp x hx]; exact (D.l x hx).1, (D.l x hx).2⟩, D.inj, D.dm0, D.ne⟩
  obtain ⟨k2, h, r, z⟩ := D.m
  exact ⟨k2, h, r, fun x hx => by rw [← hc x hx]; exact z x hx⟩
end
section
variable {P : Program} {w : World} {K : PySem.W.Frag} {mg : Str → Option Value} {base : Heap}
def spDiv (K : PySem.W.Frag) (C : Addr) : Sp := fun vs H Q _ => ∃ (φ : Addr → Prop) (p a : Addr) (n : Int) (E0 : List Ed) (ss : List Int), vs = [.ref p, .ref a] ∧ SysAt K φ C H p n E0 ∧ E0.length ≤ 1000 ∧
  SqA K H a (ss.map V.int) ∧ ss.Pairwise (· < ·) ∧ (∀ x ∈ ss, 0 ≤ x ∧ x < n) ∧ ss.length ≤ 60 ∧ (∀ s ∈ ss, ∀ t, t ∈ tg E0 s ("tau" : Str) → t ∈ ss) ∧
  ∀ (q : Addr) (H' : Hp) (cs : List Int), Same H H' → H' q = some (.tup (cs.map V.int)) → cs.Pairwise (· < ·) → (∀ s, s ∈ cs ↔ s ∈ ss ∧ ¬ Halt E0 s) → Q (.ref q) H'
end
end LW

set_option Elab.async false
set_option linter.all false
set_option maxRecDepth 100000
set_option maxHeartbeats 4000000
namespace LW
open PySem PySem.Spec PyProof.Rows L2 LamX NdefX VB VM VP VE VX VQ VZ
theorem clo_closed {E : List Ed} {S cs : List Int} (h : IsClo E S cs) : ∀ s ∈ cs, ∀ t, t ∈ tg E s ("tau" : Str) → t ∈ cs := fun s hs t ht => (h.mem t).2 (.step ((h.mem s).1 hs) (tg_mem.1 ht))
theorem rch_halt {E : List Ed} {S : List Int} (hS : ∀ s ∈ S, Halt E s) {x : Int} (h : Rch E S x) : Halt E x := by
  induction h with
  | base h => exact hS _ h
  | step _ h ih =>
    cases ih with
    | mk k => exact k _ (tg_mem.2 h)
theorem runs_clo {E : List Ed} : ∀ {r : List Str} {S ds cs : List Int}, IsClo E S ds → Runs E ds r cs → ∃ S', IsClo E S' cs
  | [], S, _, _, h, e => ⟨S, by rw [show _ = _ from e]; exact h⟩
  | _ :: _, _, _, _, _, ⟨_, a, b⟩ => runs_clo a b
section
variable {P : Program} {w : World} {K : PySem.W.Frag} {mg : Str → Option Value} {base : Heap}
def spIsD (K : PySem.W.Frag) (C : Addr) : Sp := fun vs H Q _ => ∃ (φ : Addr → Prop) (p a : Addr) (n : Int) (E0 : List Ed) (xs : List Str), vs = [.ref p, .ref a] ∧ SysAt K φ C H p n E0 ∧ 1 ≤ n ∧ n ≤ 60 ∧ E0.length ≤ 1000 ∧ SqT K H a (xs.map V.str) ∧
  ∀ (H' : Hp) (c0 cs : List Int) (b : Bool), Same H H' → IsClo E0 [0] c0 → Runs E0 c0 xs cs → (b = true ↔ ∃ s ∈ cs, ¬ Halt E0 s) → Q (.bl b) H'
end
end LW

set_option Elab.async false
set_option linter.all false
set_option maxRecDepth 100000
set_option maxHeartbeats 4000000
namespace LW
open PySem PySem.Spec PyProof.Rows L2 LamX NdefX VB VM VP VE VX VQ VZ VD
theorem strs_can {xs : List Str} (h : ∀ x ∈ xs, PyData.strOk x = true) : PyData.canLayAll0 (xs.map PyData.str) = true := by
  induction xs with
  | nil => rfl
  | cons x xs ih => rw [List.map_cons]; simp [PyData.canLayAll0, PyData.canLay0, h x List.mem_cons_self, ih fun y hy => h y (List.mem_cons_of_mem _ hy)]
theorem strs_dep : ∀ ss : List Str, PyData.depthAll (ss.map PyData.str) = 0
  | [] => rfl
  | s :: ss => by rw [List.map_cons]; unfold PyData.depthAll; rw [strs_dep ss] <;> rfl
theorem strs_eqv : ∀ xs ys : List Str, PyData.eqvAll (xs.map PyData.str) (ys.map PyData.str) = decide (xs = ys)
  | [], [] => rfl
  | [], _ :: _ => rfl
  | _ :: _, [] => rfl
  | x :: xs, y :: ys => by
    rw [List.map_cons, List.map_cons]
    unfold PyData.eqvAll
    rw [strs_eqv xs ys]
    by_cases h : x = y <;> simp [PyData.eqv, h]
theorem row_eqv (a b : List Str) : PyData.eqv (rowD a) (rowD b) = decide (a = b) := by
  unfold rowD
  rw [show PyData.eqv (.tuple (a.map PyData.str)) (.tuple (b.map PyData.str)) = PyData.eqvAll (a.map PyData.str) (b.map PyData.str) by simp [PyData.eqv]]
  exact strs_eqv a b
theorem any_row (e : List Str) : ∀ L : List (List Str), ((L.map rowD).any fun z => PyData.eqv z (rowD e)) = decide (e ∈ L)
  | [] => by simp
  | x :: L => by
    rw [List.map_cons, List.any_cons, any_row e L, row_eqv]
    by_cases h : x = e
    · subst h; simp
    · have h2 : ¬ e = x := fun z => h z.symm
      simp [h, h2]
theorem row_depth (a : List Str) : (rowD a).depth = 1 := by
  unfold rowD PyData.depth
  rw [strs_dep]
abbrev OkR (a : List Str) : Prop := ∀ x ∈ a, PyData.strOk x = true
theorem row_can {a : List Str} (h : OkR a) : (rowD a).canLay0 = true := by
  unfold rowD
  rw [PyData.canLay0]
  exact strs_can h
theorem row_shaped {a : List Str} (h : OkR a) : SeqAt.shaped (rowD a) = true := by
  unfold SeqAt.shaped
  rw [row_can h, row_depth]
  rfl
theorem rows_can {L : List (List Str)} (h : ∀ a ∈ L, OkR a) : PyData.canLayAll0 (L.map rowD) = true := by
  induction L with
  | nil => rfl
  | cons x xs ih => rw [List.map_cons]; simp [PyData.canLayAll0, row_can (h x List.mem_cons_self), ih fun y hy => h y (List.mem_cons_of_mem _ hy)]
theorem rows_depth : ∀ L : List (List Str), PyData.depthAll (L.map rowD) ≤ 1
  | [] => Nat.zero_le _
  | x :: L => by
    rw [List.map_cons]
    unfold PyData.depthAll
    have z := rows_depth L
    have y := row_depth x
    omega
theorem rows_shaped {L : List (List Str)} (h : ∀ a ∈ L, OkR a) : SeqAt.shaped (.list (L.map rowD)) = true := by
  have z := rows_depth L
  unfold SeqAt.shaped
  rw [show (PyData.list (L.map rowD)).canLay0 = PyData.canLayAll0 (L.map rowD) by rw [PyData.canLay0], rows_can h, Bool.true_and, decide_eq_true_eq]
  unfold PyData.depth
  omega
theorem row_dp {K : PySem.W.Frag} {H : Hp} {a : Addr} {x : List Str} (h : SqT K H a (x.map V.str)) : Dp K H (.ref a) (rowD x) := .tup h (VB.dpAll_strs _)
theorem rows_all {K : PySem.W.Frag} {H : Hp} {L : List (Addr × List Str)} (h : Rows K H L) : DpAll K H (refs L) ((L.map (·.2)).map rowD) := by
  induction L with
  | nil => exact .nil
  | cons p L ih => exact .cons (row_dp (h p List.mem_cons_self)) (ih fun q hq => h q (List.mem_cons_of_mem _ hq))
theorem rows_dp {K : PySem.W.Frag} {H : Hp} {a : Addr} {L : List (Addr × List Str)} (h : H a = some (.lst (refs L))) (hr : Rows K H L) : Dp K H (.ref a) (.list ((L.map (·.2)).map rowD)) := .lst (SqL.of h) (rows_all hr)
theorem acs_mem {E : List Ed} {s : Int} {x : Str} (h : x ∈ acs E s) : ∃ e ∈ E, e.2.1 = x := by
  unfold acs at h
  obtain ⟨p, hp, rfl⟩ := List.mem_map.mp h
  obtain ⟨h1, _⟩ := List.mem_filter.mp hp
  exact ⟨_, leav_mem.1 h1, rfl⟩
theorem srtS_mem {l : List Str} {x : Str} : x ∈ srtS l ↔ x ∈ l := by
  unfold srtS
  rw [List.mem_mergeSort, onceG_mem]
  simp
theorem off_ok {n : Int} {E : List Ed} (ok : ∀ e ∈ E, okE n e) (s : Int) : OkR (srtS (acs E s)) := fun x hx => by
  obtain ⟨e, he, rfl⟩ := acs_mem (srtS_mem.1 hx)
  exact (acts_ok _ (ok e he).2.2.2.2).1
/-- what a behaviour of a kind says -/
def BehP (E : List Ed) (cs : List Int) (k : Nat) (os : List Str) : Prop :=
  match k with
  | 0 => cs ≠ []
  | 1 => ∃ s ∈ cs, ¬ Halt E s
  | _ => ∃ s ∈ cs, tg E s ("tau" : Str) = [] ∧ os = srtS (acs E s)
def BhS (K : PySem.W.Frag) (H : Hp) (b t : Addr) (k : Nat) (os : List Str) : Prop :=
  (k = 0 ∧ SqT K H b [.str "trace", .ref t]) ∨ (k = 1 ∧ SqT K H b [.str "divergence", .ref t]) ∨ (k = 2 ∧ ∃ o : Addr, SqT K H b [.str "failure", .ref t, .ref o] ∧ SqT K H o (os.map V.str))
section
variable {P : Program} {w : World} {K : PySem.W.Frag} {mg : Str → Option Value} {base : Heap}
def spSto (K : PySem.W.Frag) (C : Addr) : Sp := fun vs H Q _ => ∃ (φ : Addr → Prop) (p a : Addr) (n : Int) (E0 : List Ed) (xs : List Str), vs = [.ref p, .ref a] ∧ SysAt K φ C H p n E0 ∧ 1 ≤ n ∧ n ≤ 60 ∧ E0.length ≤ 1000 ∧ SqT K H a (xs.map V.str) ∧
  ∀ (q : Addr) (H' : Hp) (RL : List (Addr × List Str)) (c0 cs : List Int), Same H H' → H' q = some (.lst (refs RL)) → Rows K H' RL → (RL.map (·.2)).Pairwise ltR → (∀ x, x ∈ RL.map (·.2) ↔ ∃ s ∈ cs, tg E0 s "tau" = [] ∧ x = srtS (acs E0 s)) → RL.length ≤ 60 → IsClo E0 [0] c0 → Runs E0 c0 xs cs → Q (.ref q) H'
def spBeh (K : PySem.W.Frag) (C : Addr) : Sp := fun vs H Q _ => ∃ (φ : Addr → Prop) (p b t : Addr) (n : Int) (E0 : List Ed) (xs os : List Str) (k : Nat), vs = [.ref p, .ref b] ∧ SysAt K φ C H p n E0 ∧ 1 ≤ n ∧ n ≤ 60 ∧ E0.length ≤ 1000 ∧ SqT K H t (xs.map V.str) ∧
  BhS K H b t k os ∧ OkR os ∧ ∀ (H' : Hp) (r : Bool) (c0 cs : List Int), Same H H' → IsClo E0 [0] c0 → Runs E0 c0 xs cs → (r = true ↔ BehP E0 cs k os) → Q (.bl r) H'
end
end LW

set_option Elab.async false
set_option linter.all false
set_option maxRecDepth 100000
set_option maxHeartbeats 4000000
namespace LW
open PySem PySem.Spec PyProof.Rows L2 LamX NdefX VB VM VP VE VX VQ VZ
/-- a chain of k silent edges -/
def Ch (E : List Ed) : Nat → Int → Prop
  | 0, _ => True
  | k + 1, s => ∃ t, t ∈ tg E s ("tau" : Str) ∧ Ch E k t
/-- a chain of k silent edges to a state -/
def Ex (E : List Ed) (s : Int) : Nat → Int → Prop
  | 0, y => y = s
  | k + 1, y => ∃ x, Ex E s k x ∧ y ∈ tg E x ("tau" : Str)
theorem ex_ch {E : List Ed} {s : Int} : ∀ (k j : Nat) {x : Int}, Ex E s k x → Ch E j x → Ch E (k + j) s
  | 0, j, x, h, c => by
    rw [Nat.zero_add, ← show x = s from h]
    exact c
  | k + 1, j, x, ⟨y, h, g⟩, c => by
    have z := ex_ch k (j + 1) h (show Ch E (j + 1) y from ⟨x, g, c⟩)
    rw [show k + 1 + j = k + (j + 1) by omega]
    exact z
theorem ch_ex {E : List Ed} {s : Int} : ∀ (k j : Nat) {x : Int}, Ch E k x → Ex E s j x → ∃ y, Ex E s (j + k) y
  | 0, j, x, _, h => ⟨x, h⟩
  | k + 1, j, x, ⟨t, h, c⟩, e => by
    obtain ⟨y, z⟩ := ch_ex k (j + 1) c (show Ex E s (j + 1) t from ⟨x, e, h⟩)
    exact ⟨y, by rw [show j + (k + 1) = j + 1 + k by omega]; exact z⟩
theorem ex_iff {E : List Ed} {s : Int} {k : Nat} : (∃ y, Ex E s k y) ↔ Ch E k s :=
  ⟨fun ⟨_, h⟩ => ex_ch k 0 h trivial, fun h => by
    obtain ⟨y, z⟩ := ch_ex (s := s) k 0 h rfl
    exact ⟨y, by rw [Nat.zero_add] at z; exact z⟩⟩
inductive Plus (E : List Ed) : Int → Int → Prop
  | one {x y : Int} : y ∈ tg E x ("tau" : Str) → Plus E x y
  | more {x y z : Int} : y ∈ tg E x ("tau" : Str) → Plus E y z → Plus E x z
theorem Plus.snoc {E : List Ed} {x y z : Int} (h : Plus E x y) (g : z ∈ tg E y ("tau" : Str)) : Plus E x z := by
  induction h with
  | one h => exact .more h (.one g)
  | more h _ ih => exact .more h (ih g)
theorem halt_no {E : List Ed} {s : Int} (h : Halt E s) : ¬ Plus E s s := by
  induction h with
  | mk _ ih =>
    intro p
    cases p with
    | one g => exact ih _ g (.one g)
    | more g p => exact ih _ g (p.snoc g)
theorem halt_path {E : List Ed} {n : Int} (ok : ∀ e ∈ E, okE n e) : ∀ (k : Nat) {s : Int}, 0 ≤ s → s < n → Halt E s → Ch E k s → ∃ l : List Int, l.length = k + 1 ∧ l.Nodup ∧ (∀ x ∈ l, 0 ≤ x ∧ x < n) ∧ ∀ x ∈ l, x = s ∨ Plus E s x
  | 0, s, s0, s1, _, _ => ⟨[s], rfl, by simp, fun x hx => by rw [List.mem_singleton.mp hx]; exact ⟨s0, s1⟩, fun x hx => .inl (List.mem_singleton.mp hx)⟩
  | k + 1, s, s0, s1, h, ⟨t, ht, c⟩ => by
    have e := ok _ (tg_mem.1 ht)
    obtain ⟨l, l1, l2, l3, l4⟩ := halt_path ok k e.2.2.1 e.2.2.2.1 (by cases h with | mk h => exact h t ht) c
    have pl : ∀ x ∈ l, Plus E s x := fun x hx => (l4 x hx).elim (fun z => by rw [z]; exact .one ht) (fun z => .more ht z)
    refine ⟨s :: l, by rw [List.length_cons, l1], List.nodup_cons.mpr ⟨fun z => halt_no h (pl s z), l2⟩, fun x hx => ?_, fun x hx => ?_⟩
    · rcases List.mem_cons.mp hx with z | z
      · rw [z]; exact ⟨s0, s1⟩
      · exact l3 x z
    · rcases List.mem_cons.mp hx with z | z
      · exact .inl z
      · exact .inr (pl x z)
theorem not_halt_ch {E : List Ed} : ∀ (k : Nat) {s : Int}, ¬ Halt E s → Ch E k s
  | 0, _, _ => trivial
  | k + 1, s, h => by
    have z : ∃ t, t ∈ tg E s ("tau" : Str) ∧ ¬ Halt E t := Classical.byContradiction fun n => h ⟨fun t ht => Classical.byContradiction fun g => n ⟨t, ht, g⟩⟩
    obtain ⟨t, h1, h2⟩ := z
    exact ⟨t, h1, not_halt_ch k h2⟩
theorem ch_halt {E : List Ed} {n : Int} (ok : ∀ e ∈ E, okE n e) {s : Int} (s0 : 0 ≤ s) (s1 : s < n) : Ch E n.toNat s ↔ ¬ Halt E s := by
  refine ⟨fun c h => ?_, not_halt_ch _⟩
  obtain ⟨l, l1, l2, l3, _⟩ := halt_path ok _ s0 s1 h c
  have z := few_of l2 l3
  omega
theorem halt_congr {E E' : List Ed} (h : ∀ e, e ∈ E ↔ e ∈ E') {s : Int} (g : Halt E s) : Halt E' s := by
  induction g with
  | mk _ ih => exact ⟨fun t ht => ih t (tg_mem.2 ((h _).2 (tg_mem.1 ht)))⟩
theorem ch_pred {E : List Ed} : ∀ (k : Nat) {s : Int}, Ch E (k + 1) s → Ch E k s
  | 0, _, _ => trivial
  | k + 1, _, ⟨t, h, c⟩ => ⟨t, h, ch_pred k c⟩
theorem rgV_rng (n : Int) : rgV 0 n = (rng n.toNat).map V.int := by
  unfold rgV rng
  rw [List.map_map, Int.sub_zero]
  refine List.map_congr_left fun i _ => ?_
  show V.int (0 + (i : Nat)) = V.int ((i : Nat) : Int)
  rw [Int.zero_add]
theorem rng_asc (m : Nat) : (rng m).Pairwise (· < ·) := by
  unfold rng
  refine List.pairwise_map.mpr (List.pairwise_lt_range.imp fun h => by omega)
end LW

set_option Elab.async false
set_option linter.all false
set_option maxRecDepth 100000
set_option maxHeartbeats 4000000
namespace LW
open PySem PySem.Spec PyProof.Rows L2 LamX NdefX VB VM VP VE VX VQ VZ VD
section
variable {P : Program} {w : World} {K : PySem.W.Frag} {mg : Str → Option Value} {base : Heap}
/-- each row once -/
def spOnceR (K : PySem.W.Frag) : Sp := fun vs H Q _ => ∃ (a : Addr) (L : List (Addr × List Str)), vs = [.ref a] ∧ SqL K H a (refs L) ∧ Rows K H L ∧ L.length ≤ 1000 ∧ (∀ p ∈ L, OkR p.2) ∧
  ∀ (p : Addr) (L' : List (Addr × List Str)), H p = none → (∀ x ∈ L', x ∈ L) → L'.map (·.2) = onceG [] (L.map (·.2)) → Q (.ref p) (upd H p (.lst (refs L')))
theorem c_onceR (D : Df K mg "_law_once" s__law_once) : C8.Cal P w K mg base 1 "_law_once" (spOnceR K) [] := by
  refine D.cal sc__law_once (fun _ _ _ _ _ _ us hl => match us, hl with | [_], _ => rfl) (fun vs H Q E h => ?_) (fun f cdv A outer s H vs Q E hr h => ?_)
  · obtain ⟨a, L, rfl, _⟩ := h
    rfl
  obtain ⟨a, L, rfl, hS, hE, hz, ha, q⟩ := h
  refine ⟨_, (pss_cons (ps_set (i := 1) sc__law_once.nd rfl (Or.inl rfl) (pe_lst pa_nil))
    (pss_cons (ps_for PassesOwn.never rfl (pi_list (pv 0)) (pg_name (i := 2) sc__law_once.nd rfl (Or.inl rfl))
      (pss_one (ps_if (pt_cmpR (VP.notInD (K := K) rfl (VP.un65 hr)) (pv 2) (pv 1) rfl)
        (pss_one (ps_expr (pe_bm PySem.F.plainAttrs_list PySem.F.slot_list_append PySem.F.type_list_append mt_append (pv 1) (pa_cons (pv 2) pa_nil))))
        pss_nil)))
    (pss_one (ps_ret (pv 1))))), ?_⟩
  have zl := sizeLine_eq
  refine ⟨Nat.zero_le _, fun l nl => ?_⟩
  have s0 : ∀ o, Same H (upd H l o) := fun o => same_upd nl o
  refine ⟨_, rfl, a, rfl, ⟨_, (s0 _).seq hS⟩, for_list (K := K) (a := a) (xs := refs L)
    (fun i σ H' => ∃ (rr : Option V) (L' : List (Addr × List Str)), σ = [some (.ref a), some (.ref l), rr] ∧ H' = upd H l (.lst (refs L')) ∧ (∀ x ∈ L', x ∈ L) ∧ L'.map (·.2) = onceG [] ((L.map (·.2)).take i) ∧ L'.length ≤ i)
    ⟨none, [], rfl, rfl, fun x z => absurd z List.not_mem_nil, rfl, Nat.le_refl _⟩ (fun i σ H' _ ⟨_, _, _, e, _⟩ => by rw [e]; exact (s0 _).seq hS) ?_ ?_⟩
  · rintro i v σ H' hv ⟨rr, L', rfl, rfl, sub, eL, len⟩
    obtain ⟨p, hp, rfl⟩ := refs_at hv
    have pin := List.mem_of_getElem? hp
    have hE' : Rows K (upd H l (.lst (refs L'))) L := hE.kp (Kp.of (s0 _))
    have hl : upd H l (.lst (refs L')) l = some (.lst (refs L')) := upd_same
    have small : i < L.length := (List.getElem?_eq_some_iff.mp hp).1
    have tk : (L.map (·.2)).take (i + 1) = (L.map (·.2)).take i ++ [p.2] := by rw [List.take_succ, List.getElem?_map, hp] <;> rfl
    refine ⟨_, rfl, _, rfl, _, _, row_dp (hE' p pin), rows_dp hl (fun x hx => hE' x (sub x hx)), row_shaped (ha p pin), rows_shaped (fun e he => ?_), ?_⟩
    · obtain ⟨x, hx, rfl⟩ := List.mem_map.mp he
      exact ha x (sub x hx)
    rw [any_row, eL]
    refine ⟨_, rfl, ?_⟩
    refine ite2 (fun c => ?_) (fun c => ?_)
    · have nin : ¬ p.2 ∈ onceG [] ((L.map (·.2)).take i) := by simpa using c
      refine ⟨_, rfl, .inl ⟨rfl, _, SqL.of hl⟩, _, rfl, l, _, _, rfl, rfl, hl, (by rw [List.length_map]; omega), ?_⟩
      refine ⟨_, L' ++ [p], rfl, by rw [upd_upd, refs_snoc], fun x hx => ?_, ?_, by rw [List.length_append, List.length_singleton]; omega⟩
      · rcases List.mem_append.mp hx with z | z
        · exact sub x z
        · rw [List.mem_singleton.mp z]; exact pin
      · rw [tk, onceG_snoc, if_neg nin, List.map_append, eL] <;> rfl
    · have inn : p.2 ∈ onceG [] ((L.map (·.2)).take i) := by simpa using c
      refine ⟨_, L', rfl, rfl, sub, ?_, by omega⟩
      rw [tk, onceG_snoc, if_pos inn, eL]
  · rintro σ H' ⟨rr, L', rfl, rfl, sub, eL, len⟩
    rw [List.length_map] at eL
    rw [List.take_of_length_le (by rw [List.length_map]; exact Nat.le_refl _)] at eL
    exact ⟨_, rfl, q l L' nl sub eL⟩
def embR (p : Addr × List Str) : V := V.ref p.1
def encR (p : Addr × List Str) : PyData := rowD p.2
theorem acs_congr {E E' : List Ed} (h : ∀ e, e ∈ E ↔ e ∈ E') (s : Int) : srtS (acs E s) = srtS (acs E' s) := by
  have m : ∀ {E E' : List Ed}, (∀ e, e ∈ E ↔ e ∈ E') → ∀ x, x ∈ acs E s → x ∈ acs E' s := fun {E E'} h x hx => by
    unfold acs at hx ⊢
    obtain ⟨p, hp, rfl⟩ := List.mem_map.mp hx
    obtain ⟨h1, h2⟩ := List.mem_filter.mp hp
    exact List.mem_map.mpr ⟨p, List.mem_filter.mpr ⟨leav_mem.2 ((h _).1 (leav_mem.1 h1)), h2⟩, rfl⟩
  unfold srtS
  refine VB.sort_mem (onceG_nodup _ _ List.nodup_nil) (onceG_nodup _ _ List.nodup_nil) fun x => ?_
  rw [onceG_mem, onceG_mem]
  simp only [List.not_mem_nil, false_or]
  exact ⟨m h x, m (fun e => (h e).symm) x⟩
theorem tg_nil_congr {E E' : List Ed} (h : ∀ e, e ∈ E ↔ e ∈ E') (s : Int) (x : Str) : tg E s x = [] ↔ tg E' s x = [] := by
  have m : ∀ {E E' : List Ed}, (∀ e, e ∈ E ↔ e ∈ E') → tg E s x = [] → tg E' s x = [] := fun {E E'} h z => by
    refine List.eq_nil_iff_forall_not_mem.mpr fun y hy => ?_
    have w := tg_mem.2 ((h _).2 (tg_mem.1 hy))
    rw [z] at w
    cases w
  exact ⟨m h, m fun e => (h e).symm⟩
end
end LW

set_option Elab.async false
set_option linter.all false
set_option maxRecDepth 100000
set_option maxHeartbeats 400000
namespace LW
open PySem PySem.Spec PyProof.Rows L2 LamX NdefX VB VM VP VE VX VQ VZ
theorem acs_snoc (E : List Ed) (e : Ed) (s : Int) : acs (E ++ [e]) s = if e.1 = s ∧ ¬ e.2.1 = ("tau" : Str) then acs E s ++ [e.2.1] else acs E s := by
  rw [← acs_flat, ← acs_flat, List.filter_append, List.map_append]
  by_cases h : e.1 = s ∧ ¬ e.2.1 = ("tau" : Str)
  · rw [if_pos h, List.filter_cons, if_pos (decide_eq_true h), List.filter_nil] <;> rfl
  · rw [if_neg h, List.filter_cons, if_neg (by rw [decide_eq_true_eq]; exact h), List.filter_nil, List.map_nil, List.append_nil]
theorem srtS_ndq (l : List Str) : (srtS l).Nodup := (List.mergeSort_perm _ _).nodup_iff.mpr (onceG_nodup _ _ List.nodup_nil)
theorem srtS_nil : srtS [] = [] := by
  unfold srtS
  rw [show onceG ([] : List Str) [] = [] from rfl, List.mergeSort_nil]
theorem all_ints (ns : List Int) : (ns.map V.int).all flatV = true := by
  rw [List.all_eq_true]
  intro v hv
  obtain ⟨x, _, rfl⟩ := List.mem_map.mp hv
  rfl
theorem all_strs (ns : List Str) : (ns.map V.str).all flatV = true := by
  rw [List.all_eq_true]
  intro v hv
  obtain ⟨x, _, rfl⟩ := List.mem_map.mp hv
  rfl
theorem srtS_in {l : List Str} {x : Str} (h : x ∈ srtS l) : srtS (l ++ [x]) = srtS l := by
  unfold srtS
  rw [onceG_snoc, if_pos]
  rw [onceG_mem]
  exact .inr (srtS_mem.1 h)
theorem srtS_out {l : List Str} {x : Str} (h : x ∉ srtS l) : (srtS l ++ [x]).mergeSort VS.leS = srtS (l ++ [x]) := by
  refine srtS_of ?_ fun y => ?_
  · rw [List.nodup_append]
    exact ⟨srtS_ndq l, by simp, fun a ha b hb => by rw [List.mem_singleton.mp hb]; exact fun z => h (by rw [← z]; exact ha)⟩
  · rw [List.mem_append, List.mem_append, srtS_mem]
theorem srtAcs_len (E : List Ed) (s : Int) : (srtS (acs E s)).length ≤ E.length := by
  unfold srtS
  rw [List.length_mergeSort]
  refine Nat.le_trans (onceG_len _ _) ?_
  rw [← acs_flat, List.length_nil, Nat.zero_add, List.length_map]
  exact List.length_filter_le _ _
/-- lists and tuples stay -/
def KL (H H' : Hp) : Prop := (∀ b xs, H b = some (.lst xs) → H' b = some (.lst xs)) ∧ Kp H H'
theorem KL.of {H H' : Hp} (s : Same H H') : KL H H' := ⟨fun b xs e => s _ _ e, Kp.of s⟩
theorem KL.dK {H : Hp} {d : Addr} {kvs : List (Key × V)} (e : H d = some (.dK kvs)) (o : HO) : KL H (upd H d o) :=
  ⟨fun b xs h => by rw [upd_ne (ne_of h e (fun z => nomatch z))]; exact h, ⟨fun c xs h => by rw [upd_ne (ne_of h e (fun z => nomatch z))]; exact h, fun c q u h => by rw [upd_ne (ne_of h e (fun z => nomatch z))]; exact h⟩⟩
theorem KL.dT {H : Hp} {d : Addr} {kvs : List (List Key × V)} (e : H d = some (.dT kvs)) (o : HO) : KL H (upd H d o) :=
  ⟨fun b xs h => by rw [upd_ne (ne_of h e (fun z => nomatch z))]; exact h, ⟨fun c xs h => by rw [upd_ne (ne_of h e (fun z => nomatch z))]; exact h, fun c q u h => by rw [upd_ne (ne_of h e (fun z => nomatch z))]; exact h⟩⟩
/-- a dict with a value for each state -/
def IR (n : Int) (H : Hp) (d : Addr) (R : Int → V → Prop) : Prop := ∃ kvs : List (Key × V), H d = some (.dK kvs) ∧ (kvs.length : Int) ≤ n ∧ ∀ s, 0 ≤ s → s < n → ∃ v, valV kvs (.inl s) = some v ∧ R s v
theorem IR.mono {n : Int} {H H' : Hp} {d : Addr} {R R' : Int → V → Prop} (h : IR n H d R) (e : ∀ o, H d = some o → H' d = some o) (r : ∀ s v, 0 ≤ s → s < n → R s v → R' s v) : IR n H' d R' := by
  obtain ⟨kvs, h1, h2, h3⟩ := h
  refine ⟨kvs, e _ h1, h2, fun s s0 s1 => ?_⟩
  obtain ⟨v, g1, g2⟩ := h3 s s0 s1
  exact ⟨v, g1, r s v s0 s1 g2⟩
theorem IR.put {n : Int} {H : Hp} {d : Addr} {R : Int → V → Prop} (h : IR n H d R) {x : Int} (x0 : 0 ≤ x) (x1 : x < n) : ∃ kvs : List (Key × V), H d = some (.dK kvs) ∧ (kvs.length : Int) ≤ n ∧
    ∀ (H' : Hp) (v : V) (R' : Int → V → Prop), H' d = some (.dK (putK kvs (.inl x) v)) → R' x v → (∀ s u, 0 ≤ s → s < n → s ≠ x → R s u → R' s u) → IR n H' d R' := by
  obtain ⟨kvs, h1, h2, h3⟩ := h
  refine ⟨kvs, h1, h2, fun H' v R' e rx ro => ⟨_, e, ?_, fun s s0 s1 => ?_⟩⟩
  · obtain ⟨u, g, _⟩ := h3 x x0 x1
    rw [putK_has g]
    exact h2
  · rw [valV_put]
    by_cases c : s = x
    · subst c
      exact ⟨v, by rw [if_pos rfl], rx⟩
    · obtain ⟨u, g1, g2⟩ := h3 s s0 s1
      exact ⟨u, by rw [if_neg (fun z => c (Sum.inl.inj z))]; exact g1, ro s u s0 s1 c g2⟩
theorem IR.snoc {i : Nat} {H : Hp} {d : Addr} {R : Int → V → Prop} (h : IR (i : Int) H d R) {x : Int} (hx : x = (i : Int)) : ∃ kvs : List (Key × V), H d = some (.dK kvs) ∧ (kvs.length : Int) ≤ i ∧
    ∀ (H' : Hp) (v : V) (R' : Int → V → Prop), H' d = some (.dK (putK kvs (.inl x) v)) → R' i v → (∀ s u, 0 ≤ s → s < (i : Int) → R s u → R' s u) → IR ((i + 1 : Nat) : Int) H' d R' := by
  subst hx
  obtain ⟨kvs, h1, h2, h3⟩ := h
  refine ⟨kvs, h1, h2, fun H' v R' e rx ro => ⟨_, e, ?_, fun s s0 s1 => ?_⟩⟩
  · have z := length_putK kvs (.inl (i : Int)) v
    omega
  · rw [valV_put]
    by_cases c : s = (i : Int)
    · subst c
      exact ⟨v, by rw [if_pos rfl], rx⟩
    · obtain ⟨u, g1, g2⟩ := h3 s s0 (by omega)
      exact ⟨u, by rw [if_neg (fun z => c (Sum.inl.inj z))]; exact g1, ro s u s0 (by omega) g2⟩
theorem IR.at_ {n : Int} {H : Hp} {d : Addr} {R : Int → V → Prop} (h : IR n H d R) {x : Int} (x0 : 0 ≤ x) (x1 : x < n) : ∃ v, DGet H d (.int x) (some v) ∧ R x v := by
  obtain ⟨kvs, h1, h2, h3⟩ := h
  obtain ⟨v, g1, g2⟩ := h3 x x0 x1
  refine ⟨v, ?_, g2⟩
  have z := DGet.k (k := .inl x) h1
  rw [g1] at z
  exact z
/-- the lists behind an action, one for each state and action that has one -/
def MQ (H : Hp) (d : Addr) (E : List Ed) : Prop := ∃ kvs : List (List Key × V), H d = some (.dT kvs) ∧ kvs.length ≤ E.length ∧
  (∀ k v, valV kvs k = some v → ∃ (b : Addr) (s : Int) (x : Str), k = kT s x ∧ v = .ref b ∧ H b = some (.lst ((tg E s x).map V.int))) ∧ ∀ s x, valV kvs (kT s x) = none → tg E s x = []
theorem MQ.mono {H H' : Hp} {d : Addr} {E : List Ed} (h : MQ H d E) (e : ∀ o, H d = some o → H' d = some o) (k : KL H H') : MQ H' d E := by
  obtain ⟨kvs, h1, h2, h3, h4⟩ := h
  refine ⟨kvs, e _ h1, h2, fun k' v hv => ?_, h4⟩
  obtain ⟨b, s, x, e1, e2, e3⟩ := h3 k' v hv
  exact ⟨b, s, x, e1, e2, k.1 _ _ e3⟩
theorem kT_inj {s t : Int} {x y : Str} (h : kT s x = kT t y) : s = t ∧ x = y := by
  injection h with a1 a2
  injection a2 with a2 _
  exact ⟨Sum.inl.inj a1, Sum.inr.inj a2⟩
/-- what stands at a state and an action -/
theorem MQ.at_ {H : Hp} {d z p : Addr} {E : List Ed} (h : MQ H d E) (s : Int) (x : Str) (hz : H z = some (.lst [])) (hp : H p = some (.tup [.int s, .str x])) : ∃ (o : Option V) (b : Addr), DGet H d (.ref p) o ∧ o.getD (.ref z) = .ref b ∧ H b = some (.lst ((tg E s x).map V.int)) := by
  obtain ⟨kvs, h1, h2, h3, h4⟩ := h
  have g := DGet.t (k := kT s x) h1 hp
  cases hv : valV kvs (kT s x) with
  | none =>
    rw [hv] at g
    exact ⟨_, z, g, rfl, by rw [h4 _ _ hv]; exact hz⟩
  | some v =>
    rw [hv] at g
    obtain ⟨b, s', x', e1, e2, e3⟩ := h3 _ _ hv
    obtain ⟨rfl, rfl⟩ := kT_inj e1
    exact ⟨_, b, g, by rw [e2] <;> rfl, e3⟩
theorem MQ.put {H : Hp} {d b p : Addr} {E : List Ed} (h : MQ H d E) {e : Ed} (hb : H b = some (.lst ((tg E e.1 e.2.1).map V.int ++ [.int e.2.2]))) (hp : H p = some (.tup [.int e.1, .str e.2.1])) (hl : E.length < sizeLine) :
    ∃ kvs, H d = some (.dT kvs) ∧ DPut H d (.ref p) (.ref b) (upd H d (.dT (putK kvs (kT e.1 e.2.1) (.ref b)))) ∧ MQ (upd H d (.dT (putK kvs (kT e.1 e.2.1) (.ref b)))) d (E ++ [e]) := by
  obtain ⟨kvs, h1, h2, h3, h4⟩ := h
  have kl := KL.dT h1 (.dT (putK kvs (kT e.1 e.2.1) (.ref b)))
  refine ⟨kvs, h1, DPut.t (k := kT e.1 e.2.1) h1 hp (by omega), _, upd_same, ?_, fun k v hv => ?_, fun s x hn => ?_⟩
  · have z := length_putK kvs (kT e.1 e.2.1) (.ref b)
    rw [List.length_append, List.length_singleton]
    omega
  · rw [valV_put] at hv
    by_cases c : k = kT e.1 e.2.1
    · rw [if_pos c] at hv
      cases hv
      refine ⟨b, e.1, e.2.1, c, rfl, ?_⟩
      rw [tg_snoc, if_pos ⟨rfl, rfl⟩, List.map_append]
      exact kl.1 _ _ hb
    · rw [if_neg c] at hv
      obtain ⟨b', s, x, rfl, rfl, e3⟩ := h3 _ _ hv
      refine ⟨b', s, x, rfl, rfl, ?_⟩
      rw [tg_snoc, if_neg (fun z => c (by rw [z.1, z.2]))]
      exact kl.1 _ _ e3
  · rw [valV_put] at hn
    by_cases c : kT s x = kT e.1 e.2.1
    · rw [if_pos c] at hn; cases hn
    · rw [if_neg c] at hn
      rw [tg_snoc, if_neg (fun z => c (by rw [z.1, z.2]))]
      exact h4 _ _ hn
def offR (K : PySem.W.Frag) (H : Hp) (E : List Ed) : Int → V → Prop := fun s v => ∃ b, v = .ref b ∧ SqT K H b ((srtS (acs E s)).map V.str)
def silR (H : Hp) (E : List Ed) : Int → V → Prop := fun s v => ∃ b, v = .ref b ∧ H b = some (.lst ((tg E s "tau").map V.int))
def cloR (H : Hp) (E : List Ed) : Int → V → Prop := fun s v => ∃ (b : Addr) (cs : List Int), v = .ref b ∧ H b = some (.lst (cs.map V.int)) ∧ cs.Nodup ∧ ∀ x, x ∈ cs ↔ Rch E [s] x
theorem offR.kl {K : PySem.W.Frag} {H H' : Hp} {E : List Ed} (k : KL H H') {s : Int} {v : V} (h : offR K H E s v) : offR K H' E s v := by
  obtain ⟨b, e, h⟩ := h
  exact ⟨b, e, k.2.sqT h⟩
theorem silR.kl {H H' : Hp} {E : List Ed} (k : KL H H') {s : Int} {v : V} (h : silR H E s v) : silR H' E s v := by
  obtain ⟨b, e, h⟩ := h
  exact ⟨b, e, k.1 _ _ h⟩
theorem cloR.kl {H H' : Hp} {E : List Ed} (k : KL H H') {s : Int} {v : V} (h : cloR H E s v) : cloR H' E s v := by
  obtain ⟨b, cs, e, h, r⟩ := h
  exact ⟨b, cs, e, k.1 _ _ h, r⟩
/-- the three dicts while the edges are read -/
structure LQ (K : PySem.W.Frag) (H0 H : Hp) (dm dO ds : Addr) (n : Int) (E E2 E3 : List Ed) : Prop where
  same : Same H0 H
  m : MQ H dm E
  o : IR n H dO (offR K H E2)
  s : IR n H ds (silR H E3)
section
variable {K : PySem.W.Frag} {H0 H H' : Hp} {dm dO ds : Addr} {n : Int} {E E2 E3 : List Ed}
theorem LQ.go (L : LQ K H0 H dm dO ds n E E2 E3) (z : Same H H') : LQ K H0 H' dm dO ds n E E2 E3 :=
  ⟨L.same.trans z, L.m.mono (fun o e => z _ _ e) (.of z), L.o.mono (fun o e => z _ _ e) fun s v _ _ h => h.kl (.of z), L.s.mono (fun o e => z _ _ e) fun s v _ _ h => h.kl (.of z)⟩
theorem LQ.putM (L : LQ K H0 H dm dO ds n E E2 E3) (f : H0 dm = none) {b p : Addr} {e : Ed} (hb : H b = some (.lst ((tg E e.1 e.2.1).map V.int ++ [.int e.2.2]))) (hp : H p = some (.tup [.int e.1, .str e.2.1])) (hl : E.length < sizeLine) :
    ∃ H2, DPut H dm (.ref p) (.ref b) H2 ∧ LQ K H0 H2 dm dO ds n (E ++ [e]) E2 E3 := by
  obtain ⟨kvs, h1, h2, h3⟩ := L.m.put hb hp hl
  have kl := KL.dT h1 (.dT (putK kvs (kT e.1 e.2.1) (.ref b)))
  obtain ⟨ko, o1, _⟩ := L.o
  obtain ⟨ks, s1, _⟩ := L.s
  refine ⟨_, h2, sameIn L.same f, h3, L.o.mono (fun o g => ?_) fun s v _ _ h => h.kl kl, L.s.mono (fun o g => ?_) fun s v _ _ h => h.kl kl⟩
  · rw [upd_ne (ne_of o1 h1 (fun z => nomatch z))]; exact g
  · rw [upd_ne (ne_of s1 h1 (fun z => nomatch z))]; exact g
theorem LQ.putS (L : LQ K H0 H dm dO ds n E E2 E3) (f : H0 ds = none) (ne : dO ≠ ds) {b : Addr} {x : Int} (x0 : 0 ≤ x) (x1 : x < n) {E4 : List Ed} (n60 : n ≤ 60) (hb : H b = some (.lst ((tg E4 x "tau").map V.int))) (same : ∀ s, s ≠ x → tg E4 s "tau" = tg E3 s "tau") :
    ∃ H2, DPut H ds (.int x) (.ref b) H2 ∧ LQ K H0 H2 dm dO ds n E E2 E4 := by
  obtain ⟨kvs, h1, h2, h3⟩ := L.s.put x0 x1
  have kl := KL.dK h1 (.dK (putK kvs (.inl x) (.ref b)))
  obtain ⟨km, m1, _⟩ := L.m
  have zl := sizeLine_eq
  refine ⟨_, DPut.k (k := .inl x) h1 (by omega), sameIn L.same f, L.m.mono (fun o g => ?_) kl, L.o.mono (fun o g => ?_) fun s v _ _ h => h.kl kl, h3 _ _ _ upd_same ⟨b, rfl, kl.1 _ _ hb⟩ fun s u _ _ ne h => ?_⟩
  · rw [upd_ne (ne_of m1 h1 (fun z => nomatch z))]; exact g
  · rw [upd_ne ne]; exact g
  · obtain ⟨c, e, h⟩ := h.kl kl
    exact ⟨c, e, by rw [same s ne]; exact h⟩
theorem LQ.putO (L : LQ K H0 H dm dO ds n E E2 E3) (f : H0 dO = none) (ne : dO ≠ ds) {b : Addr} {x : Int} (x0 : 0 ≤ x) (x1 : x < n) {E4 : List Ed} (n60 : n ≤ 60) (hb : SqT K H b ((srtS (acs E4 x)).map V.str)) (same : ∀ s, s ≠ x → srtS (acs E4 s) = srtS (acs E2 s)) :
    ∃ H2, DPut H dO (.int x) (.ref b) H2 ∧ LQ K H0 H2 dm dO ds n E E4 E3 := by
  obtain ⟨kvs, h1, h2, h3⟩ := L.o.put x0 x1
  have kl := KL.dK h1 (.dK (putK kvs (.inl x) (.ref b)))
  obtain ⟨km, m1, _⟩ := L.m
  have zl := sizeLine_eq
  refine ⟨_, DPut.k (k := .inl x) h1 (by omega), sameIn L.same f, L.m.mono (fun o g => ?_) kl, h3 _ _ _ upd_same ⟨b, rfl, kl.2.sqT hb⟩ fun s u _ _ ne h => ?_, L.s.mono (fun o g => ?_) fun s v _ _ h => h.kl kl⟩
  · rw [upd_ne (ne_of m1 h1 (fun z => nomatch z))]; exact g
  · obtain ⟨c, e, h⟩ := h.kl kl
    exact ⟨c, e, by rw [same s ne]; exact h⟩
  · rw [upd_ne ne.symm]; exact g
theorem LQ.other (L : LQ K H0 H dm dO ds n E E2 E3) {d : Addr} {kvs : List (Key × V)} (hd : H d = some (.dK kvs)) (f : H0 d = none) (n1 : dO ≠ d) (n2 : ds ≠ d) (o : HO) : LQ K H0 (upd H d o) dm dO ds n E E2 E3 := by
  have kl := KL.dK hd o
  obtain ⟨km, m1, _⟩ := L.m
  refine ⟨sameIn L.same f, L.m.mono (fun u g => ?_) kl, L.o.mono (fun u g => ?_) fun s v _ _ h => h.kl kl, L.s.mono (fun u g => ?_) fun s v _ _ h => h.kl kl⟩
  · rw [upd_ne (ne_of m1 hd (fun z => nomatch z))]; exact g
  · rw [upd_ne n1]; exact g
  · rw [upd_ne n2]; exact g
theorem LQ.cast (L : LQ K H0 H dm dO ds n E E2 E3) {E4 E5 : List Ed} (ho : ∀ s, srtS (acs E4 s) = srtS (acs E2 s)) (hs : ∀ s, tg E5 s "tau" = tg E3 s "tau") : LQ K H0 H dm dO ds n E E4 E5 :=
  ⟨L.same, L.m, L.o.mono (fun _ e => e) fun s v _ _ ⟨b, e, h⟩ => ⟨b, e, by rw [ho s]; exact h⟩, L.s.mono (fun _ e => e) fun s v _ _ ⟨b, e, h⟩ => ⟨b, e, by rw [hs s]; exact h⟩⟩
end
/-- a round of a search: the successors of x that are new are put behind -/
theorem bfs_step {E : List Ed} {s x : Int} {cs : List Int} (nd : cs.Nodup) (rch : ∀ y ∈ cs, Rch E [s] y) (xin : x ∈ cs) : (cs ++ (onceG [] (tg E x "tau")).filter fun y => decide (¬ y ∈ cs)).Nodup ∧
    (∀ y ∈ cs ++ (onceG [] (tg E x "tau")).filter fun y => decide (¬ y ∈ cs), Rch E [s] y) ∧ ∀ y ∈ tg E x "tau", y ∈ cs ++ (onceG [] (tg E x "tau")).filter fun y => decide (¬ y ∈ cs) := by
  refine ⟨?_, fun y hy => ?_, fun y hy => ?_⟩
  · rw [List.nodup_append]
    refine ⟨nd, List.Nodup.sublist List.filter_sublist (onceG_nodup _ _ List.nodup_nil), fun a ha b hb e => ?_⟩
    have z := of_decide_eq_true (List.mem_filter.mp hb).2
    exact z (by rw [← e]; exact ha)
  · rcases List.mem_append.mp hy with z | z
    · exact rch y z
    · have w := (List.mem_filter.mp z).1
      rw [onceG_mem] at w
      rcases w with w | w
      · cases w
      · exact .step (rch x xin) (tg_mem.1 w)
  · by_cases c : y ∈ cs
    · exact List.mem_append_left _ c
    · exact List.mem_append_right _ (List.mem_filter.mpr ⟨by rw [onceG_mem]; exact .inr hy, decide_eq_true c⟩)
theorem bfs_end {n : Int} {E : List Ed} (ok : ∀ e ∈ E, okE n e) {s : Int} (s0 : 0 ≤ s) (s1 : s < n) {cs : List Int} (nd : cs.Nodup) (sin : s ∈ cs) (rch : ∀ y ∈ cs, Rch E [s] y)
    (cl : ∀ j, j < n.toNat → ∀ x, cs[j]? = some x → ∀ y ∈ tg E x ("tau" : Str), y ∈ cs) (x : Int) : x ∈ cs ↔ Rch E [s] x := by
  have rg : ∀ y, Rch E [s] y → 0 ≤ y ∧ y < n := fun y h => Rch.range (P := fun x => 0 ≤ x ∧ x < n) (fun e he => ⟨(ok e he).2.2.1, (ok e he).2.2.2.1⟩) (fun y hy => by rw [List.mem_singleton.mp hy]; exact ⟨s0, s1⟩) h
  have len := few_of nd fun y hy => rg y (rch y hy)
  refine ⟨rch x, fun h => ?_⟩
  induction h with
  | base h => rw [List.mem_singleton.mp h]; exact sin
  | step h g ih =>
    obtain ⟨j, hj, ej⟩ := List.getElem_of_mem ih
    exact cl j (by omega) _ (by rw [List.getElem?_eq_getElem hj, ej]) _ (tg_mem.2 g)
abbrev kvQ (n : Int) (dm dO ds dc ll : Addr) : List (Key × V) := [(.inr "count", .int n), (.inr "move", .ref dm), (.inr "offers", .ref dO), (.inr "silent", .ref ds), (.inr "close", .ref dc), (.inr "lost", .ref ll)]
theorem kvQ_val (n : Int) (dm dO ds dc ll : Addr) : valV (mergeK [] (kvQ n dm dO ds dc ll)) (.inr "move") = some (.ref dm) ∧ valV (mergeK [] (kvQ n dm dO ds dc ll)) (.inr "offers") = some (.ref dO) ∧ valV (mergeK [] (kvQ n dm dO ds dc ll)) (.inr "silent") = some (.ref ds) ∧
    valV (mergeK [] (kvQ n dm dO ds dc ll)) (.inr "close") = some (.ref dc) ∧ valV (mergeK [] (kvQ n dm dO ds dc ll)) (.inr "lost") = some (.ref ll) := by
  unfold mergeK kvQ
  simp only [List.foldl, valV_put]
  refine ⟨?_, ?_, ?_, ?_, ?_⟩ <;> repeat (first | exact if_pos True.intro | rw [if_neg (by decide +kernel)])
/-- what the law knows of a system -/
structure QAt (K : PySem.W.Frag) (H : Hp) (q : Addr) (n : Int) (E : List Ed) : Prop where
  ex : ∃ (kvs : List (Key × V)) (dm dO ds dc ll : Addr) (cs : List Int), H q = some (.dK kvs) ∧ valV kvs (.inr "move") = some (.ref dm) ∧ valV kvs (.inr "offers") = some (.ref dO) ∧ valV kvs (.inr "silent") = some (.ref ds) ∧ valV kvs (.inr "close") = some (.ref dc) ∧ valV kvs (.inr "lost") = some (.ref ll) ∧
    MQ H dm E ∧ IR n H dO (offR K H E) ∧ IR n H ds (silR H E) ∧ IR n H dc (cloR H E) ∧ H ll = some (.lst (cs.map V.int)) ∧ ∀ s, s ∈ cs ↔ (0 ≤ s ∧ s < n) ∧ ¬ Halt E s
  ok : ∀ e ∈ E, okE n e
  n1 : 1 ≤ n
  n60 : n ≤ 60
  len : E.length ≤ 1000
theorem QAt.same {K : PySem.W.Frag} {H H' : Hp} {q : Addr} {n : Int} {E : List Ed} (Q : QAt K H q n E) (z : Same H H') : QAt K H' q n E := by
  obtain ⟨⟨kvs, dm, dO, ds, dc, ll, cs, hq, v1, v2, v3, v4, v5, a1, a2, a3, a4, a5, a6⟩, r1, r2, r3, r4⟩ := Q
  have kl := KL.of z
  exact ⟨⟨kvs, dm, dO, ds, dc, ll, cs, z _ _ hq, v1, v2, v3, v4, v5, a1.mono (fun o e => z _ _ e) kl, a2.mono (fun o e => z _ _ e) fun s v _ _ h => h.kl kl, a3.mono (fun o e => z _ _ e) fun s v _ _ h => h.kl kl, a4.mono (fun o e => z _ _ e) fun s v _ _ h => h.kl kl, z _ _ a5, a6⟩, r1, r2, r3, r4⟩
end LW

set_option Elab.async false
set_option linter.all false
set_option maxRecDepth 100000
set_option maxHeartbeats 400000
namespace VKY
open PySem PySem.Spec PyProof.Rows L2 LamX NdefX VB PySem.W
/-! sorted(a range, key=a lambda that reads captured names) -/
section
variable {P : Program} {w : World} {fs : List Addr} {H : Hp} {h0 h h' : Heap} {x y : Addr}
/-- nothing that H tracks has changed, and what it doesn't track is there -/
structure Far (P : Program) (w : World) (fs : List Addr) (H : Hp) (h0 h : Heap) : Prop where
  un : Un fs [] H H h0 h
  ok : HOk P w H h
/-- all but what stands at x and y is there -/
def Off (x y : Addr) (h h' : Heap) : Prop := ∀ b o, b ≠ x → b ≠ y → h.get? b = some o → h'.get? b = some o
theorem Far.off (F : Far P w fs H h0 h) (nx : h0.get? x = none) (ny : h0.get? y = none) (hx : H x = none) (hy : H y = none) (k : Off x y h h') : Far P w fs H h0 h' := by
  have n1 : ∀ b o, h0.get? b = some o → b ≠ x ∧ b ≠ y := fun b o e => ⟨fun z => (by rw [z, nx] at e; cases e), fun z => (by rw [z, ny] at e; cases e)⟩
  refine ⟨⟨fun b o e n f _ => k b o (n1 b o e).1 (n1 b o e).2 (F.un.keep b o e n f List.not_mem_nil), fun b o e n f _ => ?_, fun b o e n _ => n, fun b o e _ => ?_, fun _ _ z => z, fun _ _ _ z => z, fun b ps z => ⟨#[], by rw [Array.append_empty]; exact z⟩⟩, fun b o e => ?_⟩
  · obtain ⟨sl, z⟩ := F.un.slot b o e n f List.not_mem_nil
    exact ⟨sl, k b _ (n1 b o e).1 (n1 b o e).2 z⟩
  · obtain ⟨o', z⟩ := F.un.there b o e List.not_mem_nil
    exact ⟨o', k b _ (n1 b o e).1 (n1 b o e).2 z⟩
  · refine (F.ok b o e).stay (fun c u hc z => k c u ?_ ?_ z) (fun _ z => z) fun _ _ z => z
    · rintro rfl
      rcases hc with rfl | hc
      · rw [hx] at e; cases e
      · rw [hx] at hc; cases hc
    · rintro rfl
      rcases hc with rfl | hc
      · rw [hy] at e; cases e
      · rw [hy] at hc; cases hc
theorem Far.trans {h1 : Heap} (F : Far P w fs H h0 h) (G : Far P w fs H h h1) : Far P w fs H h0 h1 := ⟨F.un.trans G.un, G.ok⟩
theorem off_update (g : Heap) (f : Obj → Obj) : Off x y g (g.update x f) := fun b o n _ e => (Heap.get?_update_ne _ _ _ _ n).trans e
theorem Off.trans {h1 : Heap} (a : Off x y h h') (b : Off x y h' h1) : Off x y h h1 := fun c o n1 n2 e => b c o n1 n2 (a c o n1 n2 e)
end
section
variable {P : Program} {w : World} {A : Around} {E : Value → Shared → Prop} {fs : List Addr} {H : Hp} {s : Shared} {kS a : Addr} {f : Value} {vs : List Value} {e1 : Nat} {R : PySem.Fin → Shared → Prop}
/-- what a key's call leaves -/
def Keyed (P : Program) (w : World) (fs : List Addr) (H : Hp) (s1 : Shared) (u : Value) (s2 : Shared) : Prop := ∃ k t, u = .int k t ∧ s2.os = s1.os ∧ AllBare s2.gens ∧ Far P w fs H s1.heap s2.heap
theorem intsAre_snoc {n : Int} {t : Tok} : ∀ {us : List Value} {ns : List Int}, IntsAre us ns → IntsAre (us ++ [.int n t]) (ns ++ [n])
  | _, _, .nil => .cons n t .nil
  | _, _, .cons m t' r => .cons m t' (intsAre_snoc r)
theorem each_ints {h : Heap} : ∀ {us : List Value} {ns : List Int}, IntsAre us ns → EachIs (fun v d => ∃ as, Reads h v d as) us (ns.map PyData.int)
  | _, _, .nil => .nil
  | _, _, .cons m t r => .cons ⟨[], .int m t⟩ (each_ints r)
theorem intsAre_len : ∀ {us : List Value} {ns : List Int}, IntsAre us ns → us.length = ns.length
  | _, _, .nil => rfl
  | _, _, .cons m t r => congrArg Nat.succ (intsAre_len r)
theorem loop (h0 : Heap) (nk : kS ∉ fs) (na : a ∉ fs) (Hk : H kS = none) (Ha : H a = none) (k0 : h0.get? kS = none) (a0 : h0.get? a = none) (ne : kS ≠ a) (F : Far P w fs H h0 s.heap) (bare : AllBare s.gens)
    (hk : s.heap.get? kS = some (seqObj "list" #[] 0)) (ha : s.heap.get? a = some (seqObj "list" #[] e1)) (small : vs.length < 64) (room : A.units + 1 < cLine)
    (turn : ∀ v ∈ vs, ∀ s1 : Shared, s1.os = s.os → AllBare s1.gens → Far P w fs H h0 s1.heap → wpAny (model P w) A (call f [v]) (Keyed P w fs H s1) (fun _ _ => False) s1)
    (fin : ∀ (s2 : Shared) (out : List Value) (c : Nat), s2.os = s.os → AllBare s2.gens → Far P w fs H h0 s2.heap → s2.heap.get? a = some (seqObj "list" out.toArray c) → out.length = vs.length → (∀ v ∈ out, v ∈ vs) → R (.done (.ret .none)) s2) :
    wpAny (model P w) A (ksk_rest a f false vs.toArray e1 (.ref kS)) R E s := by
  have zl := sizeLine_eq
  unfold ksk_rest
  refine wpAny_bind (wpAny_rule ?_)
  first
    | rw [List.forIn_toArray]
    | (rw [← Array.forIn_toList]; simp only [List.toList_toArray])
  refine wpAny_bind (ksk_fold (fun i s1 => ∃ (ks : Array Value) (e : Nat) (ns : List Int), s1.os = s.os ∧ AllBare s1.gens ∧ Far P w fs H h0 s1.heap ∧ s1.heap.get? kS = some (seqObj "list" ks e) ∧ s1.heap.get? a = some (seqObj "list" #[] e1) ∧ IntsAre ks.toList ns ∧ ks.size = i) vs 0 s
    ⟨#[], 0, [], rfl, bare, F, hk, ha, .nil, rfl⟩ (fun j v s1 hv z => ?_) fun s1 z => ?_)
  · obtain ⟨ks, e, ns, os1, b1, F1, hk1, ha1, hn, sz⟩ := z
    have lj : j < vs.length := (List.getElem?_eq_some_iff.mp hv).1
    refine wpAny_bind (wpAny_attempt (wpAny_mono (turn v (List.mem_of_getElem? hv) s1 os1 b1 F1) (fun u s2 z => ?_) fun _ _ z => z.elim))
    obtain ⟨k, t, rfl, os2, b2, F2⟩ := z
    have hk2 := F2.un.keep _ _ hk1 Hk nk List.not_mem_nil
    have ha2 := F2.un.keep _ _ ha1 Ha na List.not_mem_nil
    obtain ⟨c, hk3⟩ : ∃ c, (s2.heap.update kS (Obj.mapSeq (·.push (.int k t)))).get? kS = some (seqObj "list" (ks.push (.int k t)) c) := ⟨_, get?_update_seq hk2 (·.push (.int k t))⟩
    refine wpAny_bind (listUpdate_at hk2 rfl ?_ (by omega) (by rw [Array.size_push]; omega))
    refine wpAny_pure ⟨rfl, ks.push (.int k t), c, ns ++ [k], os2.trans os1, b2, (F1.trans F2).off k0 a0 Hk Ha (off_update _ _), hk3, (Heap.get?_update_ne _ _ _ _ ne.symm).trans ha2, ?_, by rw [Array.size_push, sz]⟩
    rw [Array.toList_push]
    exact intsAre_snoc hn
  · obtain ⟨ks, e, ns, os1, b1, F1, hk1, ha1, hn, sz⟩ := z
    rw [Nat.zero_add] at sz
    refine wpAny_bind (listItems_at hk1 rfl ?_)
    obtain ⟨g, g1, g2⟩ := restrict s1.heap fun b => decide (b ≠ kS)
    have kp : KeepsBut a g s1.heap := fun b o _ z => by
      by_cases c : b = kS
      · rw [g2 b (by simp [c])] at z; cases z
      · rw [g1 b (by simp [c])] at z; exact z
    have al : AllAlike (ns.map PyData.int) := fun d hd d' hd' => by
      obtain ⟨_, _, rfl⟩ := List.mem_map.mp hd
      obtain ⟨_, _, rfl⟩ := List.mem_map.mp hd'
      rfl
    have so : Sortable (ns.map PyData.int) := .inr fun d hd => by
      obtain ⟨_, _, rfl⟩ := List.mem_map.mp hd
      exact ⟨fun z => PyData.noConfusion z, fun xs z => PyData.noConfusion z⟩
    have un : ∀ d, d ∈ ns.map PyData.int → A.units + d.depth < cLine := fun d hd => by
      obtain ⟨n, _, rfl⟩ := List.mem_map.mp hd
      show A.units + 0 < cLine
      omega
    refine keyH_end (κ := dataKind s1.heap (ns.map PyData.int)) kp (g2 kS (by simp)) hk1 ha1 ne (SortsAt.data (s := s1) (each_ints hn) al so un) sz (by omega) fun h' tk c kb hc => ?_
    have off : Off a kS s1.heap h' := fun b o n1 n2 z => kb b o n1 (by rw [g1 b (by simp [n2])]; exact z)
    have ko : KeyedOut false (ns.map PyData.int) vs (sortVals (dataKind s1.heap (ns.map PyData.int)) false ks.toList vs) := ⟨s1.heap, ks.toList, al, rfl, each_ints hn⟩
    have ll : (ns.map PyData.int).length = vs.length := by
      have z := intsAre_len hn
      rw [Array.length_toList] at z
      rw [List.length_map]
      omega
    exact fin { s1 with heap := h', toks := tk } _ c os1 b1 (F1.off a0 k0 Ha Hk off) hc (ko.length ll) fun v hv => ko.mem hv
theorem Far.refl {h : Heap} (ok : HOk P w H h) : Far P w fs H h h :=
  ⟨⟨fun b o e _ _ _ => e, fun b o e _ _ _ => ⟨o.slots, e⟩, fun b o e n _ => n, fun b o e _ => ⟨o, e⟩, fun _ _ z => z, fun _ _ _ z => z, fun b ps z => ⟨#[], by rw [Array.append_empty]; exact z⟩⟩, ok⟩
theorem Far.kept {h0 h h' : Heap} (F : Far P w fs H h0 h) (k : ∀ b u, h.get? b = some u → h'.get? b = some u) : Far P w fs H h0 h' :=
  F.trans ⟨⟨fun b o e _ _ _ => k b o e, fun b o e _ _ _ => ⟨o.slots, k b o e⟩, fun b o e n _ => n, fun b o e _ => ⟨o, k b o e⟩, fun _ _ z => z, fun _ _ _ z => z, fun b ps z => ⟨#[], by rw [Array.append_empty]; exact z⟩⟩, F.ok.kept k⟩
/-- sorted(range, key=f) -/
theorem sorted_rg {r q : Addr} {lo hi : Int} {t u v : Tok} {Q : Value → Shared → Prop} (hd : A.handled = none) (hr : IsRange s.heap r lo hi 1 t u v) (rg : RgOk lo hi) (small : (hi - lo).toNat < 64) (room : A.units + 10 < cLine)
    (hok : HOk P w H s.heap) (bare : AllBare s.gens) (there : ∀ b ∈ fs, ∃ o, s.heap.get? b = some o)
    (turn : ∀ (i : Int) (tk : Tok), lo ≤ i → i < hi → ∀ s1 : Shared, s1.os = s.os → AllBare s1.gens → Far P w fs H s.heap s1.heap → wpAny (model P w) A.in1.in1 (call (.ref q) [.int i tk]) (Keyed P w fs H s1) (fun _ _ => False) s1)
    (fin : ∀ (s2 : Shared) (l : Addr) (us : List Value) (ns : List Int) (c : Nat), s2.os = s.os → AllBare s2.gens → Far P w fs H s.heap s2.heap → s.heap.get? l = none → H l = none → l ∉ fs → s2.heap.get? l = some (seqObj "list" us.toArray c) → IntsAre us ns → ns.length = (hi - lo).toNat → (∀ n ∈ ns, lo ≤ n ∧ n < hi) → Q (.ref l) s2) :
    wpAny (model P w) A (call (.builtin "sorted") [.ref r] [(Str.ofString "key", .ref q)]) Q E s := by
  have zl := sizeLine_eq
  obtain ⟨b1, b2, b3, b4, b5⟩ := rg
  refine call_function_entry_kw kind_sorted plain_sorted entry_sorted (ksk_s1 _ _) ?_
  unfold Builtin.«sorted»
  refine wpAny_bind (m := checkCount "sorted" 1 1 _) (wpAny_pure ?_)
  refine wpAny_bind (collect_range (n := (hi - lo).toNat) (show A.in1.handled = none from hd) hr (small_one b1 b2 b3 b4) (rangeSize_nat lo hi) b5 fun h1 tk1 acc k1 items => ?_)
  have al : acc.toList.length = (hi - lo).toNat := by rw [Array.length_toList]; exact items.1
  refine wpAny_bind (wpAny_newList ?_ (by omega))
  have F1 : Far P w fs H s.heap h1 := (Far.refl hok).kept k1
  have a0 : s.heap.get? h1.objs.size = none := by
    cases e : s.heap.get? h1.objs.size with
    | none => rfl
    | some o => exact absurd (Heap.lt_size (k1 _ _ e)) (Nat.lt_irrefl _)
  have Ha : H h1.objs.size = none := F1.ok.fresh (Nat.le_refl _)
  have na : h1.objs.size ∉ fs := fun z => by
    obtain ⟨o, e⟩ := there _ z
    rw [a0] at e; cases e
  have ha2 : (h1.push { cls := .type "list", data := .seq acc.toList.toArray }).get? h1.objs.size = some (seqObj "list" acc.toList.toArray 0) := Heap.get?_push_size _ rfl
  have F2 : Far P w fs H s.heap (h1.push { cls := .type "list", data := .seq acc.toList.toArray }) := F1.kept fun b o e => Heap.get?_push_of_some _ e
  generalize h1.push { cls := .type "list", data := .seq acc.toList.toArray } = h2 at ha2 F2 ⊢
  generalize h1.objs.size = a at a0 Ha na ha2 ⊢
  clear F1 k1
  refine wpAny_bind (wpAny_holding (wpAny_call_entry_kw slot_list_sort ⟨_, ha2, rfl⟩ entry_list_sort ?body (ksk_l1 _ _)))
  case body =>
    rw [ksk_t1]
    unfold ksk_tree
    refine wpAny_bind (listItems_at ha2 rfl ?_)
    refine wpAny_bind (listUpdate_at ha2 rfl ?_ (by rw [List.size_toArray]; omega) (Nat.zero_le _))
    obtain ⟨e1, ha3⟩ : ∃ e1, (h2.update a (Obj.mapSeq fun _ => (#[] : Array Value))).get? a = some (seqObj "list" #[] e1) := ⟨_, get?_update_seq ha2 fun _ => #[]⟩
    have F3 : Far P w fs H s.heap (h2.update a (Obj.mapSeq fun _ => (#[] : Array Value))) := F2.off a0 a0 Ha Ha (off_update _ _)
    refine wpAny_bind (seqEpoch_at ha3 rfl ?_)
    refine wpAny_bind (wpAny_newTuple ?_ (by show acc.toList.length ≤ _; omega))
    refine wpAny_bind (wpAny_newList ?_ (Nat.zero_le _))
    refine wpAny_holding ?_
    have F4 := F3.kept (h' := (h2.update a (Obj.mapSeq fun _ => (#[] : Array Value))).push { cls := .type "tuple", data := .seq acc.toList.toArray }) fun b o e => Heap.get?_push_of_some _ e
    have ha4 := Heap.get?_push_of_some { cls := .type "tuple", data := .seq acc.toList.toArray } ha3
    have up4 : ∀ b o, s.heap.get? b = some o → ∃ o', ((h2.update a (Obj.mapSeq fun _ => (#[] : Array Value))).push { cls := .type "tuple", data := .seq acc.toList.toArray }).get? b = some o' := fun b o e => F4.un.there b o e List.not_mem_nil
    generalize (h2.update a (Obj.mapSeq fun _ => (#[] : Array Value))).push { cls := .type "tuple", data := .seq acc.toList.toArray } = h4 at F4 ha4 up4 ⊢
    have F5 := F4.kept (h' := h4.push { cls := .type "list", data := .seq ([] : List Value).toArray }) fun b o e => Heap.get?_push_of_some _ e
    have ha5 := Heap.get?_push_of_some { cls := .type "list", data := .seq ([] : List Value).toArray } ha4
    have hk5 : (h4.push { cls := .type "list", data := .seq ([] : List Value).toArray }).get? h4.objs.size = some (seqObj "list" #[] 0) := Heap.get?_push_size _ rfl
    have k0 : s.heap.get? h4.objs.size = none := by
      cases e : s.heap.get? h4.objs.size with
      | none => rfl
      | some o =>
        obtain ⟨o', e'⟩ := up4 _ _ e
        exact absurd (Heap.lt_size e') (Nat.lt_irrefl _)
    have Hk : H h4.objs.size = none := F4.ok.fresh (Nat.le_refl _)
    have nk : h4.objs.size ∉ fs := fun z => by
      obtain ⟨o, e⟩ := there _ z
      rw [k0] at e; cases e
    have ne : h4.objs.size ≠ a := Nat.ne_of_gt (Heap.lt_size ha4)
    refine loop (s := { s with heap := h4.push { cls := .type "list", data := .seq ([] : List Value).toArray }, toks := _ }) s.heap nk na Hk Ha k0 a0 ne F5 bare hk5 ha5 (by omega) (by show A.units + 1 + 1 + 1 < cLine; omega) (fun x hx s1 os1 bare1 F => ?_) fun s2 out c os2 bare2 F2' hl len mem => ?_
    · obtain ⟨j, hj⟩ := List.mem_iff_getElem?.mp hx
      rw [Array.getElem?_toList] at hj
      obtain ⟨tk, rfl⟩ := items.2 j x hj
      have lj : j < acc.size := (Array.getElem?_eq_some_iff.mp hj).1
      rw [items.1] at lj
      exact turn (lo + (j : Int) * 1) tk (by omega) (by omega) s1 os1 bare1 F
    · have isI : ∀ v ∈ out, ∃ n tk, v = .int n tk ∧ lo ≤ n ∧ n < hi := fun v hv => by
        obtain ⟨j, hj⟩ := List.mem_iff_getElem?.mp (mem v hv)
        rw [Array.getElem?_toList] at hj
        obtain ⟨tk, rfl⟩ := items.2 j v hj
        have lj : j < acc.size := (Array.getElem?_eq_some_iff.mp hj).1
        rw [items.1] at lj
        exact ⟨_, tk, rfl, by omega, by omega⟩
      have split : ∀ us : List Value, (∀ v ∈ us, ∃ n tk, v = .int n tk ∧ lo ≤ n ∧ n < hi) → ∃ ns, IntsAre us ns ∧ ∀ n ∈ ns, lo ≤ n ∧ n < hi := by
        intro us
        induction us with
        | nil => exact fun _ => ⟨[], .nil, fun n hn => by cases hn⟩
        | cons x us ih =>
          intro g
          obtain ⟨n, tk, rfl, g1⟩ := g x List.mem_cons_self
          obtain ⟨ns, a1, a2⟩ := ih fun v hv => g v (List.mem_cons_of_mem _ hv)
          exact ⟨n :: ns, .cons n tk a1, fun m hm => (List.mem_cons.mp hm).elim (fun e => e ▸ g1) (a2 m)⟩
      obtain ⟨ns, i1, i2⟩ := split out isI
      exact ⟨_, rfl, wpAny_pure ⟨_, rfl, fin s2 a out ns c os2 bare2 F2' a0 Ha na hl i1 (by rw [← intsAre_len i1, len, al]) i2⟩⟩
end
/-! .. as an expression -/
section
variable {X : Cx} {j : Nat} {x : Str} {p pos : Pos} {e : Expr} {es : List Expr} {kws : List Keyword} {t tk : TA} {cl : List (Str × Addr)} {fr : List Str} {js : List Nat}
/-- what the call asks, by the state -/
def rSortLk (P : Program) (w : World) (K : PySem.W.Frag) (mg : Str → Option Value) (base : Heap) (kk : Nat) (cl : List (Str × Addr)) (fr : List Str) (js : List Nat) : L2.St → List V → List V → Hp → VK → Prop := fun σ vs zs H Q =>
  ∃ (r f : Addr) (lo hi : Int), vs = [.ref r] ∧ zs = [.ref f] ∧ H r = some (.rng lo hi) ∧ RgOk lo hi ∧ (hi - lo).toNat < 64 ∧
    (∀ H3, VC.Lock cl fr (js.map (slotAt σ)) H H3 → ∃ φ sp, VA.VCall P w K mg base kk f φ sp ∧ φ H3 ∧ ∀ i, lo ≤ i → i < hi → ∃ key : Int, ∀ Q' : VK, Q' (.int key) H3 → sp [.int i] H3 Q' C8.E0) ∧
    ∀ (l : Addr) (ns : List Int), H l = none → ns.length = (hi - lo).toNat → (∀ n ∈ ns, lo ≤ n ∧ n < hi) → Q (.ref l) (upd H l (.lst (ns.map V.int)))
def tSortLk (P : Program) (w : World) (K : PySem.W.Frag) (mg : Str → Option Value) (base : Heap) (kk : Nat) (cl : List (Str × Addr)) (fr : List Str) (js : List Nat) (t tk : TA) : TE := fun σ H Q => t σ H fun vs H1 => tk σ H1 fun zs H2 => rSortLk P w K mg base kk cl fr js σ vs zs H2 Q
theorem vals_ints {us : List Value} {ns : List Int} (h : IntsAre us ns) : Vals (ns.map V.int) us := by
  induction h with
  | nil => exact .nil
  | cons n t r ih => exact .cons ⟨t, rfl⟩ ih
/-- a new list stands behind a call that kept all -/
theorem after_list {pins : List (Addr × Obj)} {σ : L2.St} {s s2 : Shared} {H : Hp} {Q : VK} {l : Addr} {us : List Value} {xs : List V} {c : Nat} (I : Inv X pins σ H s) (F2 : Far X.prog X.w (frs X.stack) H s.heap s2.heap) (os2 : s2.os = s.os) (b2 : AllBare s2.gens)
    (l0 : s.heap.get? l = none) (hl : s2.heap.get? l = some (seqObj "list" us.toArray c)) (hv : Vals xs us) (len : xs.length ≤ sizeLine) (q : Q (.ref l) (upd H l (.lst xs))) : EP X pins σ Q (.ref l) s2 := by
  have Hl : H l = none := HOk.gone I.hok l0
  refine I.after ⟨.ref l, upd H l (.lst xs), os2, b2, ⟨F2.un.keep, F2.un.slot, fun b o eo n _ => by rw [upd_ne (fun z => by rw [z, l0] at eo; cases eo)]; exact n, F2.un.there, fun b xs z => by rw [upd_ne (ne_of_none z Hl)]; exact z, fun b o u z => by rw [upd_ne (ne_of_none z Hl)]; exact z, fun b ps z => ⟨#[], by rw [upd_ne (ne_of_none z Hl), Array.append_empty]; exact z⟩⟩, fun b u eo => ?_, rfl, q⟩
  by_cases c1 : b = l
  · subst c1
    rw [upd_same] at eo
    cases eo
    exact ⟨len, us, c, hv, hl⟩
  · rw [upd_ne c1] at eo
    refine (F2.ok b u eo).stay (fun _ _ _ z => z) (fun c z => ?_) fun c xs z => ?_
    · rw [upd_ne (ne_of_none z Hl)]; exact z
    · rw [upd_ne (ne_of_none z Hl)]; exact z
theorem pe_sortLk {kk : Nat} (hr : Room (kk + 2) X.A) (hg : Gl X "sorted") (hm : X.mg "sorted" = none) (cpo : X.Ok → Caps X cl fr js) (hfn : ∀ y, X.fn y = true) (ha : PA X (e :: es) t) (hk : PK X kws tk)
    (he : backTo pos (starEach (e :: es) X.env) = (false, eval e X.env) :: backTo pos (starEach es X.env) := by rfl) (hpl : (backTo pos (starEach (e :: es) X.env)).any (·.1) = false := by rfl)
    (hall : (backToKw pos (keywordEach kws X.env)).all (·.1.isSome) = true := by rfl) (hnone : (backToKw pos (keywordEach kws X.env)).any (·.1.isNone) = false := by rfl) (hks : (backToKw pos (keywordEach kws X.env)).filterMap (·.1) = [Str.ofString "key"] := by rfl) :
    PE X (.Call (.Name "sorted" p) (e :: es) kws pos) (tSortLk X.prog X.w X.K X.mg X.base kk cl fr js t tk) := by
  refine ⟨fun pins s0 σ H0 Q I0 h => ?_⟩
  refine wpAny_Call_Name_kw (ld_blt I0 hg hm (show bootBuiltins (Str.ofString "sorted") = some (.builtin "sorted") by decide +kernel) ?_ (by decide) (by decide))
  refine PyProof.Rows.callWith_kw (thn (ha.run pos pins s0 σ H0 _ I0 h) fun us s1 ⟨vs, H1, I1, r1, q1⟩ => thn (hk.run pos pins s1 σ H1 _ I1 q1) fun ws s ⟨zs, H, I, r2, q2⟩ => ?_) he hpl hall hnone
  rw [hks]
  obtain ⟨r, f, lo, hi, rfl, rfl, hrg, rg, small, keys, q⟩ := q2
  obtain rfl := Vals.ref1 r1
  obtain rfl := Vals.ref1 r2
  have cp := cpo I.ok
  obtain ⟨H3, lk, ok3⟩ := VC.lock_of I cp
  have C := cells_of I cp
  obtain ⟨φ, sp, vc, hφ, key⟩ := keys H3 lk
  have young : ∀ b, VC.In cl b → X.s_0.heap.objs.size ≤ b := fun b ⟨y, ey⟩ => I.ok.cab y b (hfn y) (cp.sub y b ey)
  have noBase : ∀ b, VC.In cl b → X.base.get? b = none := fun b i => Heap.get?_none_of_le (Nat.le_trans I.ok.bsz (young b i))
  have noFrame : ∀ b ∈ frs X.stack, ¬ VC.In cl b := fun b hb i => by
    rcases List.mem_cons.mp (I.stkSub b hb) with z | z
    · obtain ⟨y, ey⟩ := i
      obtain ⟨_, v, o, ho, hdd⟩ := C.all y b ey
      obtain ⟨m, ⟨o', es', ep', ho', hdd', _⟩, _⟩ := I.loc
      rw [← z, ho] at ho'
      rw [← Option.some.inj ho', hdd] at hdd'
      cases hdd'
    · obtain ⟨_, o, ho, _⟩ := I.ok.funs.mem z
      exact absurd (Heap.lt_size ho) (Nat.not_lt.mpr (young b i))
  -- far by the locked heap is far by the open one
  have opened : ∀ h, Far X.prog X.w (frs X.stack) H3 s.heap h → Far X.prog X.w (frs X.stack) H s.heap h := fun h F => by
    have hold : ∀ b, VC.In cl b → ∀ o, s.heap.get? b = some o → h.get? b = some o := fun b i o eo => by
      obtain ⟨o', v', z, _⟩ := lk.lk.frz i
      have g1 := (ok3 b _ z).1
      rw [eo] at g1
      rw [Option.some.inj g1]
      exact (F.ok b _ z).1
    refine ⟨⟨fun b o eo n hb hx => ?_, fun b o eo n hb hx => ?_, fun b o eo n hx => n, fun b o eo hx => F.un.there b o eo hx, fun _ _ z => z, fun _ _ _ z => z, fun b ps z => ⟨#[], by rw [Array.append_empty]; exact z⟩⟩, fun b u eo => ?_⟩
    · by_cases i : VC.In cl b
      · exact hold b i o eo
      · exact F.un.keep b o eo (by rw [lk.out b i]; exact n) hb hx
    · exact F.un.slot b o eo (by rw [lk.out b (noFrame b hb)]; exact n) hb hx
    · have i : ¬ VC.In cl b := fun i => by rw [lk.free b i] at eo; cases eo
      refine (F.ok b u (by rw [lk.out b i]; exact eo)).stay (fun _ _ _ z => z) (fun c z => ?_) fun c xs z => ?_
      · rw [← lk.out c fun j => ?_]; exact z
        obtain ⟨o', v', z', _⟩ := lk.lk.frz j
        rw [z'] at z; cases z
      · rw [← lk.out c fun j => ?_]; exact z
        obtain ⟨o', v', z', _⟩ := lk.lk.frz j
        rw [z'] at z; cases z
  have at_ : ∀ s1 : Shared, s1.os = s.os → AllBare s1.gens → Far X.prog X.w (frs X.stack) H s.heap s1.heap → Inv X pins σ H s1 := fun s1 os1 b1 F => I.call' (ch := []) os1 F.un F.ok b1 fun b z => absurd z List.not_mem_nil
  have there : ∀ b ∈ frs X.stack, ∃ o, s.heap.get? b = some o := fun b hb => by
    obtain ⟨_, o, ho, _⟩ := I.env0.funs.mem hb
    exact ⟨o, ho⟩
  obtain ⟨t1, t2, t3, er⟩ := (show ∃ t u v, s.heap.get? r = some { cls := .type "range", data := .fields #[.int lo t, .int hi u, .int 1 v] } from I.hok r _ hrg)
  refine sorted_rg (fs := frs X.stack) (H := H3) (t := t1) (u := t2) (v := t3) hr.hd er rg small (by have := hr.un; omega) ok3 I.bare there (fun i tk i1 i2 s1 os1 b1 F => ?_) fun s2 l us ns c os2 b2 F l0 _ nl hl isI len bnd => ?_
  · have I1 := at_ s1 os1 b1 (opened _ F)
    have e0 := I1.env0
    have e1 : Env0 X.prog X.w X.K X.mg X.base X.A.in1.in1 X.stack s1 H3 := ⟨e0.frames, e0.mod, fun b o eb => ⟨(e0.bs b o eb).1, by
      rw [lk.out b fun i => by rw [noBase b i] at eb; cases eb]
      exact (e0.bs b o eb).2⟩, e0.bsz, e0.funs, fun b hb => by rw [lk.out b (noFrame b hb)]; exact e0.frf b hb, F.ok, e0.bare⟩
    obtain ⟨k, hk2⟩ := key i i1 i2
    have run := vc.run X.A.in1.in1 X.stack s1 H3 [.int i tk] [.int i] (fun v H' => v = .int k ∧ H' = H3) C8.E0 (hr.in1.in1) e1 hφ (.cons ⟨tk, rfl⟩ .nil) (hk2 _ ⟨rfl, rfl⟩)
    refine wpAny_call (codeAny_mono run fun res s' hq => ?_)
    cases res with
    | error e => exact hq.elim
    | ok fl =>
      cases fl with
      | next => exact hq.elim
      | brk => exact hq.elim
      | cont => exact hq.elim
      | ret u =>
        obtain ⟨v, H', os, bare, un, hok, rv, rfl, rfl⟩ := hq
        obtain ⟨t', rfl⟩ := rv
        exact ⟨k, t', rfl, os, bare, un, hok⟩
  · exact after_list I (opened _ F) os2 b2 l0 hl (vals_ints isI) (by rw [List.length_map, len, sizeLine_eq]; omega) (q l ns (HOk.gone I.hok l0) len bnd)
end
end VKY

set_option Elab.async false
set_option linter.all false
set_option maxRecDepth 100000
set_option maxHeartbeats 400000
namespace VTS
open PySem PySem.Spec PyProof.Rows L2 LamX NdefX VB PySem.W
/-- sorted of a tuple of texts -/
def rSortTS (K : PySem.W.Frag) : List V → Hp → VK → Prop := fun vs H Q => ∃ (a : Addr) (ss : List Str), vs = [V.ref a] ∧ SqT K H a (ss.map V.str) ∧ ss.length ≤ 1000 ∧
  ∀ p : Addr, H p = none → Q (.ref p) (upd H p (.lst ((ss.mergeSort VS.leS).map V.str)))
theorem sortedTS {X : Cx} {K : PySem.W.Frag} (h : X.K = K) {k : Nat} (hr : Room k X.A) : CallR X (.builtin "sorted") (rSortTS K) := by
  subst h
  intro pins s σ H vs us Q I r hh
  obtain ⟨a, ss, rfl, hs, small, q⟩ := hh
  have hun := hr.un
  have eS : (PySem.W.dataLe false PyData.str : Str → Str → Bool) = VS.leS := PySem.W.dataLe_str (fun x => x)
  have zl := sizeLine_eq
  obtain ⟨its, rv, ⟨o, ho, hc, n, hd⟩, hz⟩ := I.tuple hs
  rw [Vals.ref1 r]
  have li : its.length = ss.length := by
    have z := rv.length
    rw [List.length_map] at z
    omega
  have e1 : EachIs (fun u x => RelV (V.str x) u) its ss := by
    clear hs li hd hz q small
    generalize its = us at rv
    revert us
    induction ss with
    | nil => intro us rv; cases rv; exact .nil
    | cons x ss ih =>
      intro us rv
      cases rv with
      | cons h1 h2 => exact .cons h1 (ih _ h2)
  refine call_function_entry_kw kind_sorted plain_sorted entry_sorted (args_sorted1 _) ?_
  unfold Builtin.«sorted»
  refine wpAny_bind (m := checkCount "sorted" 1 1 _) (wpAny_pure ?_)
  refine wpAny_bind (wpAny_collect_seq a (.inr rfl) ho hc hd (fun h1 k1 => ?_) (by rw [List.size_toArray]; omega))
  refine wpAny_bind (wpAny_newList ?_ (by show its.length ≤ _; omega))
  have hoL : (h1.push (seqObj "list" its.toArray 0)).get? h1.objs.size = some (seqObj "list" its.toArray 0) := Heap.get?_push_size _ rfl
  refine wpAny_bind (wpAny_holding (PySem.W.list_sort_data (enc := PyData.str) (bs := ss) (R := fun u x => RelV (V.str x) u) hoL e1 ?_ ?_ ?_ (by omega) ?_ fun out lo eo => ?_))
  · exact e1.mono fun u x ⟨t, z⟩ => ⟨[], by rw [z]; exact .str x t, by simp⟩
  · intro d hd' d' hd''
    obtain ⟨x, _, rfl⟩ := List.mem_map.mp hd'
    obtain ⟨y, _, rfl⟩ := List.mem_map.mp hd''
    rfl
  · refine .inr fun d hd' => ?_
    obtain ⟨x, _, rfl⟩ := List.mem_map.mp hd'
    exact ⟨fun z => PyData.noConfusion z, fun xs z => PyData.noConfusion z⟩
  · intro b hb'
    show X.A.units + 1 + 1 + 0 < cLine
    omega
  · obtain ⟨c, hc'⟩ := sortedHeap_at (vs := its) (out := out.toArray) hoL
    have l0 : s.heap.get? h1.objs.size = none := by
      cases e : s.heap.get? h1.objs.size with
      | none => rfl
      | some o => exact absurd (Heap.lt_size (k1 _ _ e)) (Nat.lt_irrefl _)
    have kp : ∀ b u, s.heap.get? b = some u → (PyProof.Rows.sortedHeap (h1.push (seqObj "list" its.toArray 0)) h1.objs.size its out.toArray).get? b = some u := by
      intro b u e
      have z := k1 b u e
      have hlt := Heap.lt_size z
      rw [sortedHeap_old (Nat.ne_of_lt hlt) (by rw [size_push']; exact Nat.lt_succ_of_lt hlt)]
      exact Heap.get?_push_of_some _ z
    rw [eS] at eo
    exact wpAny_pure ⟨_, rfl, VKY.after_list I ((VKY.Far.refl I.hok).kept kp) rfl I.bare l0 hc' (VA.vals_each V.str eo) (by rw [List.length_map, List.length_mergeSort]; omega) (q _ (HOk.gone I.hok l0))⟩
end VTS

set_option Elab.async false
set_option linter.all false
namespace VKA
open PySem PySem.Spec PyProof.Rows L2 LamX NdefX VB
theorem anyL {X : Cx} {K : PySem.W.Frag} (h : X.K = K) (hc : X.calm = true) : CallR X (.builtin "any") (rAny K) := by subst h; exact cr_any hc
end VKA

set_option Elab.async false
set_option linter.all false
set_option maxRecDepth 100000
set_option maxHeartbeats 400000
namespace LW
open PySem PySem.Spec PyProof.Rows L2 LamX NdefX VB VM VP VE VX VQ VZ
abbrev s__law_quick : Stmt := top 31
theorem sc__law_quick : FnScope ["parts", "count", "edges", "move", "offers", "silent", "state", "action", "target", "close", "found", "k", "lost"] ["parts"] (defScope s__law_quick) := ⟨rfl, rfl, rfl, by decide +kernel, rfl, by decide +kernel, by decide +kernel⟩
theorem ite2b {b : Bool} {A B : Prop} (h1 : b = true → A) (h2 : b = false → B) : if b = true then A else B := by
  cases b
  · exact iteF (h2 rfl)
  · exact iteT (h1 rfl)
section
variable {P : Program} {w : World} {K : PySem.W.Frag} {mg : Str → Option Value} {base : Heap}
def spQuick (K : PySem.W.Frag) : Sp := fun vs H Q _ => ∃ (t l : Addr) (n : Int) (L : List (Addr × Ed)), vs = [.ref t] ∧ SqT K H t [.int n, .ref l] ∧ SqL K H l (refs L) ∧ Eds K H L ∧ L.length ≤ 1000 ∧ (∀ x ∈ L, okE n x.2) ∧ 1 ≤ n ∧ n ≤ 60 ∧
  ∀ (q : Addr) (H' : Hp), Same H H' → QAt K H' q n (L.map (·.2)) → Q (.ref q) H'
theorem c_quick (D : Df K mg "_law_quick" s__law_quick) (z_range : mg "range" = none) (z_list : mg "list" = none) (z_len : mg "len" = none) (z_any : mg "any" = none) (z_sorted : mg "sorted" = none) (z_tuple : mg "tuple" = none)
    (c__law_once : C8.Cal P w K mg base 1 "_law_once" (spOnceI K) []) : C8.Cal P w K mg base 2 "_law_quick" (spQuick K) [] := by
  refine D.cal sc__law_quick (fun _ _ _ _ _ _ us hl => match us, hl with | [_], _ => rfl) (fun vs H Q E h => ?_) (fun f cdv A outer s0 H vs Q E hr h => ?_)
  · obtain ⟨t, l, n, L, rfl, _⟩ := h
    rfl
  obtain ⟨t, l, n, L, rfl, hT, hS, hE, len, ok, n1, n60, q⟩ := h
  refine ⟨_, (pss_cons (ps_asg (pv 0) (pg_tup rfl (pgs_cons (pg_name (i := 1) sc__law_quick.nd rfl (Or.inl rfl)) (pgs_cons (pg_name (i := 2) sc__law_quick.nd rfl (Or.inl rfl)) pgs_nil))))
    (pss_cons (ps_set (i := 3) sc__law_quick.nd rfl (Or.inl rfl) pe_dnewT)
    (pss_cons (ps_set (i := 4) sc__law_quick.nd rfl (Or.inl rfl) pe_dnewK)
    (pss_cons (ps_set (i := 5) sc__law_quick.nd rfl (Or.inr rfl) pe_dnewK)
    (pss_cons (ps_for PassesOwn.never rfl (pi_range1 rfl z_range (pa_cons (pv 1) pa_nil)) (pg_name (i := 6) sc__law_quick.nd rfl (Or.inl rfl))
      (pss_cons (ps_dput (hu_of hr) (pv 4) (pv 6) (pe_tup pa_nil) rfl)
      (pss_one (ps_dput (hu_of hr) (pv 5) (pv 6) (pe_lst pa_nil) rfl))))
    (pss_cons (ps_for PassesOwn.never rfl (pi_list (pv 2)) (pg_tup rfl (pgs_cons (pg_name (i := 6) sc__law_quick.nd rfl (Or.inl rfl)) (pgs_cons (pg_name (i := 7) sc__law_quick.nd rfl (Or.inl rfl)) (pgs_cons (pg_name (i := 8) sc__law_quick.nd rfl (Or.inl rfl)) pgs_nil))))
      (pss_cons (ps_dput (hu_of hr) (pv 3) (pe_tup (pa_cons (pv 6) (pa_cons (pv 7) pa_nil))) (pe_op op_cat (pe_dget2 (hu_of hr) (pv 3) (pe_tup (pa_cons (pv 6) (pa_cons (pv 7) pa_nil))) (pe_lst pa_nil) ⟨rfl, rfl, rfl, rfl⟩) (pe_lst (pa_cons (pv 8) pa_nil))) rfl)
      (pss_one (ps_if (pt_cmpR op_eq (pv 7) pe_str (nomark _))
        (pss_one (ps_dput (hu_of hr) (pv 5) (pv 6) (pe_op op_cat (pe_dget (hu_of hr) (pv 5) (pv 6) (fun _ _ => rfl)) (pe_lst (pa_cons (pv 8) pa_nil))) rfl))
        (pss_one (ps_if (pt_cmpR (VK.notInQ (K := K) rfl) (pv 7) (pe_dget (hu_of hr) (pv 4) (pv 6) (fun _ _ => rfl)) rfl)
          (pss_one (ps_dput (hu_of hr) (pv 4) (pv 6) (pe_callTy (VK.tupQ (K := K) rfl) (by rfl) z_tuple (by decide +kernel) (pa_cons (pe_callB (VTS.sortedTS (K := K) rfl hr) (by rfl) z_sorted (by decide +kernel) (pa_cons (pe_op (VZ.catA (K := K) rfl) (pe_dget (hu_of hr) (pv 4) (pv 6) (fun _ _ => rfl)) (pe_tup (pa_cons (pv 7) pa_nil))) pa_nil)) pa_nil)) rfl))
          pss_nil))))))
    (pss_cons (ps_set (i := 9) sc__law_quick.nd rfl (Or.inl rfl) pe_dnewK)
    (pss_cons (ps_for PassesOwn.never rfl (pi_range1 rfl z_range (pa_cons (pv 1) pa_nil)) (pg_name (i := 6) sc__law_quick.nd rfl (Or.inl rfl))
      (pss_cons (ps_set (i := 10) sc__law_quick.nd rfl (Or.inr rfl) (pe_lst (pa_cons (pv 6) pa_nil)))
      (pss_cons (ps_for PassesOwn.never rfl (pi_range1 rfl z_range (pa_cons (pv 1) pa_nil)) (pg_name (i := 11) sc__law_quick.nd rfl (Or.inl rfl))
        (pss_one (ps_if (pt_cmpR op_lt (pv 11) (pe_callB (VK.lenQ (K := K) rfl) (by rfl) z_len PySem.boot_len (pa_cons (pv 10) pa_nil)) (nomark _))
          (pss_one (ps_set (i := 10) sc__law_quick.nd rfl (Or.inr rfl) (pe_op op_cat (pv 10) (pe_lc (own := [("target", 8)]) rfl sc__law_quick.nd (pi_list (C8.pe_c c__law_once hr (by first | decide | omega) rfl (pa_cons (pe_dget (hu_of hr) (pv 5) (pe_ix (VK.ixL (K := K) rfl) (pv 10) (pv 11) (fun _ _ => rfl)) (fun _ _ => rfl)) pa_nil))) (blkOk_by (N := ["parts", "count", "edges", "move", "offers", "silent", "state", "action", "target", "close", "found", "k", "lost"]) (sc := defScope s__law_quick) (by decide +kernel)) (fun _ _ _ _ _ => (pg_name (i := 8) sc__law_quick.nd rfl (Or.inl rfl) (hf := Or.inr rfl))) (fun _ _ _ _ _ => (pts_one (pt_cmpR (VK.notInQ (K := K) rfl) (pv 8) (pv 10) rfl))) (fun _ _ _ _ _ => (pv 8))))))
          pss_nil)))
      (pss_one (ps_dput (hu_of hr) (pv 9) (pv 6) (pv 10) rfl)))))
    (pss_cons (ps_set (i := 12) sc__law_quick.nd rfl (Or.inr rfl) (pe_listRg rfl (by rfl) z_list (prg_1 (by rfl) z_range (pv 1))))
    (pss_cons (ps_for PassesOwn.never rfl (pi_range1 rfl z_range (pa_cons (pv 1) pa_nil)) (pg_name (i := 11) sc__law_quick.nd rfl (Or.inl rfl))
      (pss_one (ps_set (i := 12) sc__law_quick.nd rfl (Or.inr rfl) (pe_lc (own := [("state", 6)]) rfl sc__law_quick.nd (pi_list (pv 12)) (blkOk_by (N := ["parts", "count", "edges", "move", "offers", "silent", "state", "action", "target", "close", "found", "k", "lost"]) (sc := defScope s__law_quick) (by decide +kernel)) (fun _ _ _ _ _ => (pg_name (i := 6) sc__law_quick.nd rfl (Or.inl rfl) (hf := Or.inr rfl))) (fun _ _ _ _ _ => (pts_one (pt_val (pe_callB (VKA.anyL (K := K) rfl rfl) (by rfl) z_any (by decide +kernel) (pa_cons (pe_lc (own := [("target", 8)]) (tt := tYes) rfl sc__law_quick.nd (VD.piL (K := K) rfl (pe_dget (hu_of hr) (pv 5) (pv 6) (fun _ _ => rfl))) (blkOk_by (N := ["parts", "count", "edges", "move", "offers", "silent", "state", "action", "target", "close", "found", "k", "lost"]) (by rfl)) (fun _ _ _ _ _ => (pg_name (i := 8) sc__law_quick.nd rfl (Or.inl rfl) (hf := Or.inr rfl))) (fun _ _ _ _ _ => pts_nil) (fun _ _ _ _ _ => (pe_cmpR (VK.inQ (K := K) rfl) (pv 8) (pv 12) rfl))) pa_nil))))) (fun _ _ _ _ _ => (pv 6))))))
    (pss_one (ps_ret (pe_disp (pps_cons pe_str (pv 1) (pps_cons pe_str (pv 3) (pps_cons pe_str (pv 4) (pps_cons pe_str (pv 5) (pps_cons pe_str (pv 9) (pps_cons pe_str (pv 12) pps_nil)))))) (by rfl) (by rfl) (fun z => by cases z) (by decide)))))))))))))), ?_⟩
  have zl := sizeLine_eq
  have okL : ∀ e ∈ L.map (·.2), okE n e := fun e he => by
    obtain ⟨p, hp, rfl⟩ := List.mem_map.mp he
    exact ok p hp
  refine ⟨_, rfl, t, _, rfl, hT, rfl, _, _, rfl, _, _, rfl, rfl, fun dm nm => ?_⟩
  have hm0 : upd H dm (.dT []) dm = some (.dT []) := upd_same
  have s1 := same_upd nm (.dT [])
  generalize upd H dm (.dT []) = H1 at hm0 s1 ⊢
  refine fun dO nO => ?_
  have ho0 : upd H1 dO (.dK []) dO = some (.dK []) := upd_same
  have s2 := same_upd nO (.dK [])
  have nO' := s1.free nO
  generalize upd H1 dO (.dK []) = H2 at ho0 s2 ⊢
  refine fun ds nS => ?_
  have hs0 : upd H2 ds (.dK []) ds = some (.dK []) := upd_same
  have s3 := same_upd nS (.dK [])
  have nS' := (s1.trans s2).free nS
  have ne : dO ≠ ds := ne_of_none ho0 nS
  have s03 := (s1.trans s2).trans s3
  have hm3 := (s2.trans s3) _ _ hm0
  have ho3 := s3 _ _ ho0
  generalize upd H2 ds (.dK []) = H3 at hs0 s3 s03 hm3 ho3 ⊢
  refine ⟨_, rfl, n, rfl, by omega, by omega, for_range (lo := 0) (n := n.toNat)
    (fun i σ H' => ∃ r6 : Option V, σ = [some (.ref t), some (.int n), some (.ref l), some (.ref dm), some (.ref dO), some (.ref ds), r6, none, none, none, none, none, none] ∧ Same H H' ∧ H' dm = some (.dT []) ∧ IR (i : Int) H' dO (offR K H' []) ∧ IR (i : Int) H' ds (silR H' []))
    ⟨none, rfl, s03, hm3, ⟨[], ho3, by simp, fun s a b => by omega⟩, ⟨[], hs0, by simp, fun s a b => by omega⟩⟩ ?_ ?_⟩
  · rintro i σ H4 hi ⟨r6, rfl, s4, hm4, io, is⟩
    have i60 : (i : Int) ≤ 60 := by omega
    refine ⟨Nat.zero_le _, fun p np => ?_⟩
    have s5 := same_upd np (.tup [])
    have hp5 : upd H4 p (.tup []) p = some (.tup []) := upd_same
    generalize upd H4 p (.tup []) = H5 at s5 hp5 ⊢
    obtain ⟨ko, o1, o2, o3⟩ := (io.mono (R' := offR K H5 []) (fun o e => s5 _ _ e) fun s v _ _ h => h.kl (.of s5)).snoc (x := 0 + (i : Nat)) (by omega)
    obtain ⟨ks, k1, k2, k3⟩ := (is.mono (R' := silR H5 []) (fun o e => s5 _ _ e) fun s v _ _ h => h.kl (.of s5)).snoc (x := 0 + (i : Nat)) (by omega)
    refine ⟨_, rfl, _, rfl, dO, _, rfl, DPut.k (k := .inl (0 + (i : Nat))) o1 (by omega), ?_⟩
    have kl := KL.dK o1 (.dK (putK ko (.inl (0 + (i : Nat))) (.ref p)))
    have o4 := o3 (upd H5 dO (.dK (putK ko (.inl (0 + (i : Nat))) (.ref p)))) (.ref p) (offR K (upd H5 dO (.dK (putK ko (.inl (0 + (i : Nat))) (.ref p)))) []) upd_same ⟨p, rfl, by rw [show acs [] (i : Int) = [] from rfl, srtS_nil]; exact kl.2.sqT (.inl (.inl hp5))⟩ fun s u _ _ h => h.kl kl
    have k4 : (upd H5 dO (.dK (putK ko (.inl (0 + (i : Nat))) (.ref p)))) ds = some (.dK ks) := by rw [upd_ne ne.symm]; exact k1
    have m4 : (upd H5 dO (.dK (putK ko (.inl (0 + (i : Nat))) (.ref p)))) dm = some (.dT []) := by rw [upd_ne (ne_of (s5 _ _ hm4) o1 (fun z => nomatch z))]; exact s5 _ _ hm4
    have s6 := sameIn (o := .dK (putK ko (.inl (0 + (i : Nat))) (.ref p))) (s4.trans s5) nO'
    generalize upd H5 dO (.dK (putK ko (.inl (0 + (i : Nat))) (.ref p))) = H6 at kl o4 k4 m4 s6 ⊢
    refine ⟨Nat.zero_le _, fun g ng => ?_⟩
    have s7 := same_upd ng (.lst [])
    have hg7 : upd H6 g (.lst []) g = some (.lst []) := upd_same
    generalize upd H6 g (.lst []) = H7 at s7 hg7 ⊢
    have k7 := s7 _ _ k4
    have klS := KL.dK k7 (.dK (putK ks (.inl (0 + (i : Nat))) (.ref g)))
    refine ⟨_, rfl, _, rfl, ds, _, rfl, DPut.k (k := .inl (0 + (i : Nat))) k7 (by omega), _, rfl, sameIn (s6.trans s7) nS', ?_, ?_, ?_⟩
    · rw [upd_ne (ne_of (s7 _ _ m4) k7 (fun z => nomatch z))]; exact s7 _ _ m4
    · refine o4.mono (fun o e => ?_) fun s v _ _ h => (h.kl (.of s7)).kl klS
      rw [upd_ne ne]
      exact s7 _ _ e
    · refine k3 _ _ _ upd_same ⟨g, rfl, klS.1 _ _ hg7⟩ fun s u _ _ h => ((h.kl kl).kl (.of s7)).kl klS
  rintro σ H4 ⟨r6, rfl, s4, hm4, io, is⟩
  rw [Int.toNat_of_nonneg (by omega : 0 ≤ n)] at io is
  have L0 : LQ K H H4 dm dO ds n [] [] [] := ⟨s4, ⟨[], hm4, Nat.le_refl _, fun k v h => (by cases h), fun s x _ => rfl⟩, io, is⟩
  clear hm4 io is
  have hE4 : Eds K H4 L := hE.kp (Kp.of s4)
  refine ⟨_, rfl, l, rfl, ⟨_, s4.seq hS⟩, for_list (K := K) (a := l) (xs := refs L)
    (fun i σ H' => ∃ r6 r7 r8 : Option V, σ = [some (.ref t), some (.int n), some (.ref l), some (.ref dm), some (.ref dO), some (.ref ds), r6, r7, r8, none, none, none, none] ∧ LQ K H H' dm dO ds n ((L.map (·.2)).take i) ((L.map (·.2)).take i) ((L.map (·.2)).take i))
    ⟨r6, none, none, rfl, L0⟩ (fun i σ H' _ ⟨_, _, _, _, z⟩ => z.same.seq hS) ?_ ?_⟩
  · rintro i v σ H5 hv ⟨r6, r7, r8, rfl, LI⟩
    obtain ⟨e, he, rfl⟩ := refs_at hv
    have ein := List.mem_of_getElem? he
    have tk := tk_at he
    have lti := (List.getElem?_eq_some_iff.mp he).1
    have lenI : ((L.map (·.2)).take i).length ≤ 999 := Nat.le_trans (List.length_take_le _ _) (by omega)
    have oe := ok e ein
    refine ⟨e.1, _, rfl, (hE.kp (Kp.of LI.same)) e ein, rfl, .int e.2.1, _, rfl, .str e.2.2.1, _, rfl, .int e.2.2.2, _, rfl, rfl, ?_⟩
    rw [tk]
    generalize (L.map (·.2)).take i = E at LI lenI ⊢
    have isd : ∀ {H9 : Hp}, LQ K H H9 dm dO ds n E E E → IsD H9 dm := fun z => by
      obtain ⟨kvs, h1, _⟩ := z.m
      exact .inr ⟨_, .inl h1⟩
    refine ⟨_, rfl, dm, rfl, isd LI, _, rfl, _, rfl, (by show 2 ≤ sizeLine; omega), fun k nk => ⟨Nat.zero_le _, fun z nz => ?_⟩⟩
    have L6 := LI.go (same_upd nk (.tup [.int e.2.1, .str e.2.2.1]))
    have hk6 : upd H5 k (.tup [.int e.2.1, .str e.2.2.1]) k = some (.tup [.int e.2.1, .str e.2.2.1]) := upd_same
    generalize upd H5 k (.tup [.int e.2.1, .str e.2.2.1]) = H6 at L6 hk6 nz ⊢
    have L7 := L6.go (same_upd nz (.lst []))
    have hk7 := same_upd nz (.lst []) _ _ hk6
    have hz7 : upd H6 z (.lst []) z = some (.lst []) := upd_same
    generalize upd H6 z (.lst []) = H7 at L7 hk7 hz7 ⊢
    obtain ⟨o, b, g1, g2, g3⟩ := L7.m.at_ e.2.1 e.2.2.1 hz7 hk7
    refine ⟨o, g1, ?_⟩
    rw [g2]
    refine ⟨_, rfl, (by show 1 ≤ sizeLine; omega), fun y ny => ?_⟩
    have L8 := L7.go (same_upd ny (.lst [.int e.2.2.2]))
    have hb8 := same_upd ny (.lst [.int e.2.2.2]) _ _ g3
    have hy8 : upd H7 y (.lst [.int e.2.2.2]) y = some (.lst [.int e.2.2.2]) := upd_same
    generalize upd H7 y (.lst [.int e.2.2.2]) = H8 at L8 hb8 hy8 ⊢
    have lt : (tg E e.2.1 e.2.2.1).length ≤ 999 := Nat.le_trans (tg_len _ _ _) lenI
    refine ⟨b, y, _, _, rfl, rfl, hb8, hy8, (by rw [List.length_map]; show _ + 1 ≤ sizeLine; omega), fun x nx => ?_⟩
    have L9 := L8.go (same_upd nx (.lst ((tg E e.2.1 e.2.2.1).map V.int ++ [.int e.2.2.2])))
    have hx9 : upd H8 x (.lst ((tg E e.2.1 e.2.2.1).map V.int ++ [.int e.2.2.2])) x = some (.lst ((tg E e.2.1 e.2.2.1).map V.int ++ [.int e.2.2.2])) := upd_same
    generalize upd H8 x (.lst ((tg E e.2.1 e.2.2.1).map V.int ++ [.int e.2.2.2])) = H9 at L9 hx9 ⊢
    refine ⟨_, rfl, _, rfl, _, rfl, (by show 2 ≤ sizeLine; omega), fun k2 nk2 => ?_⟩
    have L10 := L9.go (same_upd nk2 (.tup [.int e.2.1, .str e.2.2.1]))
    have hx10 := same_upd nk2 (.tup [.int e.2.1, .str e.2.2.1]) _ _ hx9
    have hk10 : upd H9 k2 (.tup [.int e.2.1, .str e.2.2.1]) k2 = some (.tup [.int e.2.1, .str e.2.2.1]) := upd_same
    generalize upd H9 k2 (.tup [.int e.2.1, .str e.2.2.1]) = H10 at L10 hx10 hk10 ⊢
    obtain ⟨H11, put, L11⟩ := L10.putM nm (e := e.2) hx10 hk10 (by omega)
    refine ⟨dm, H11, rfl, put, ?_⟩
    clear L10 L9 L8 L7 L6 hx10 hk10 hx9 hb8 hy8 g1 g2 g3 put hk7 hz7 hk6
    refine ⟨_, rfl, rfl, _, rfl, ?_⟩
    refine ite2 (fun c => ?_) (fun c => ?_)
    · have et : e.2.2.1 = ("tau" : Str) := by
        have z := of_decide_eq_true c
        injection z
      have nt : tg (E ++ [e.2]) e.2.1 ("tau" : Str) = tg E e.2.1 "tau" ++ [e.2.2.2] := by rw [tg_snoc, if_pos ⟨rfl, et⟩]
      have oth : ∀ s, s ≠ e.2.1 → tg (E ++ [e.2]) s ("tau" : Str) = tg E s "tau" := fun s ns => by rw [tg_snoc, if_neg fun z => ns z.1.symm]
      have oths : ∀ s, srtS (acs (E ++ [e.2]) s) = srtS (acs E s) := fun s => by rw [acs_snoc, if_neg fun z => z.2 et]
      obtain ⟨v, d1, b2, rfl, d2⟩ := L11.s.at_ oe.1 oe.2.1
      refine ⟨_, rfl, _, rfl, ds, _, rfl, d1, ?_⟩
      refine ⟨_, rfl, (by show 1 ≤ sizeLine; omega), fun y ny => ?_⟩
      have L12 := L11.go (same_upd ny (.lst [.int e.2.2.2]))
      have hb12 := same_upd ny (.lst [.int e.2.2.2]) _ _ d2
      have hy12 : upd H11 y (.lst [.int e.2.2.2]) y = some (.lst [.int e.2.2.2]) := upd_same
      generalize upd H11 y (.lst [.int e.2.2.2]) = H12 at L12 hb12 hy12 ⊢
      have lt2 : (tg E e.2.1 "tau").length ≤ 999 := Nat.le_trans (tg_len _ _ _) lenI
      refine ⟨b2, y, _, _, rfl, rfl, hb12, hy12, (by rw [List.length_map]; show _ + 1 ≤ sizeLine; omega), fun x nx => ?_⟩
      have L13 := L12.go (same_upd nx (.lst ((tg E e.2.1 "tau").map V.int ++ [.int e.2.2.2])))
      have hx13 : upd H12 x (.lst ((tg E e.2.1 "tau").map V.int ++ [.int e.2.2.2])) x = some (.lst ((tg E e.2.1 "tau").map V.int ++ [.int e.2.2.2])) := upd_same
      generalize upd H12 x (.lst ((tg E e.2.1 "tau").map V.int ++ [.int e.2.2.2])) = H13 at L13 hx13 ⊢
      obtain ⟨H14, put, L14⟩ := L13.putS nS' ne oe.1 oe.2.1 (E4 := E ++ [e.2]) n60 (by rw [nt, List.map_append]; exact hx13) oth
      exact ⟨_, rfl, _, rfl, ds, H14, rfl, put, _, _, _, rfl, L14.cast oths fun _ => rfl⟩
    · have et : ¬ e.2.2.1 = ("tau" : Str) := fun z => c (decide_eq_true (by rw [z]))
      have oths : ∀ s, tg (E ++ [e.2]) s ("tau" : Str) = tg E s "tau" := fun s => by rw [tg_snoc, if_neg fun z => et z.2]
      obtain ⟨v, d1, b2, rfl, d2⟩ := L11.o.at_ oe.1 oe.2.1
      refine ⟨_, rfl, _, rfl, _, rfl, dO, _, rfl, d1, b2, _, rfl, .inr d2, rfl, all_strs _, _, rfl, ?_⟩
      rw [inV_strs]
      refine iteMem (p := e.2.2.1 ∈ srtS (acs E e.2.1)) (fun h => ?_) (fun h => ?_)
      · refine ⟨_, _, _, rfl, L11.cast (fun s => ?_) oths⟩
        rw [acs_snoc]
        by_cases g : e.2.1 = s ∧ ¬ e.2.2.1 = ("tau" : Str)
        · rw [if_pos g, ← g.1, srtS_in h]
        · rw [if_neg g]
      · have nt : srtS (acs (E ++ [e.2]) e.2.1) = (srtS (acs E e.2.1) ++ [e.2.2.1]).mergeSort VS.leS := by rw [acs_snoc, if_pos ⟨rfl, et⟩, srtS_out h]
        have oth : ∀ s, s ≠ e.2.1 → srtS (acs (E ++ [e.2]) s) = srtS (acs E s) := fun s ns => by rw [acs_snoc, if_neg fun z => ns z.1.symm]
        have la : (srtS (acs E e.2.1)).length ≤ 999 := Nat.le_trans (srtAcs_len _ _) lenI
        refine ⟨_, rfl, _, rfl, dO, _, rfl, d1, ?_⟩
        refine ⟨_, rfl, (by show 1 ≤ sizeLine; omega), fun y ny => ?_⟩
        have L12 := L11.go (same_upd ny (.tup [.str e.2.2.1]))
        have hb12 := (Kp.of (same_upd ny (.tup [.str e.2.2.1]))).sqT d2
        have hy12 : upd H11 y (.tup [.str e.2.2.1]) y = some (.tup [.str e.2.2.1]) := upd_same
        generalize upd H11 y (.tup [.str e.2.2.1]) = H12 at L12 hb12 hy12 ⊢
        refine VJ.catA_of hb12 (.inl (.inl hy12)) (by rw [List.length_map]; show _ + 1 ≤ sizeLine; omega) fun x H13 s13 hx13 => ?_
        have L13 := L12.go s13
        have hx : SqT K H13 x ((srtS (acs E e.2.1) ++ [e.2.2.1]).map V.str) := by rw [List.map_append]; exact hx13
        refine ⟨x, _, rfl, hx, (by rw [List.length_append, List.length_singleton]; omega), fun g ng => ?_⟩
        have L14 := L13.go (same_upd ng (.lst (((srtS (acs E e.2.1) ++ [e.2.2.1]).mergeSort VS.leS).map V.str)))
        refine ⟨g, _, rfl, .inl ⟨SqL.of upd_same, fun g2 ng2 => ?_⟩⟩
        have L15 := L14.go (same_upd ng2 (.tup (((srtS (acs E e.2.1) ++ [e.2.2.1]).mergeSort VS.leS).map V.str)))
        obtain ⟨H16, put, L16⟩ := L15.putO nO' ne oe.1 oe.2.1 (b := g2) (E4 := E ++ [e.2]) n60 (by rw [nt]; exact .inl (.inl upd_same)) oth
        exact ⟨_, rfl, _, rfl, dO, H16, rfl, put, _, _, _, rfl, L16.cast (fun _ => rfl) oths⟩
  rintro σ H5 ⟨r6, r7, r8, rfl, LE⟩
  rw [refs_len, List.take_of_length_le (by rw [List.length_map]; exact Nat.le_refl _)] at LE
  clear L0 hE4
  have LE' := LE
  generalize hEd : L.map (·.2) = E at LE LE' okL q
  have lenE : E.length ≤ 1000 := by rw [← hEd, List.length_map]; exact len
  refine fun dc nC => ?_
  have L6 := LE.go (same_upd nC (.dK []))
  have nC' := LE.same.free nC
  have hc6 : upd H5 dc (.dK []) dc = some (.dK []) := upd_same
  have ndc : dO ≠ dc ∧ ds ≠ dc := by
    obtain ⟨_, h1, _⟩ := LE.o
    obtain ⟨_, h2, _⟩ := LE.s
    exact ⟨ne_of_none h1 nC, ne_of_none h2 nC⟩
  generalize upd H5 dc (.dK []) = H6 at L6 hc6 ⊢
  refine ⟨_, rfl, n, rfl, by omega, by omega, for_range (lo := 0) (n := n.toNat)
    (fun i σ H' => ∃ r6 r7 r8 r10 r11 : Option V, σ = [some (.ref t), some (.int n), some (.ref l), some (.ref dm), some (.ref dO), some (.ref ds), r6, r7, r8, some (.ref dc), r10, r11, none] ∧ LQ K H H' dm dO ds n E E E ∧ IR (i : Int) H' dc (cloR H' E))
    ⟨_, _, _, _, _, rfl, L6, [], hc6, by simp, fun s a b => by omega⟩ ?_ ?_⟩
  · rintro i σ H7 hi ⟨r6, r7, r8, r10, r11, rfl, L7, ic⟩
    have e0 : 0 + ((i : Nat) : Int) = (i : Int) := by omega
    have i0 : (0 : Int) ≤ i := by omega
    have i1 : (i : Int) < n := by omega
    rw [e0]
    refine ⟨_, rfl, (by show 1 ≤ sizeLine; omega), fun f0 nf0 => ?_⟩
    have s8 := same_upd nf0 (.lst [.int ((i : Nat) : Int)])
    have hf8 : upd H7 f0 (.lst [.int ((i : Nat) : Int)]) f0 = some (.lst ([((i : Nat) : Int)].map V.int)) := upd_same
    have ic8 := ic.mono (H' := upd H7 f0 (.lst [.int ((i : Nat) : Int)])) (R' := cloR (upd H7 f0 (.lst [.int ((i : Nat) : Int)])) E) (fun o e => s8 _ _ e) fun s v _ _ h => h.kl (.of s8)
    have L8 := L7.go s8
    generalize upd H7 f0 (.lst [.int ((i : Nat) : Int)]) = H8 at s8 hf8 ic8 L8 ⊢
    refine ⟨_, rfl, n, rfl, by omega, by omega, for_range (lo := 0) (n := n.toNat)
      (fun k σ H' => ∃ (r11 : Option V) (fq : Addr) (cs : List Int), σ = [some (.ref t), some (.int n), some (.ref l), some (.ref dm), some (.ref dO), some (.ref ds), some (.int (i : Nat)), r7, r8, some (.ref dc), some (.ref fq), r11, none] ∧ LQ K H H' dm dO ds n E E E ∧ IR (i : Int) H' dc (cloR H' E) ∧
        H' fq = some (.lst (cs.map V.int)) ∧ cs.Nodup ∧ ((i : Nat) : Int) ∈ cs ∧ (∀ y ∈ cs, Rch E [((i : Nat) : Int)] y) ∧ ∀ j, j < k → ∀ x, cs[j]? = some x → ∀ y ∈ tg E x ("tau" : Str), y ∈ cs)
      ⟨_, f0, _, rfl, L8, ic8, hf8, by simp, by simp, fun y hy => .base hy, fun j hj => absurd hj (Nat.not_lt_zero j)⟩ ?_ ?_⟩
    · rintro k σ H9 hk ⟨r11, fq, cs, rfl, L9, ic9, hf9, nd, sin, rch, cl⟩
      have rg : ∀ y ∈ cs, 0 ≤ y ∧ y < n := fun y hy => Rch.range (P := fun x => 0 ≤ x ∧ x < n) (fun e he => ⟨(okL e he).2.2.1, (okL e he).2.2.2.1⟩) (fun y hy => by rw [List.mem_singleton.mp hy]; exact ⟨i0, i1⟩) (rch y hy)
      have lcs := few_of nd rg
      refine ⟨_, rfl, _, rfl, fq, _, rfl, .inl (SqL.of hf9), _, _, rfl, rfl, _, rfl, ?_⟩
      rw [List.length_map]
      refine ite2 (fun c => ?_) (fun c => ?_)
      · have kl : k < cs.length := by have := of_decide_eq_true c; omega
        have hx : cs[k]? = some cs[k] := List.getElem?_eq_getElem kl
        have xin : cs[k] ∈ cs := List.getElem_mem kl
        generalize cs[k] = x at hx xin
        obtain ⟨v, d1, b2, rfl, d2⟩ := L9.s.at_ (rg x xin).1 (rg x xin).2
        have lt : (tg E x "tau").length ≤ 1000 := Nat.le_trans (tg_len _ _ _) lenE
        refine ⟨_, rfl, _, rfl, _, rfl, _, rfl, fq, _, _, _, rfl, rfl, SqL.of hf9, (by rw [show (0 : Int) + (k : Nat) = (k : Nat) by omega]; exact atI_nat (by rw [List.getElem?_map, hx] <;> rfl)), ds, _, rfl, d1, b2, _, rfl, SqL.of d2, (by omega), fun p np => ?_⟩
        have s10 := same_upd np (.lst ((onceG [] (tg E x "tau")).map V.int))
        have hp10 : upd H9 p (.lst ((onceG [] (tg E x "tau")).map V.int)) p = some (.lst ((onceG [] (tg E x "tau")).map V.int)) := upd_same
        have lo : (onceG [] (tg E x "tau")).length ≤ 1000 := by
          have z := onceG_len (tg E x "tau") []
          rw [List.length_nil] at z
          omega
        have bs := bfs_step (x := x) nd rch xin
        generalize onceG [] (tg E x "tau") = ts at s10 hp10 lo bs ⊢
        generalize upd H9 p (.lst (ts.map V.int)) = H10 at s10 hp10 ⊢
        refine ⟨p, rfl, ⟨_, SqL.of hp10⟩, fun D1 nD => ?_⟩
        refine lc_list (K := K) (a := p) (xs := ts.map V.int) (fun j H' => Same H10 H' ∧ H' D1 = some (.lst (((ts.take j).filter fun y => decide (¬ y ∈ cs)).map V.int))) ⟨same_upd nD _, upd_same⟩ (fun j H' _ z => z.1.seq (SqL.of hp10)) ?_ ?_
        · rintro j v H11 hv ⟨s11, hD⟩
          rw [List.getElem?_map] at hv
          obtain ⟨y, hy, rfl⟩ := Option.map_eq_some_iff.mp hv
          have tk : ts.take (j + 1) = ts.take j ++ [y] := by rw [List.take_add_one, hy, Option.toList_some]
          have ltj := (List.getElem?_eq_some_iff.mp hy).1
          refine ⟨rfl, ?_⟩
          refine ⟨_, rfl, _, rfl, fq, _, rfl, .inl (SqL.of ((s10.trans s11) _ _ hf9)), rfl, all_ints _, _, rfl, ?_⟩
          rw [inV_ints]
          refine iteMem (p := y ∈ cs) (fun h => ?_) (fun h => ?_)
          · refine ⟨s11, ?_⟩
            rw [hD, tk, List.filter_append, List.filter_cons_of_neg (by simpa using h), List.filter_nil, List.append_nil]
          · refine ⟨_, rfl, _, hD, ?_, sameIn s11 nD, ?_⟩
            · rw [List.length_map]
              have z := List.length_filter_le (fun y => decide (¬ y ∈ cs)) (ts.take j)
              have z2 := List.length_take_le j ts
              omega
            · rw [upd_same, tk, List.filter_append, List.filter_cons_of_pos (by simpa using h), List.filter_nil, List.map_append] <;> rfl
        · rintro H11 ⟨s11, hD⟩
          rw [List.length_map, List.take_length] at hD
          have s911 := s10.trans s11
          refine ⟨fq, D1, _, _, rfl, rfl, s911 _ _ hf9, hD, ?_, fun g ng => ?_⟩
          · rw [List.length_map, List.length_map]
            have z := List.length_filter_le (fun y => decide (¬ y ∈ cs)) ts
            omega
          have s12 := s911.trans (same_upd ng (.lst (cs.map V.int ++ (ts.filter fun y => decide (¬ y ∈ cs)).map V.int)))
          refine ⟨_, g, cs ++ ts.filter fun y => decide (¬ y ∈ cs), rfl, L9.go s12, ic9.mono (fun o e => s12 _ _ e) fun s v _ _ h => h.kl (.of s12), by rw [upd_same, List.map_append], bs.1, List.mem_append_left _ sin, bs.2.1, fun j hj z hz y hy => ?_⟩
          rcases Nat.lt_succ_iff_lt_or_eq.mp hj with w | w
          · have lj : j < cs.length := by omega
            rw [List.getElem?_append_left lj] at hz
            exact List.mem_append_left _ (cl j w z hz y hy)
          · subst w
            rw [List.getElem?_append_left kl, hx] at hz
            cases hz
            exact bs.2.2 y hy
      · refine ⟨_, fq, cs, rfl, L9, ic9, hf9, nd, sin, rch, fun j hj x hx => ?_⟩
        have z := (List.getElem?_eq_some_iff.mp hx).1
        refine cl j ?_ x hx
        have : ¬ (k : Int) < cs.length := fun y => c (decide_eq_true (by omega))
        omega
    · rintro σ H9 ⟨r11, fq, cs, rfl, L9, ic9, hf9, nd, sin, rch, cl⟩
      have mem := bfs_end okL i0 i1 nd sin rch cl
      obtain ⟨kc, c1, c2, c3⟩ := ic9.snoc (x := (i : Nat)) rfl
      have kl := KL.dK c1 (.dK (putK kc (.inl ((i : Nat) : Int)) (.ref fq)))
      refine ⟨_, rfl, _, rfl, _, rfl, dc, _, rfl, DPut.k (k := .inl ((i : Nat) : Int)) c1 (by omega), _, _, _, _, _, rfl, L9.other c1 nC' ndc.1 ndc.2 _, ?_⟩
      exact c3 _ _ _ upd_same ⟨fq, cs, rfl, kl.1 _ _ hf9, nd, mem⟩ fun s u _ _ h => h.kl kl
  rintro σ H7 ⟨r6, r7, r8, r10, r11, rfl, L7, ic⟩
  rw [Int.toNat_of_nonneg (by omega : 0 ≤ n)] at ic
  refine ⟨_, rfl, n, rfl, RgOk.of_le (by decide) (by omega) (by decide) (by omega), fun f0 nf0 => ?_⟩
  have s8 := same_upd nf0 (.lst (rgV 0 n))
  have hf8 : upd H7 f0 (.lst (rgV 0 n)) f0 = some (.lst ((rng n.toNat).map V.int)) := by rw [upd_same, rgV_rng]
  have s8' := s8
  generalize upd H7 f0 (.lst (rgV 0 n)) = H8 at s8 s8' hf8 ⊢
  refine ⟨_, rfl, n, rfl, by omega, by omega, for_range (lo := 0) (n := n.toNat)
    (fun k σ H' => ∃ (r11 : Option V) (fq : Addr) (fl : List Int), σ = [some (.ref t), some (.int n), some (.ref l), some (.ref dm), some (.ref dO), some (.ref ds), r6, r7, r8, some (.ref dc), r10, r11, some (.ref fq)] ∧ Same H7 H' ∧ H' fq = some (.lst (fl.map V.int)) ∧ fl.Pairwise (· < ·) ∧
      ∀ s, s ∈ fl ↔ (0 ≤ s ∧ s < n) ∧ Ch E k s) ⟨_, f0, rng n.toNat, rfl, s8, hf8, rng_asc _, fun s => by rw [rng_mem]; simp [Ch]; omega⟩ ?_ ?_⟩
  · rintro k σ H9 hk ⟨r11, fq, fl, rfl, s9, hfq, asc, mfl⟩
    have lfl := few_of (ascI_nodup asc) fun x hx => ((mfl x).1 hx).1
    refine ⟨_, rfl, fq, rfl, ⟨_, SqL.of hfq⟩, fun D2 nD2 => ?_⟩
    refine lc_list (K := K) (a := fq) (xs := fl.map V.int) (fun i H' => Same H9 H' ∧ H' D2 = some (.lst (((fl.take i).filter fun s => (tg E s "tau").any fun y => decide (y ∈ fl)).map V.int)))
      ⟨same_upd nD2 _, by rw [upd_same]; simp⟩ (fun i H' _ z => z.1.seq (SqL.of hfq)) ?_ ?_
    · rintro i v H10 hv ⟨s10, hD⟩
      rw [List.getElem?_map] at hv
      obtain ⟨s, hs, rfl⟩ := Option.map_eq_some_iff.mp hv
      have tk : fl.take (i + 1) = fl.take i ++ [s] := by rw [List.take_add_one, hs, Option.toList_some]
      have rs := ((mfl s).1 (List.mem_of_getElem? hs)).1
      have L10 := L7.go (s9.trans s10)
      obtain ⟨v, d1, b, rfl, d2⟩ := L10.s.at_ rs.1 rs.2
      have hfq10 := s10 _ _ hfq
      have ltg : (tg E s "tau").length ≤ 1000 := Nat.le_trans (tg_len _ _ _) lenE
      generalize hts : tg E s "tau" = ts at d2 ltg
      refine ⟨rfl, ?_⟩
      refine ⟨_, rfl, _, rfl, ds, _, rfl, d1, b, rfl, ⟨_, SqL.of d2⟩, fun D3 nD3 => ?_⟩
      refine lc_list (K := K) (a := b) (xs := ts.map V.int) (fun j H' => Same H10 H' ∧ H' D3 = some (.lst (((ts.take j).map fun y => decide (y ∈ fl)).map V.bl)))
        ⟨same_upd nD3 _, upd_same⟩ (fun j H' _ z => z.1.seq (SqL.of d2)) ?_ ?_
      · rintro j v H11 hv2 ⟨s11, hG⟩
        rw [List.getElem?_map] at hv2
        obtain ⟨y, hy, rfl⟩ := Option.map_eq_some_iff.mp hv2
        have tkT : ts.take (j + 1) = ts.take j ++ [y] := by rw [List.take_add_one, hy, Option.toList_some]
        have ltj := (List.getElem?_eq_some_iff.mp hy).1
        refine ⟨rfl, ?_⟩
        unfold tYes
        refine iteT ?_
        refine ⟨_, rfl, _, rfl, fq, _, rfl, .inl (SqL.of (s11 _ _ hfq10)), rfl, all_ints _, _, hG, ?_, sameIn s11 nD3, ?_⟩
        · rw [List.length_map, List.length_map, List.length_take]; omega
        · rw [upd_same, tkT, List.map_append, List.map_append]
          show some (HO.lst (_ ++ [V.bl (inV (.int y) (fl.map V.int))])) = _
          rw [inV_ints] <;> rfl
      · rintro H11 ⟨s11, hG⟩
        rw [List.length_map, List.take_length] at hG
        refine ⟨D3, ts.map fun y => decide (y ∈ fl), rfl, SqL.of hG, _, rfl, ?_⟩
        have eA : (ts.map fun y => decide (y ∈ fl)).any id = ts.any fun y => decide (y ∈ fl) := by rw [List.any_map] <;> rfl
        rw [eA]
        have s911 := s10.trans s11
        refine ite2b (fun c => ?_) (fun c => ?_)
        · refine ⟨_, rfl, _, s11 _ _ hD, ?_, sameIn s911 nD2, ?_⟩
          · rw [List.length_map]
            have z := List.length_filter_le (fun s => (tg E s "tau").any fun y => decide (y ∈ fl)) (fl.take i)
            have z2 := List.length_take_le i fl
            have z3 := (List.getElem?_eq_some_iff.mp hs).1
            omega
          · rw [upd_same, tk, List.filter_append, List.filter_cons_of_pos (by rw [hts]; exact c), List.filter_nil, List.map_append] <;> rfl
        · refine ⟨s911, ?_⟩
          rw [s11 _ _ hD, tk, List.filter_append, List.filter_cons_of_neg (by rw [hts]; simp only [c]; decide), List.filter_nil, List.append_nil]
    · rintro H10 ⟨s10, hD⟩
      rw [List.length_map, List.take_length] at hD
      refine ⟨_, D2, _, rfl, s9.trans s10, hD, asc.sublist List.filter_sublist, fun s => ?_⟩
      rw [List.mem_filter, List.any_eq_true, mfl]
      constructor
      · rintro ⟨⟨h1, h2⟩, y, hy, h3⟩
        exact ⟨h1, y, hy, ((mfl y).1 (of_decide_eq_true h3)).2⟩
      · rintro ⟨h1, y, hy, hc⟩
        have z := okL _ (tg_mem.1 hy)
        exact ⟨⟨h1, ch_pred k ⟨y, hy, hc⟩⟩, y, hy, decide_eq_true ((mfl y).2 ⟨⟨z.2.2.1, z.2.2.2.1⟩, hc⟩)⟩
  · rintro σ H9 ⟨r11, fq, fl, rfl, s9, hfq, asc, mfl⟩
    have L9 := L7.go s9
    have ic9 := ic.mono (H' := H9) (R' := cloR H9 E) (fun o e => s9 _ _ e) fun s v _ _ h => h.kl (.of s9)
    refine fun qd nq => ⟨_, rfl, _, rfl, _, rfl, _, rfl, _, rfl, _, rfl, upd_same, kvQ n dm dO ds dc fq, rfl, (by show 6 ≤ 15; decide), ?_⟩
    rw [upd_upd]
    have sq := same_upd nq (.dK (mergeK [] (kvQ n dm dO ds dc fq)))
    have hq : upd H9 qd (.dK (mergeK [] (kvQ n dm dO ds dc fq))) qd = some (.dK (mergeK [] (kvQ n dm dO ds dc fq))) := upd_same
    obtain ⟨v1, v2, v3, v4, v5⟩ := kvQ_val n dm dO ds dc fq
    have L10 := L9.go sq
    refine q qd _ L10.same ⟨⟨_, dm, dO, ds, dc, fq, fl, hq, v1, v2, v3, v4, v5, L10.m, L10.o, L10.s, ic9.mono (fun o e => sq _ _ e) fun s v _ _ h => h.kl (.of sq), sq _ _ hfq, fun s => ?_⟩, okL, n1, n60, lenE⟩
    rw [mfl]
    constructor
    · rintro ⟨h1, h2⟩
      exact ⟨h1, (ch_halt okL h1.1 h1.2).1 h2⟩
    · rintro ⟨h1, h2⟩
      exact ⟨h1, (ch_halt okL h1.1 h1.2).2 h2⟩
end
end LW

set_option Elab.async false
set_option linter.all false
set_option maxRecDepth 100000
set_option maxHeartbeats 400000
namespace LW
open PySem PySem.Spec PyProof.Rows L2 LamX NdefX VB VM VP VE VX VQ VZ
abbrev s__law_starts : Stmt := top 32
theorem sc__law_starts : FnScope ["q"] ["q"] (defScope s__law_starts) := ⟨rfl, rfl, rfl, by decide +kernel, rfl, by decide +kernel, by decide +kernel⟩
abbrev s__law_go : Stmt := top 33
theorem sc__law_go : FnScope ["q", "states", "action", "found", "state", "target", "near"] ["q", "states", "action"] (defScope s__law_go) := ⟨rfl, rfl, rfl, by decide +kernel, rfl, by decide +kernel, by decide +kernel⟩
section
variable {K : PySem.W.Frag} {H : Hp} {q : Addr} {n : Int} {E : List Ed}
theorem dget_str {kvs : List (Key × V)} {x : Str} {v : V} (hq : H q = some (.dK kvs)) (h : valV kvs (.inr x) = some v) : DGet H q (.str x) (some v) := by
  have z := DGet.k (k := .inr x) hq
  rw [h] at z
  exact z
theorem QAt.move (Q : QAt K H q n E) : ∃ d, DGet H q (.str "move") (some (.ref d)) ∧ MQ H d E := by
  obtain ⟨⟨kvs, dm, dO, ds, dc, ll, cs, hq, v1, v2, v3, v4, v5, a1, a2, a3, a4, a5, a6⟩, _⟩ := Q
  exact ⟨dm, dget_str hq v1, a1⟩
theorem QAt.offers (Q : QAt K H q n E) : ∃ d, DGet H q (.str "offers") (some (.ref d)) ∧ IR n H d (offR K H E) := by
  obtain ⟨⟨kvs, dm, dO, ds, dc, ll, cs, hq, v1, v2, v3, v4, v5, a1, a2, a3, a4, a5, a6⟩, _⟩ := Q
  exact ⟨dO, dget_str hq v2, a2⟩
theorem QAt.silent (Q : QAt K H q n E) : ∃ d, DGet H q (.str "silent") (some (.ref d)) ∧ IR n H d (silR H E) := by
  obtain ⟨⟨kvs, dm, dO, ds, dc, ll, cs, hq, v1, v2, v3, v4, v5, a1, a2, a3, a4, a5, a6⟩, _⟩ := Q
  exact ⟨ds, dget_str hq v3, a3⟩
theorem QAt.close (Q : QAt K H q n E) : ∃ d, DGet H q (.str "close") (some (.ref d)) ∧ IR n H d (cloR H E) := by
  obtain ⟨⟨kvs, dm, dO, ds, dc, ll, cs, hq, v1, v2, v3, v4, v5, a1, a2, a3, a4, a5, a6⟩, _⟩ := Q
  exact ⟨dc, dget_str hq v4, a4⟩
theorem QAt.lost (Q : QAt K H q n E) : ∃ (d : Addr) (cs : List Int), DGet H q (.str "lost") (some (.ref d)) ∧ H d = some (.lst (cs.map V.int)) ∧ ∀ s, s ∈ cs ↔ (0 ≤ s ∧ s < n) ∧ ¬ Halt E s := by
  obtain ⟨⟨kvs, dm, dO, ds, dc, ll, cs, hq, v1, v2, v3, v4, v5, a1, a2, a3, a4, a5, a6⟩, _⟩ := Q
  exact ⟨ll, cs, dget_str hq v5, a5, a6⟩
/-- a dict whose keys are the numbers of a set -/
def FD (H : Hp) (fd : Addr) (S : Int → Prop) : Prop := ∃ (kvs : List (Key × V)) (ks : List Int), H fd = some (.dK kvs) ∧ kvs.map (·.1) = ks.map Sum.inl ∧ ks.Nodup ∧ (∀ y, y ∈ ks ↔ S y) ∧ ∀ y, y ∈ ks ↔ (valV kvs (.inl y)).isSome = true
theorem putK_keys {κ : Type} [DecidableEq κ] {kvs : List (κ × V)} {k : κ} {u v : V} (h : valV kvs k = some u) : (putK kvs k v).map (·.1) = kvs.map (·.1) := by
  unfold putK
  rw [valV_any, h, if_pos (by rfl), List.map_map]
  refine List.map_congr_left fun kv _ => ?_
  show (if kv.1 = k then (kv.1, v) else kv).1 = kv.1
  by_cases c : kv.1 = k
  · rw [if_pos c]
  · rw [if_neg c]
theorem FD.cast {fd : Addr} {S S' : Int → Prop} (h : FD H fd S) (e : ∀ y, S y ↔ S' y) : FD H fd S' := by
  obtain ⟨kvs, ks, h1, h2, h3, h4, h5⟩ := h
  exact ⟨kvs, ks, h1, h2, h3, fun y => (h4 y).trans (e y), h5⟩
theorem FD.same {H' : Hp} {fd : Addr} {S : Int → Prop} (h : FD H fd S) (s : Same H H') : FD H' fd S := by
  obtain ⟨kvs, ks, h1, r⟩ := h
  exact ⟨kvs, ks, s _ _ h1, r⟩
theorem FD.put {fd : Addr} {S : Int → Prop} (h : FD H fd S) (hS : ∀ y, S y → 0 ≤ y ∧ y < n) (n60 : n ≤ 60) (x : Int) (v : V) : ∃ kvs, H fd = some (.dK kvs) ∧ DPut H fd (.int x) v (upd H fd (.dK (putK kvs (.inl x) v))) ∧ FD (upd H fd (.dK (putK kvs (.inl x) v))) fd fun y => S y ∨ y = x := by
  obtain ⟨kvs, ks, h1, h2, h3, h4, h5⟩ := h
  have zl := sizeLine_eq
  have len := few_of h3 fun y hy => hS y ((h4 y).1 hy)
  have lk : kvs.length = ks.length := by
    have z := congrArg List.length h2
    rw [List.length_map, List.length_map] at z
    exact z
  refine ⟨kvs, h1, DPut.k (k := .inl x) h1 (by omega), ?_⟩
  have sm : ∀ y, ((valV (putK kvs (.inl x) v) (.inl y)).isSome = true ↔ (valV kvs (.inl y)).isSome = true ∨ y = x) := fun y => by
    rw [valV_put]
    by_cases c : y = x
    · subst c; simp
    · rw [if_neg (fun z => c (Sum.inl.inj z))]; simp [c]
  by_cases c : x ∈ ks
  · have z := (h5 x).1 c
    obtain ⟨u, hu⟩ := Option.isSome_iff_exists.mp z
    refine ⟨_, ks, upd_same, by rw [putK_keys hu]; exact h2, h3, fun y => ?_, fun y => ?_⟩
    · rw [h4]
      exact ⟨.inl, fun w => w.elim id fun w => by rw [w]; exact (h4 x).1 c⟩
    · rw [sm, ← h5]
      exact ⟨.inl, fun w => w.elim id fun w => by rw [w]; exact c⟩
  · have hu : valV kvs (.inl x) = none := by
      cases e : valV kvs (.inl x) with
      | none => rfl
      | some u => exact absurd ((h5 x).2 (by rw [e] <;> rfl)) c
    refine ⟨_, ks ++ [x], upd_same, by rw [putK_new v hu, List.map_append, h2, List.map_append] <;> rfl, ?_, fun y => ?_, fun y => ?_⟩
    · rw [List.nodup_append]
      exact ⟨h3, by simp, fun a ha b hb => by rw [List.mem_singleton.mp hb]; exact fun z => c (by rw [← z]; exact ha)⟩
    · rw [List.mem_append, List.mem_singleton, h4]
    · rw [List.mem_append, List.mem_singleton, sm, ← h5]
theorem rch_one {S : List Int} {y : Int} : Rch E S y ↔ ∃ t ∈ S, Rch E [t] y := by
  constructor
  · intro h
    induction h with
    | base h => exact ⟨_, h, .base (by simp)⟩
    | step _ g ih =>
      obtain ⟨t, ht, r⟩ := ih
      exact ⟨t, ht, .step r g⟩
  · rintro ⟨t, ht, r⟩
    exact r.imp (fun _ e => e) fun x hx => by rw [List.mem_singleton.mp hx]; exact ht
theorem rch_rg (ok : ∀ e ∈ E, okE n e) {S : List Int} (hS : ∀ y ∈ S, 0 ≤ y ∧ y < n) {y : Int} (h : Rch E S y) : 0 ≤ y ∧ y < n :=
  Rch.range (P := fun x => 0 ≤ x ∧ x < n) (fun e he => ⟨(ok e he).2.2.1, (ok e he).2.2.2.1⟩) hS h
end
section
variable {P : Program} {w : World} {K : PySem.W.Frag} {mg : Str → Option Value} {base : Heap}
def spQSt (K : PySem.W.Frag) : Sp := fun vs H Q _ => ∃ (q : Addr) (n : Int) (E : List Ed), vs = [.ref q] ∧ QAt K H q n E ∧
  ∀ (a : Addr) (H' : Hp) (cs : List Int), Same H H' → H' a = some (.tup (cs.map V.int)) → IsClo E [0] cs → (∀ x ∈ cs, 0 ≤ x ∧ x < n) → cs.length ≤ 60 → Q (.ref a) H'
theorem c_qst (D : Df K mg "_law_starts" s__law_starts) (z_sorted : mg "sorted" = none) (z_tuple : mg "tuple" = none) : C8.Cal P w K mg base 1 "_law_starts" (spQSt K) [] := by
  refine D.cal sc__law_starts (fun _ _ _ _ _ _ us hl => match us, hl with | [_], _ => rfl) (fun vs H Q E h => ?_) (fun f cdv A outer s0 H vs Q E hr h => ?_)
  · obtain ⟨q, n, E0, rfl, _⟩ := h
    rfl
  obtain ⟨q, n, E0, rfl, QA, k⟩ := h
  refine ⟨_, (pss_one (ps_ret (pe_callTy (VK.tupQ (K := K) rfl) (by rfl) z_tuple (by decide +kernel) (pa_cons (pe_callB (VQ.sortedI (K := K) rfl hr) (by rfl) z_sorted (by decide +kernel) (pa_cons (pe_dget (hu_of hr) (pe_dget (hu_of hr) (pv 0) pe_str (fun _ _ => rfl)) pe_int (fun _ _ => rfl)) pa_nil)) pa_nil)))), ?_⟩
  obtain ⟨d, d1, d2⟩ := QA.close
  obtain ⟨v, d3, b, cs, rfl, hb, nd, mem⟩ := d2.at_ (x := 0) (Int.le_refl 0) (by have := QA.n1; omega)
  have cl : IsClo E0 [0] (srtI cs) := ⟨srtI_asc nd, fun x => by rw [srtI_mem, mem]⟩
  have rg := clo_range QA.ok cl fun x hx => by rw [List.mem_singleton.mp hx]; have := QA.n1; omega
  have n60 := QA.n60
  have lc := few_of (ascI_nodup cl.asc) rg
  refine ⟨_, rfl, q, _, rfl, d1, d, _, rfl, d3, b, cs, rfl, SqL.of hb, fun p np => ?_⟩
  have s1 := same_upd np (.lst ((srtI cs).map V.int))
  exact ⟨p, _, rfl, .inl ⟨SqL.of upd_same, fun c nc => k c _ (srtI cs) (s1.trans (same_upd nc _)) upd_same cl rg (by omega)⟩⟩
def spQGo (K : PySem.W.Frag) : Sp := fun vs H Q _ => ∃ (q a : Addr) (n : Int) (E : List Ed) (ss : List Int) (x : Str), vs = [.ref q, .ref a, .str x] ∧ QAt K H q n E ∧ SqT K H a (ss.map V.int) ∧ (∀ x ∈ ss, 0 ≤ x ∧ x < n) ∧ ss.length ≤ 60 ∧
  ∀ (a : Addr) (H' : Hp) (cs : List Int), Same H H' → H' a = some (.tup (cs.map V.int)) → IsClo E (aft E ss x) cs → (∀ x ∈ cs, 0 ≤ x ∧ x < n) → cs.length ≤ 60 → Q (.ref a) H'
theorem c_qgo (D : Df K mg "_law_go" s__law_go) (z_sorted : mg "sorted" = none) (z_tuple : mg "tuple" = none) : C8.Cal P w K mg base 1 "_law_go" (spQGo K) [] := by
  refine D.cal sc__law_go (fun _ _ _ _ _ _ us hl => match us, hl with | [_, _, _], _ => rfl) (fun vs H Q E h => ?_) (fun f cdv A outer s0 H vs Q E hr h => ?_)
  · obtain ⟨q, a, n, E0, ss, x, rfl, _⟩ := h
    rfl
  obtain ⟨q, a, n, E0, ss, x, rfl, QA, hT, hss, lens, k⟩ := h
  refine ⟨_, (pss_cons (ps_set (i := 3) sc__law_go.nd rfl (Or.inl rfl) pe_dnewK)
    (pss_cons (ps_for PassesOwn.never rfl (pi_tup (pv 1)) (pg_name (i := 4) sc__law_go.nd rfl (Or.inl rfl))
      (pss_one (ps_for PassesOwn.never rfl (pi_list (pe_dget2 (hu_of hr) (pe_dget (hu_of hr) (pv 0) pe_str (fun _ _ => rfl)) (pe_tup (pa_cons (pv 4) (pa_cons (pv 2) pa_nil))) (pe_lst pa_nil) ⟨rfl, rfl, rfl, rfl⟩)) (pg_name (i := 5) sc__law_go.nd rfl (Or.inl rfl))
        (pss_one (ps_for PassesOwn.never rfl (pi_list (pe_dget (hu_of hr) (pe_dget (hu_of hr) (pv 0) pe_str (fun _ _ => rfl)) (pv 5) (fun _ _ => rfl))) (pg_name (i := 6) sc__law_go.nd rfl (Or.inl rfl))
          (pss_one (ps_dput (hu_of hr) (pv 3) (pv 6) pe_bl rfl)))))))
    (pss_one (ps_ret (pe_callTy (VK.tupQ (K := K) rfl) (by rfl) z_tuple (by decide +kernel) (pa_cons (pe_callB (call_sortedDI rfl) (by rfl) z_sorted (by decide +kernel) (pa_cons (pv 3) pa_nil)) pa_nil)))))), ?_⟩
  have ok := QA.ok
  have n60 := QA.n60
  have lenE := QA.len
  refine fun fd nf => ?_
  have s1 := same_upd nf (.dK [])
  have F1 : FD (upd H fd (.dK [])) fd (fun y => ∃ t ∈ aft E0 (ss.take 0) x, Rch E0 [t] y) := ⟨[], [], upd_same, rfl, List.nodup_nil, fun y => ⟨fun z => (by cases z), fun ⟨t, z, _⟩ => (by cases z)⟩, fun y => ⟨fun z => (by cases z), fun z => (by cases z)⟩⟩
  generalize upd H fd (.dK []) = H1 at s1 F1 ⊢
  refine ⟨_, rfl, a, rfl, ⟨_, VB.Same.sqT s1 hT⟩, for_tup (K := K) (a := a) (xs := ss.map V.int)
    (fun i σ H' => ∃ r4 r5 r6 : Option V, σ = [some (.ref q), some (.ref a), some (.str x), some (.ref fd), r4, r5, r6] ∧ Same H H' ∧ FD H' fd fun y => ∃ t ∈ aft E0 (ss.take i) x, Rch E0 [t] y)
    ⟨none, none, none, rfl, s1, F1⟩ (fun i σ H' _ ⟨_, _, _, _, s, _⟩ => VB.Same.sqT s hT) ?_ ?_⟩
  · rintro i v σ H2 hv ⟨r4, r5, r6, rfl, s2, F2⟩
    rw [List.getElem?_map] at hv
    obtain ⟨s, hs, rfl⟩ := Option.map_eq_some_iff.mp hv
    have tk : ss.take (i + 1) = ss.take i ++ [s] := by rw [List.take_add_one, hs, Option.toList_some]
    rw [tk, aft_snoc]
    have rA : ∀ t ∈ aft E0 (ss.take i) x, 0 ≤ t ∧ t < n := aft_range ok
    generalize aft E0 (ss.take i) x = T at F2 rA ⊢
    have rT : ∀ t ∈ tg E0 s x, 0 ≤ t ∧ t < n := fun t ht => by
      have z := ok _ (tg_mem.1 ht)
      exact ⟨z.2.2.1, z.2.2.2.1⟩
    have lT : (tg E0 s x).length ≤ 1000 := Nat.le_trans (tg_len _ _ _) lenE
    have Q2 := QA.same s2
    obtain ⟨dm, m1, m2⟩ := Q2.move
    refine ⟨_, rfl, q, _, rfl, m1, dm, rfl, (by obtain ⟨kvs, h1, _⟩ := m2; exact .inr ⟨_, .inl h1⟩), _, rfl, _, rfl, (by show 2 ≤ sizeLine; decide), fun p np => ⟨Nat.zero_le _, fun z nz => ?_⟩⟩
    have s3 := same_upd np (.tup [.int s, .str x])
    have hp3 : upd H2 p (.tup [.int s, .str x]) p = some (.tup [.int s, .str x]) := upd_same
    generalize upd H2 p (.tup [.int s, .str x]) = H3 at s3 hp3 nz ⊢
    have s4 := same_upd nz (.lst [])
    have hz4 : upd H3 z (.lst []) z = some (.lst []) := upd_same
    generalize upd H3 z (.lst []) = H4 at s4 hz4 ⊢
    have s34 := s3.trans s4
    obtain ⟨o, b, g1, g2, hb⟩ := (m2.mono (fun o e => s34 _ _ e) (.of s34)).at_ s x hz4 (s4 _ _ hp3)
    refine ⟨o, g1, ?_⟩
    rw [g2]
    have s14 := s2.trans s34
    have F4 := F2.same s34
    refine ⟨b, rfl, ⟨_, SqL.of hb⟩, for_list (K := K) (a := b) (xs := (tg E0 s x).map V.int)
      (fun j σ H' => ∃ r5 r6 : Option V, σ = [some (.ref q), some (.ref a), some (.str x), some (.ref fd), some (.int s), r5, r6] ∧ Same H H' ∧ H' b = some (.lst ((tg E0 s x).map V.int)) ∧ FD H' fd fun y => ∃ t ∈ T ++ (tg E0 s x).take j, Rch E0 [t] y)
      ⟨_, _, rfl, s14, hb, F4.cast fun y => by rw [List.take_zero, List.append_nil]⟩ (fun j σ H' _ ⟨_, _, _, _, z, _⟩ => SqL.of z) ?_ ?_⟩
    · rintro j v H5 H6 hv2 ⟨r5, r6, rfl, s5, hb5, F5⟩
      rw [List.getElem?_map] at hv2
      obtain ⟨t, ht, rfl⟩ := Option.map_eq_some_iff.mp hv2
      have tin := List.mem_of_getElem? ht
      have tkT : (tg E0 s x).take (j + 1) = (tg E0 s x).take j ++ [t] := by rw [List.take_add_one, ht, Option.toList_some]
      have rU : ∀ u ∈ T ++ (tg E0 s x).take j, 0 ≤ u ∧ u < n := fun u hu => (List.mem_append.mp hu).elim (rA u) fun hu => rT u (List.mem_of_mem_take hu)
      rw [tkT, ← List.append_assoc]
      generalize T ++ (tg E0 s x).take j = U at F5 rU ⊢
      obtain ⟨dc, c1, c2⟩ := (QA.same s5).close
      obtain ⟨v, c3, g, cs, rfl, hg, nd, mem⟩ := c2.at_ (rT t tin).1 (rT t tin).2
      refine ⟨_, rfl, q, _, rfl, c1, _, rfl, dc, _, rfl, c3, g, rfl, ⟨_, SqL.of hg⟩, for_list (K := K) (a := g) (xs := cs.map V.int)
        (fun m σ H' => ∃ r6 : Option V, σ = [some (.ref q), some (.ref a), some (.str x), some (.ref fd), some (.int s), some (.int t), r6] ∧ Same H H' ∧ H' b = some (.lst ((tg E0 s x).map V.int)) ∧ H' g = some (.lst (cs.map V.int)) ∧ FD H' fd fun y => (∃ t ∈ U, Rch E0 [t] y) ∨ y ∈ cs.take m)
        ⟨_, rfl, s5, hb5, hg, F5.cast fun y => by simp⟩ (fun j σ H' _ ⟨_, _, _, _, z, _⟩ => SqL.of z) ?_ ?_⟩
      · rintro m v H7 H8 hv3 ⟨r6, rfl, s7, hb7, hg7, F7⟩
        rw [List.getElem?_map] at hv3
        obtain ⟨y, hy, rfl⟩ := Option.map_eq_some_iff.mp hv3
        have tkC : cs.take (m + 1) = cs.take m ++ [y] := by rw [List.take_add_one, hy, Option.toList_some]
        obtain ⟨kvs, k1, k2, k3⟩ := F7.put (n := n) (fun y hy => hy.elim (fun ⟨t, ht, r⟩ => rch_rg ok (fun z hz => by rw [List.mem_singleton.mp hz]; exact rU t ht) r) fun hy => rch_rg ok (fun z hz => by rw [List.mem_singleton.mp hz]; exact rT t tin) ((mem y).1 (List.mem_of_mem_take hy))) n60 y (.bl true)
        have kl := KL.dK k1 (.dK (putK kvs (.inl y) (.bl true)))
        refine ⟨_, rfl, _, rfl, fd, _, rfl, k2, _, rfl, sameIn s7 nf, kl.1 _ _ hb7, kl.1 _ _ hg7, k3.cast fun z => ?_⟩
        rw [tkC, List.mem_append, List.mem_singleton, or_assoc]
      · rintro σ H7 ⟨r6, rfl, s7, hb7, hg7, F7⟩
        rw [List.length_map, List.take_length] at F7
        refine ⟨_, _, rfl, s7, hb7, F7.cast fun y => ?_⟩
        rw [mem]
        constructor
        · rintro (⟨u, hu, r⟩ | r)
          · exact ⟨u, List.mem_append_left _ hu, r⟩
          · exact ⟨t, List.mem_append_right _ (by simp), r⟩
        · rintro ⟨u, hu, r⟩
          rcases List.mem_append.mp hu with z | z
          · exact .inl ⟨u, z, r⟩
          · rw [List.mem_singleton.mp z] at r
            exact .inr r
    · rintro σ H5 ⟨r5, r6, rfl, s5, hb5, F5⟩
      rw [List.length_map, List.take_length] at F5
      exact ⟨_, _, _, rfl, s5, F5⟩
  · rintro σ H2 ⟨r4, r5, r6, rfl, s2, F2⟩
    rw [List.length_map, List.take_length] at F2
    obtain ⟨kvs, ks, h1, h2, h3, h4, h5⟩ := F2
    have cl : ∀ y, y ∈ ks ↔ Rch E0 (aft E0 ss x) y := fun y => (h4 y).trans rch_one.symm
    have rg : ∀ y ∈ ks, 0 ≤ y ∧ y < n := fun y hy => rch_rg ok (aft_range ok) ((cl y).1 hy)
    have lk := few_of h3 rg
    refine ⟨_, rfl, fd, kvs, ks, rfl, .of h1, h2, by omega, fun ys p pm asc np => ?_⟩
    have s3 := same_upd np (.lst (ys.map V.int))
    refine ⟨p, _, rfl, .inl ⟨SqL.of upd_same, fun c nc => k c _ ys ((s2.trans s3).trans (same_upd nc _)) upd_same ⟨?_, fun y => by rw [pm.mem_iff, cl]⟩ (fun y hy => rg y (pm.mem_iff.1 hy)) (by rw [pm.length_eq]; omega)⟩⟩
    exact (asc.and (pm.nodup_iff.2 h3)).imp fun ⟨a, b⟩ => by omega
end
end LW

set_option Elab.async false
set_option linter.all false
set_option maxRecDepth 100000
set_option maxHeartbeats 400000
namespace LW
open PySem PySem.Spec PyProof.Rows L2 LamX NdefX VB VM VP VE VX VQ VZ
abbrev s__law_shown : Stmt := top 34
theorem sc__law_shown : FnScope ["q", "states", "state"] ["q", "states"] (defScope s__law_shown) := ⟨rfl, rfl, rfl, by decide +kernel, rfl, by decide +kernel, by decide +kernel⟩
abbrev s__law_does : Stmt := top 35
theorem sc__law_does : FnScope ["q", "states", "found", "state", "action"] ["q", "states"] (defScope s__law_does) := ⟨rfl, rfl, rfl, by decide +kernel, rfl, by decide +kernel, by decide +kernel⟩
abbrev s__law_part_of : Stmt := top 36
theorem sc__law_part_of : FnScope ["small", "large", "action"] ["small", "large"] (defScope s__law_part_of) := ⟨rfl, rfl, rfl, by decide +kernel, rfl, by decide +kernel, by decide +kernel⟩
abbrev s__law_any_lost : Stmt := top 37
theorem sc__law_any_lost : FnScope ["q", "states", "state"] ["q", "states"] (defScope s__law_any_lost) := ⟨rfl, rfl, rfl, by decide +kernel, rfl, by decide +kernel, by decide +kernel⟩
section
variable {P : Program} {w : World} {K : PySem.W.Frag} {mg : Str → Option Value} {base : Heap}
def spQAl (K : PySem.W.Frag) : Sp := fun vs H Q _ => ∃ (q a : Addr) (n : Int) (E : List Ed) (xs : List Str), vs = [.ref q, .ref a] ∧ QAt K H q n E ∧ SqT K H a (xs.map V.str) ∧
  ∀ (a : Addr) (H' : Hp) (c0 cs : List Int), Same H H' → H' a = some (.tup (cs.map V.int)) → IsClo E [0] c0 → Runs E c0 xs cs → (∀ x ∈ cs, 0 ≤ x ∧ x < n) → cs.length ≤ 60 → Q (.ref a) H'
def spQAny (K : PySem.W.Frag) : Sp := fun vs H Q _ => ∃ (q a : Addr) (n : Int) (E : List Ed) (ss : List Int), vs = [.ref q, .ref a] ∧ QAt K H q n E ∧ SqT K H a (ss.map V.int) ∧ (∀ x ∈ ss, 0 ≤ x ∧ x < n) ∧ ss.length ≤ 60 ∧
  ∀ (b : Bool) (H' : Hp), Same H H' → (b = true ↔ ∃ s ∈ ss, ¬ Halt E s) → Q (.bl b) H'
theorem c_qany (D : Df K mg "_law_any_lost" s__law_any_lost) (z_any : mg "any" = none) : C8.Cal P w K mg base 1 "_law_any_lost" (spQAny K) [] := by
  refine D.cal sc__law_any_lost (fun _ _ _ _ _ _ us hl => match us, hl with | [_, _], _ => rfl) (fun vs H Q E h => ?_) (fun f cdv A outer s0 H vs Q E hr h => ?_)
  · obtain ⟨q, a, n, E0, ss, rfl, _⟩ := h
    rfl
  obtain ⟨q, a, n, E0, ss, rfl, QA, hT, hss, lens, k⟩ := h
  refine ⟨_, (pss_one (ps_ret (pe_callB (VKA.anyL (K := K) rfl rfl) (by rfl) z_any (by decide +kernel) (pa_cons (pe_lc (own := [("state", 2)]) (tt := tYes) rfl sc__law_any_lost.nd (pi_tup (pv 1)) (blkOk_by (N := ["q", "states", "state"]) (sc := defScope s__law_any_lost) (by decide +kernel)) (fun _ _ _ _ _ => (pg_name (i := 2) sc__law_any_lost.nd rfl (Or.inl rfl) (hf := Or.inr rfl))) (fun _ _ _ _ _ => pts_nil) (fun _ _ _ _ _ => (pe_cmpR (VK.inQ (K := K) rfl) (pv 2) (pe_dget (hu_of hr) (pv 0) pe_str (fun _ _ => rfl)) rfl))) pa_nil)))), ?_⟩
  have zl := sizeLine_eq
  refine ⟨_, rfl, a, rfl, ⟨_, hT⟩, fun D1 nD => ?_⟩
  obtain ⟨ll, cs, l1, l2, l3⟩ := QA.lost
  refine lc_tup (K := K) (a := a) (xs := ss.map V.int) (fun i H2 => Same H H2 ∧ H2 D1 = some (.lst (((ss.take i).map fun y => decide (y ∈ cs)).map V.bl)))
    ⟨same_upd nD _, upd_same⟩ (fun i H2 _ z => VB.Same.sqT z.1 hT) ?_ ?_
  · rintro i v H2 hv ⟨s2, hD⟩
    rw [List.getElem?_map] at hv
    obtain ⟨y, hy, rfl⟩ := Option.map_eq_some_iff.mp hv
    have tk : ss.take (i + 1) = ss.take i ++ [y] := by rw [List.take_add_one, hy, Option.toList_some]
    have lti := (List.getElem?_eq_some_iff.mp hy).1
    obtain ⟨l', cs', m1, m2, m3⟩ := (QA.same s2).lost
    refine ⟨rfl, ?_⟩
    unfold tYes
    refine iteT ?_
    refine ⟨_, rfl, _, rfl, q, _, rfl, m1, l', _, rfl, .inl (SqL.of m2), rfl, all_ints _, _, hD, ?_, sameIn s2 nD, ?_⟩
    · rw [List.length_map, List.length_map, List.length_take]; omega
    · rw [upd_same, tk, List.map_append, List.map_append]
      show some (HO.lst (_ ++ [V.bl (inV (.int y) (cs'.map V.int))])) = _
      rw [inV_ints, show decide (y ∈ cs') = decide (y ∈ cs) from decide_eq_decide.mpr ((m3 y).trans (l3 y).symm)] <;> rfl
  · rintro H2 ⟨s2, hD⟩
    rw [List.length_map, List.take_length] at hD
    refine ⟨D1, ss.map fun y => decide (y ∈ cs), rfl, SqL.of hD, k _ H2 s2 ?_⟩
    rw [List.any_map, List.any_eq_true]
    constructor
    · rintro ⟨s, h1, h2⟩
      exact ⟨s, h1, ((l3 s).1 (of_decide_eq_true h2)).2⟩
    · rintro ⟨s, h1, h2⟩
      exact ⟨s, h1, decide_eq_true ((l3 s).2 ⟨hss s h1, h2⟩)⟩
/-- a trace with a beginning that may go on for ever without an action -/
def HangP (E : List Ed) (xs : List Str) : Prop := ∃ (i : Nat) (c0 cs : List Int), i ≤ xs.length ∧ IsClo E [0] c0 ∧ Runs E c0 (xs.take i) cs ∧ ∃ s ∈ cs, ¬ Halt E s
def spQHa (K : PySem.W.Frag) : Sp := fun vs H Q _ => ∃ (q a : Addr) (n : Int) (E : List Ed) (xs : List Str), vs = [.ref q, .ref a] ∧ QAt K H q n E ∧ SqT K H a (xs.map V.str) ∧
  ∀ (b : Bool) (H' : Hp), Same H H' → (b = true ↔ HangP E xs) → Q (.bl b) H'
end
end LW

set_option Elab.async false
set_option linter.all false
set_option maxRecDepth 100000
set_option maxHeartbeats 400000
namespace LW
open PySem PySem.Spec PyProof.Rows L2 LamX NdefX VB VM VP VE VX VQ VZ
section
variable {P : Program} {w : World} {K : PySem.W.Frag} {mg : Str → Option Value} {base : Heap}
def spQSh (K : PySem.W.Frag) : Sp := fun vs H Q _ => ∃ (q b : Addr) (n : Int) (E : List Ed) (ss : List Int), vs = [.ref q, .ref b] ∧ QAt K H q n E ∧ SqT K H b (ss.map V.int) ∧ (∀ x ∈ ss, 0 ≤ x ∧ x < n) ∧ ss.length ≤ 60 ∧
  ∀ (p : Addr) (H' : Hp) (RL : List (Addr × List Str)), Same H H' → H' p = some (.lst (refs RL)) → Rows K H' RL → (RL.map (·.2)).Pairwise ltR → (∀ x, x ∈ RL.map (·.2) ↔ ∃ s ∈ ss, tg E s "tau" = [] ∧ x = srtS (acs E s)) → RL.length ≤ 60 → Q (.ref p) H'
theorem c_qsh (D : Df K mg "_law_shown" s__law_shown) (z_sorted : mg "sorted" = none) (z_len : mg "len" = none) (c__law_once : C8.Cal P w K mg base 1 "_law_once" (spOnceR K) []) : C8.Cal P w K mg base 2 "_law_shown" (spQSh K) [] := by
  refine D.cal sc__law_shown (fun _ _ _ _ _ _ us hl => match us, hl with | [_, _], _ => rfl) (fun vs H Q E h => ?_) (fun f cdv A outer s0 H vs Q E hr h => ?_)
  · obtain ⟨q, b, n, E0, ss, rfl, _⟩ := h
    rfl
  obtain ⟨q, b, n, E0, ss, rfl, QA, hT, hss, lens, k⟩ := h
  refine ⟨_, (pss_one (ps_ret (pe_callB (VD.sortedU (K := K) rfl LW.embR LW.encR hr) (by rfl) z_sorted (by decide +kernel) (pa_cons (C8.pe_c c__law_once hr (by first | decide | omega) rfl (pa_cons (pe_lc (own := [("state", 2)]) rfl sc__law_shown.nd (pi_tup (pv 1)) (blkOk_by (N := ["q", "states", "state"]) (sc := defScope s__law_shown) (by decide +kernel)) (fun _ _ _ _ _ => (pg_name (i := 2) sc__law_shown.nd rfl (Or.inl rfl) (hf := Or.inr rfl))) (fun _ _ _ _ _ => (pts_one (pt_cmpR op_eq (pe_callB (VK.lenQ (K := K) rfl) (by rfl) z_len PySem.boot_len (pa_cons (pe_dget (hu_of hr) (pe_dget (hu_of hr) (pv 0) pe_str (fun _ _ => rfl)) (pv 2) (fun _ _ => rfl)) pa_nil)) pe_int (nomark _)))) (fun _ _ _ _ _ => (pe_dget (hu_of hr) (pe_dget (hu_of hr) (pv 0) pe_str (fun _ _ => rfl)) (pv 2) (fun _ _ => rfl)))) pa_nil)) pa_nil)))), ?_⟩
  have zl := sizeLine_eq
  refine ⟨_, rfl, b, rfl, ⟨_, hT⟩, fun D1 nD => ?_⟩
  refine lc_tup (K := K) (a := b) (xs := ss.map V.int) (fun i H2 => ∃ ML : List (Addr × List Str), Same H H2 ∧ H2 D1 = some (.lst (refs ML)) ∧ Rows K H2 ML ∧ ML.map (·.2) = ((ss.take i).filter fun s => decide (tg E0 s "tau" = [])).map fun s => srtS (acs E0 s))
    ⟨[], same_upd nD _, upd_same, fun p hp => absurd hp List.not_mem_nil, by simp⟩ (fun i H2 _ ⟨_, z, _⟩ => VB.Same.sqT z hT) ?_ ?_
  · rintro i v H2 hv ⟨ML, s2, hD, hM, eM⟩
    rw [List.getElem?_map] at hv
    obtain ⟨s, hs, rfl⟩ := Option.map_eq_some_iff.mp hv
    have tk : ss.take (i + 1) = ss.take i ++ [s] := by rw [List.take_add_one, hs, Option.toList_some]
    have lM : ML.length ≤ i := by
      have z := congrArg List.length eM
      rw [List.length_map, List.length_map] at z
      rw [z]
      exact Nat.le_trans (List.length_filter_le _ _) (List.length_take_le _ _)
    have lti := (List.getElem?_eq_some_iff.mp hs).1
    have rs := hss s (List.mem_of_getElem? hs)
    obtain ⟨ds, m1, m2⟩ := (QA.same s2).silent
    obtain ⟨v, m3, g, rfl, hg⟩ := m2.at_ rs.1 rs.2
    obtain ⟨dO, o1, o2⟩ := (QA.same s2).offers
    obtain ⟨v, o3, c, rfl, hc⟩ := o2.at_ rs.1 rs.2
    refine ⟨rfl, ?_⟩
    refine ⟨_, rfl, q, _, rfl, m1, _, rfl, ds, _, rfl, m3, g, _, rfl, .inl (SqL.of hg), rfl, _, rfl, ?_⟩
    refine ite2 (fun e => ?_) (fun e => ?_)
    · have e' : tg E0 s "tau" = [] := by
        have z := of_decide_eq_true e
        injection z with z
        rw [List.length_map] at z
        exact List.eq_nil_of_length_eq_zero (by omega)
      have k5 := Kp.updL hD (.lst (refs ML ++ [.ref c]))
      refine ⟨_, rfl, q, _, rfl, o1, _, rfl, dO, _, rfl, o3, _, hD, by rw [refs_len]; omega, ML ++ [(c, srtS (acs E0 s))], sameIn s2 nD, by rw [upd_same, refs_snoc], fun y hy => ?_, ?_⟩
      · rcases List.mem_append.mp hy with z | z
        · exact (hM.kp k5) y z
        · rw [List.mem_singleton.mp z]
          exact k5.sqT hc
      · rw [List.map_append, eM, tk, List.filter_append, List.filter_cons_of_pos (by simpa using e'), List.filter_nil, List.map_append] <;> rfl
    · have e' : ¬ tg E0 s "tau" = [] := fun z => e (decide_eq_true (by rw [z] <;> rfl))
      refine ⟨ML, s2, hD, hM, ?_⟩
      rw [eM, tk, List.filter_append, List.filter_cons_of_neg (by simpa using e'), List.filter_nil, List.append_nil]
  · rintro H2 ⟨ML, s2, hD, hM, eM⟩
    rw [List.length_map, List.take_length] at eM
    have lM : ML.length ≤ 60 := by
      have z := congrArg List.length eM
      rw [List.length_map, List.length_map] at z
      rw [z]
      exact Nat.le_trans (List.length_filter_le _ _) lens
    have memM : ∀ x, x ∈ ML.map (·.2) ↔ ∃ s ∈ ss, tg E0 s "tau" = [] ∧ x = srtS (acs E0 s) := fun x => by
      rw [eM, List.mem_map]
      constructor
      · rintro ⟨s, hs, rfl⟩
        obtain ⟨h1, h2⟩ := List.mem_filter.mp hs
        exact ⟨s, h1, of_decide_eq_true h2, rfl⟩
      · rintro ⟨s, h1, h2, rfl⟩
        exact ⟨s, List.mem_filter.mpr ⟨h1, decide_eq_true h2⟩, rfl⟩
    refine ⟨D1, ML, rfl, SqL.of hD, hM, by omega, fun p hp => ?_, fun p1 L1 np1 sub1 eL1 => ?_⟩
    · obtain ⟨s, _, _, e⟩ := (memM p.2).1 (List.mem_map_of_mem hp)
      rw [e]
      exact off_ok QA.ok s
    have s3 := same_upd np1 (.lst (refs L1))
    have hR3 : Rows K (upd H2 p1 (.lst (refs L1))) L1 := fun x hx => (hM.kp (Kp.of s3)) x (sub1 x hx)
    have nd1 : (L1.map (·.2)).Nodup := by rw [eL1]; exact onceG_nodup _ _ List.nodup_nil
    have l1 : L1.length ≤ 60 := by
      have z := onceG_len (ML.map (·.2)) []
      rw [← eL1, List.length_map, List.length_map, List.length_nil] at z
      omega
    refine ⟨p1, L1, rfl, SqL.of upd_same, fun b hb => row_dp (hR3 b hb), fun d hd d' hd' => ?_, fun d hd => ?_, fun b hb => by show (rowD b.2).depth ≤ 8; rw [row_depth]; decide, fun p2 np2 => ?_⟩
    · obtain ⟨x, _, rfl⟩ := List.mem_map.mp hd
      obtain ⟨y, _, rfl⟩ := List.mem_map.mp hd'
      exact row_alike _ _
    · obtain ⟨x, _, rfl⟩ := List.mem_map.mp hd
      exact ⟨_, rfl⟩
    have s4 := same_upd np2 (.lst (refs (L1.mergeSort (PySem.W.dataLe false encR))))
    refine k p2 _ (L1.mergeSort (PySem.W.dataLe false encR)) ((s2.trans s3).trans s4) upd_same (fun x hx => (hR3.kp (Kp.of s4)) x (List.mem_mergeSort.mp hx)) (srtR (fun a b => ?_) nd1) (fun x => ?_) (by rw [List.length_mergeSort]; exact l1)
    · show (!PySem.W.dataLt (rowD b.2) (rowD a.2)) = _
      unfold ltR
      exact congrArg (fun b => !b) (Bool.eq_iff_iff.mpr decide_eq_true_iff).symm
    · rw [((List.mergeSort_perm L1 _).map _).mem_iff, eL1, onceG_mem, memM]
      simp
theorem off_acts {n : Int} {E : List Ed} (ok : ∀ e ∈ E, okE n e) {s : Int} {x : Str} (h : x ∈ srtS (acs E s)) : x ∈ acts := by
  obtain ⟨e, he, rfl⟩ := acs_mem (srtS_mem.1 h)
  exact (ok e he).2.2.2.2
def spQDo (K : PySem.W.Frag) : Sp := fun vs H Q _ => ∃ (q b : Addr) (n : Int) (E : List Ed) (ss : List Int), vs = [.ref q, .ref b] ∧ QAt K H q n E ∧ SqT K H b (ss.map V.int) ∧ (∀ x ∈ ss, 0 ≤ x ∧ x < n) ∧ ss.length ≤ 60 ∧
  ∀ (p : Addr) (H' : Hp) (ys : List Str), Same H H' → H' p = some (.lst (ys.map V.str)) → (∀ x ∈ ys, x ∈ acts) → ys.length ≤ 10 → Q (.ref p) H'
theorem c_qdo (D : Df K mg "_law_does" s__law_does) (z_sorted : mg "sorted" = none) : C8.Cal P w K mg base 1 "_law_does" (spQDo K) [] := by
  refine D.cal sc__law_does (fun _ _ _ _ _ _ us hl => match us, hl with | [_, _], _ => rfl) (fun vs H Q E h => ?_) (fun f cdv A outer s0 H vs Q E hr h => ?_)
  · obtain ⟨q, b, n, E0, ss, rfl, _⟩ := h
    rfl
  obtain ⟨q, b, n, E0, ss, rfl, QA, hT, hss, lens, k⟩ := h
  refine ⟨_, (pss_cons (ps_set (i := 2) sc__law_does.nd rfl (Or.inr rfl) (pe_lst pa_nil))
    (pss_cons (ps_for PassesOwn.never rfl (pi_tup (pv 1)) (pg_name (i := 3) sc__law_does.nd rfl (Or.inl rfl))
      (pss_one (ps_set (i := 2) sc__law_does.nd rfl (Or.inr rfl) (pe_op op_cat (pv 2) (pe_lc (own := [("action", 4)]) rfl sc__law_does.nd (pi_tup (pe_dget (hu_of hr) (pe_dget (hu_of hr) (pv 0) pe_str (fun _ _ => rfl)) (pv 3) (fun _ _ => rfl))) (blkOk_by (N := ["q", "states", "found", "state", "action"]) (sc := defScope s__law_does) (by decide +kernel)) (fun _ _ _ _ _ => (pg_name (i := 4) sc__law_does.nd rfl (Or.inl rfl) (hf := Or.inr rfl))) (fun _ _ _ _ _ => (pts_one (pt_cmpR (VK.notInQ (K := K) rfl) (pv 4) (pv 2) rfl))) (fun _ _ _ _ _ => (pv 4)))))))
    (pss_one (ps_ret (pe_callB (VK.sortedS (K := K) rfl hr) (by rfl) z_sorted (by decide +kernel) (pa_cons (pv 2) pa_nil)))))), ?_⟩
  have zl := sizeLine_eq
  have ten : ∀ l : List Str, l.Nodup → (∀ x ∈ l, x ∈ acts) → l.length ≤ 10 := fun l nd h => Nat.le_trans (nd_le l acts nd h) (by decide)
  refine ⟨Nat.zero_le _, fun f0 nf0 => ?_⟩
  have s1 := same_upd nf0 (.lst [])
  refine ⟨_, rfl, b, rfl, ⟨_, VB.Same.sqT s1 hT⟩, for_tup (K := K) (a := b) (xs := ss.map V.int)
    (fun i σ H' => ∃ (fq : Addr) (fl : List Str) (r3 r4 : Option V), σ = [some (.ref q), some (.ref b), some (.ref fq), r3, r4] ∧ Same H H' ∧ H' fq = some (.lst (fl.map V.str)) ∧ fl.Nodup ∧ ∀ x ∈ fl, x ∈ acts)
    ⟨f0, [], none, none, rfl, s1, upd_same, List.nodup_nil, fun x hx => absurd hx List.not_mem_nil⟩ (fun i σ H' _ ⟨_, _, _, _, _, s, _⟩ => VB.Same.sqT s hT) ?_ ?_⟩
  · rintro i v σ H2 hv ⟨fq, fl, r3, r4, rfl, s2, hf2, nd, sub⟩
    rw [List.getElem?_map] at hv
    obtain ⟨s, hs, rfl⟩ := Option.map_eq_some_iff.mp hv
    have rs := hss s (List.mem_of_getElem? hs)
    have lf := ten fl nd sub
    obtain ⟨dO, o1, o2⟩ := (QA.same s2).offers
    obtain ⟨v, o3, c, rfl, hc⟩ := o2.at_ rs.1 rs.2
    have ndo := srtS_ndq (acs E0 s)
    have sbo : ∀ x ∈ srtS (acs E0 s), x ∈ acts := fun x hx => off_acts QA.ok hx
    have lo := ten _ ndo sbo
    generalize srtS (acs E0 s) = os at hc ndo sbo lo
    refine ⟨_, rfl, _, rfl, q, _, rfl, o1, _, rfl, dO, _, rfl, o3, c, rfl, ⟨_, hc⟩, fun D1 nD => ?_⟩
    refine lc_tup (K := K) (a := c) (xs := os.map V.str) (fun j H3 => Same H2 H3 ∧ H3 D1 = some (.lst (((os.take j).filter fun x => decide (¬ x ∈ fl)).map V.str))) ⟨same_upd nD _, upd_same⟩ (fun j H3 _ z => VB.Same.sqT z.1 hc) ?_ ?_
    · rintro j v H3 hv2 ⟨s3, hD⟩
      rw [List.getElem?_map] at hv2
      obtain ⟨y, hy, rfl⟩ := Option.map_eq_some_iff.mp hv2
      have tk : os.take (j + 1) = os.take j ++ [y] := by rw [List.take_add_one, hy, Option.toList_some]
      have ltj := (List.getElem?_eq_some_iff.mp hy).1
      refine ⟨rfl, ?_⟩
      refine ⟨_, rfl, _, rfl, fq, _, rfl, .inl (SqL.of (s3 _ _ hf2)), rfl, all_strs _, _, rfl, ?_⟩
      rw [inV_strs]
      refine iteMem (p := y ∈ fl) (fun h => ?_) (fun h => ?_)
      · refine ⟨s3, ?_⟩
        rw [hD, tk, List.filter_append, List.filter_cons_of_neg (by simpa using h), List.filter_nil, List.append_nil]
      · refine ⟨_, rfl, _, hD, ?_, sameIn s3 nD, ?_⟩
        · rw [List.length_map]
          have z := List.length_filter_le (fun x => decide (¬ x ∈ fl)) (os.take j)
          have z2 := List.length_take_le j os
          omega
        · rw [upd_same, tk, List.filter_append, List.filter_cons_of_pos (by simpa using h), List.filter_nil, List.map_append] <;> rfl
    · rintro H3 ⟨s3, hD⟩
      rw [List.length_map, List.take_length] at hD
      have lfo := List.length_filter_le (fun x => decide (¬ x ∈ fl)) os
      refine ⟨fq, D1, _, _, rfl, rfl, s3 _ _ hf2, hD, by rw [List.length_map, List.length_map]; omega, fun g ng => ?_⟩
      refine ⟨g, fl ++ os.filter fun x => decide (¬ x ∈ fl), _, _, rfl, (s2.trans s3).trans (same_upd ng _), by rw [upd_same, List.map_append], ?_, fun x hx => ?_⟩
      · rw [List.nodup_append]
        refine ⟨nd, List.Nodup.sublist List.filter_sublist ndo, fun a ha b hb e => ?_⟩
        have z := of_decide_eq_true (List.mem_filter.mp hb).2
        exact z (by rw [← e]; exact ha)
      · rcases List.mem_append.mp hx with z | z
        · exact sub x z
        · exact sbo x (List.mem_filter.mp z).1
  · rintro σ H2 ⟨fq, fl, r3, r4, rfl, s2, hf2, nd, sub⟩
    refine ⟨_, rfl, fq, fl, rfl, SqL.of hf2, fun p np => k p _ (fl.mergeSort VS.leS) (s2.trans (same_upd np _)) upd_same (fun x hx => sub x (List.mem_mergeSort.mp hx)) (by rw [List.length_mergeSort]; exact ten fl nd sub)⟩
def spPart (K : PySem.W.Frag) : Sp := fun vs H Q _ => ∃ (a b : Addr) (xs ys : List Str), vs = [.ref a, .ref b] ∧ SqT K H a (xs.map V.str) ∧ SqT K H b (ys.map V.str) ∧ xs.length ≤ 1000 ∧
  ∀ H', Same H H' → Q (.bl (decide (∀ x ∈ xs, x ∈ ys))) H'
theorem c_part (D : Df K mg "_law_part_of" s__law_part_of) (z_all : mg "all" = none) : C8.Cal P w K mg base 1 "_law_part_of" (spPart K) [] := by
  refine D.cal sc__law_part_of (fun _ _ _ _ _ _ us hl => match us, hl with | [_, _], _ => rfl) (fun vs H Q E h => ?_) (fun f cdv A outer s0 H vs Q E hr h => ?_)
  · obtain ⟨a, b, xs, ys, rfl, _⟩ := h
    rfl
  obtain ⟨a, b, xs, ys, rfl, hA, hB, len, k⟩ := h
  refine ⟨_, (pss_one (ps_ret (pe_callB (VK.allL (K := K) rfl rfl) (by rfl) z_all (by decide +kernel) (pa_cons (pe_lc (own := [("action", 2)]) (tt := tYes) rfl sc__law_part_of.nd (pi_tup (pv 0)) (blkOk_by (N := ["small", "large", "action"]) (sc := defScope s__law_part_of) (by decide +kernel)) (fun _ _ _ _ _ => (pg_name (i := 2) sc__law_part_of.nd rfl (Or.inl rfl) (hf := Or.inr rfl))) (fun _ _ _ _ _ => pts_nil) (fun _ _ _ _ _ => (pe_cmpR (VK.inQ (K := K) rfl) (pv 2) (pv 1) rfl))) pa_nil)))), ?_⟩
  have zl := sizeLine_eq
  refine ⟨_, rfl, a, rfl, ⟨_, hA⟩, fun D1 nD => ?_⟩
  refine lc_tup (K := K) (a := a) (xs := xs.map V.str) (fun i H2 => Same H H2 ∧ H2 D1 = some (.lst (((xs.take i).map fun y => decide (y ∈ ys)).map V.bl)))
    ⟨same_upd nD _, upd_same⟩ (fun i H2 _ z => VB.Same.sqT z.1 hA) ?_ ?_
  · rintro i v H2 hv ⟨s2, hD⟩
    rw [List.getElem?_map] at hv
    obtain ⟨y, hy, rfl⟩ := Option.map_eq_some_iff.mp hv
    have tk : xs.take (i + 1) = xs.take i ++ [y] := by rw [List.take_add_one, hy, Option.toList_some]
    have lti := (List.getElem?_eq_some_iff.mp hy).1
    refine ⟨rfl, ?_⟩
    unfold tYes
    refine iteT ?_
    refine ⟨_, rfl, _, rfl, b, _, rfl, .inr (VB.Same.sqT s2 hB), rfl, all_strs _, _, hD, ?_, sameIn s2 nD, ?_⟩
    · rw [List.length_map, List.length_map, List.length_take]; omega
    · rw [upd_same, tk, List.map_append, List.map_append]
      show some (HO.lst (_ ++ [V.bl (inV (.str y) (ys.map V.str))])) = _
      rw [inV_strs] <;> rfl
  · rintro H2 ⟨s2, hD⟩
    rw [List.length_map, List.take_length] at hD
    refine ⟨D1, xs.map fun y => decide (y ∈ ys), rfl, SqL.of hD, ?_⟩
    rw [show (xs.map fun y => decide (y ∈ ys)).all id = decide (∀ x ∈ xs, x ∈ ys) by rw [List.all_map, Bool.eq_iff_iff, List.all_eq_true, decide_eq_true_eq]; exact forall_congr' fun x => forall_congr' fun _ => by simp]
    exact k H2 s2
end
end LW

set_option Elab.async false
set_option linter.all false
set_option maxRecDepth 100000
set_option maxHeartbeats 400000
namespace LW
open PySem PySem.Spec PyProof.Rows L2 LamX NdefX VB VM VP VE VX VQ VZ
/-- whether a behaviour is allowed -/
def AllowP (E : List Ed) (xs : List Str) (k : Nat) (os : List Str) (md : Str) : Prop :=
  (md = ("divergences" : Str) ∧ HangP E xs) ∨ (k = 0 ∧ ∃ c0 cs, IsClo E [0] c0 ∧ Runs E c0 xs cs ∧ cs ≠ []) ∨ (k = 2 ∧ ∃ c0 cs, IsClo E [0] c0 ∧ Runs E c0 xs cs ∧ ∃ s ∈ cs, tg E s ("tau" : Str) = [] ∧ ∀ x ∈ srtS (acs E s), x ∈ os)
def kdN (k : Nat) : Str := match k with
  | 0 => "trace"
  | 1 => "divergence"
  | _ => "failure"
theorem BhS.at_ {K : PySem.W.Frag} {H : Hp} {b t : Addr} {k : Nat} {os : List Str} (h : BhS K H b t k os) : ∃ ys, SqT K H b ys ∧ atI ys 0 = some (.str (kdN k)) ∧ atI ys 1 = some (.ref t) := by
  rcases h with ⟨rfl, h⟩ | ⟨rfl, h⟩ | ⟨rfl, o, h, _⟩
  · exact ⟨_, h, rfl, rfl⟩
  · exact ⟨_, h, rfl, rfl⟩
  · exact ⟨_, h, rfl, rfl⟩
theorem BhS.same {K : PySem.W.Frag} {H H' : Hp} {b t : Addr} {k : Nat} {os : List Str} (h : BhS K H b t k os) (s : Same H H') : BhS K H' b t k os := by
  rcases h with ⟨e, h⟩ | ⟨e, h⟩ | ⟨e, o, h, g⟩
  · exact .inl ⟨e, VB.Same.sqT s h⟩
  · exact .inr (.inl ⟨e, VB.Same.sqT s h⟩)
  · exact .inr (.inr ⟨e, o, VB.Same.sqT s h, VB.Same.sqT s g⟩)
theorem decS {a b : Str} : decide (V.str a = V.str b) = decide (a = b) := decide_eq_decide.mpr ⟨fun z => by injection z, fun z => by rw [z]⟩
section
variable {P : Program} {w : World} {K : PySem.W.Frag} {mg : Str → Option Value} {base : Heap}
def spQHas (K : PySem.W.Frag) : Sp := fun vs H Q _ => ∃ (q b t : Addr) (n : Int) (E : List Ed) (xs os : List Str) (k : Nat), vs = [.ref q, .ref b] ∧ QAt K H q n E ∧ SqT K H t (xs.map V.str) ∧ BhS K H b t k os ∧ OkR os ∧
  ∀ (r : Bool) (H' : Hp) (c0 cs : List Int), Same H H' → IsClo E [0] c0 → Runs E c0 xs cs → (r = true ↔ BehP E cs k os) → Q (.bl r) H'
def spQAll (K : PySem.W.Frag) : Sp := fun vs H Q _ => ∃ (q b t : Addr) (n : Int) (E : List Ed) (xs os : List Str) (k : Nat) (md : Str), vs = [.ref q, .ref b, .str md] ∧ QAt K H q n E ∧ SqT K H t (xs.map V.str) ∧ BhS K H b t k os ∧ OkR os ∧
  ∀ (r : Bool) (H' : Hp), Same H H' → (r = true ↔ AllowP E xs k os md) → Q (.bl r) H'
def looksB (md kd : Str) : Bool := if md = ("traces" : Str) then decide (kd = ("trace" : Str)) else (decide (md = ("divergences" : Str)) || !decide (kd = ("divergence" : Str)))
def spLooks : Sp := fun vs H Q _ => ∃ (md kd : Str), vs = [.str md, .str kd] ∧ Q (.bl (looksB md kd)) H
end
end LW

set_option Elab.async false
set_option linter.all false
set_option maxRecDepth 100000
set_option maxHeartbeats 400000
namespace LW
open PySem PySem.Spec PyProof.Rows L2 LamX NdefX VB VM VP VJ
abbrev MODS : List Str := ["traces", "failures", "divergences"]
abbrev s_is_model : Stmt := top 8
theorem sc_is_model : FnScope ["word"] ["word"] (defScope s_is_model) := ⟨rfl, rfl, rfl, by decide +kernel, rfl, by decide +kernel, by decide +kernel⟩
section
variable {P : Program} {w : World} {K : PySem.W.Frag} {mg : Str → Option Value} {base : Heap}
theorem c_model {dm : Addr} (D : Df K mg "is_model" s_is_model) (g_KINDS_IN_MODELS : ∃ u, mg "KINDS_IN_MODELS" = some u ∧ RelV (.ref dm) u) (kM : VL.KList K w dm MODS) :
    C8.Cal P w K mg base 1 "is_model" (spTest fun x => decide (x ∈ MODS)) [] := by
  refine D.cal sc_is_model (fun _ _ _ _ _ _ us hl => match us, hl with | [_], _ => rfl) (fun vs H Q E h => ?_) (fun f cdv A outer s H vs Q E hr h => ?_)
  · obtain ⟨x, rfl, _⟩ := h
    rfl
  obtain ⟨x, rfl, hx, q⟩ := h
  refine ⟨_, (pss_one (ps_ret (pe_cmpR (VL.op_inK (K := K) (w := w) rfl rfl) (pv 0) (C8.pe_gc rfl g_KINDS_IN_MODELS) rfl))), ?_⟩
  exact ⟨_, rfl, VL.inK_of kM (q H (Same.refl H))⟩
end
end LW

set_option Elab.async false
set_option linter.all false
set_option maxRecDepth 100000
set_option maxHeartbeats 4000000
namespace VY
open PySem PySem.Spec PyProof.Rows L2 LamX NdefX VB VC
/-! what leaves by an exception, cells locked and opened -/
section
variable {P : Program} {w : World} {H H1 H' : Hp} {h B h' : Heap} {cl : List (Str × Addr)} {fr : List Str} {ws : List (Option V)} {fs : List Addr}
theorem shut_exc (L : Locked H cl fr ws) (ok0 : HOk P w H h) (ub : UB fs (open_ cl H) H' h B h') (nf : ∀ b ∈ fs, H b = none) (ok : HOk P w H' B) : HOk P w (shut cl H H') B ∧ UB fs H (shut cl H H') h B h' := by
  have keepC : ∀ b, In cl b → ∀ o, h.get? b = some o → B.get? b = some o := fun b i o e => by
    refine ub.keep b o e (open_in i) fun z => ?_
    obtain ⟨o', v, q, _⟩ := L.frz i
    rw [nf b z] at q; cases q
  have freeC : ∀ b, In cl b → H' b = none := fun b i => by
    obtain ⟨o, v, q, _⟩ := L.frz i
    exact ub.free b o (ok0 b _ q).1 (open_in i)
  have nin : ∀ {b}, H b = none → ¬ In cl b := fun {b} n i => by obtain ⟨o', v, q, _⟩ := L.frz i; rw [n] at q; cases q
  refine ⟨fun b u e => ?_, fun b o e n hb => ?_, fun b o e hb => ub.slot b o e hb, fun b o e n => ?_, fun b o e hb => ub.there b o e hb, fun b xs e => ?_, fun b o u e => ?_, fun b ps e => ?_⟩
  · by_cases i : In cl b
    · rw [shut_in i] at e
      obtain ⟨o, v, q, _⟩ := L.frz i
      rw [q] at e
      cases e
      exact lockO_ok (keepC b i o (ok0 b _ q).1)
    · rw [shut_out i] at e
      refine (ok b u e).stay (fun _ _ _ z => z) (fun c z => ?_) fun c xs z => ?_
      · rw [shut_out fun j => ?_]; exact z
        rw [freeC c j] at z; cases z
      · rw [shut_out fun j => ?_]; exact z
        rw [freeC c j] at z; cases z
  · exact ub.keep b o e (by rw [open_out (nin n)]; exact n) hb
  · rw [shut_out (nin n)]
    exact ub.free b o e (by rw [open_out (nin n)]; exact n)
  · have i : ¬ In cl b := fun i => by obtain ⟨o', v, q, _⟩ := L.frz i; rw [e] at q; cases q
    rw [shut_out i]
    exact ub.tups b xs (by rw [open_out i]; exact e)
  · by_cases i : In cl b
    · rw [shut_in i]; exact e
    · rw [shut_out i]; exact ub.frzs b o u (by rw [open_out i]; exact e)
  · have i : ¬ In cl b := fun i => by obtain ⟨o', v, q, _⟩ := L.frz i; rw [e] at q; cases q
    rw [shut_out i]
    exact ub.tbls b ps (by rw [open_out i]; exact e)
theorem open_exc {H2 : Hp} (lk : Lock cl fr ws H1 H2) (ok2 : HOk P w H2 h) (ub : UB fs H2 H' h B h') (nf : ∀ b ∈ fs, ¬ In cl b) (hok : HOk P w H' B) : HOk P w (open_ cl H') B ∧ UB fs H1 (open_ cl H') h B h' := by
  have lockH : ∀ b, In cl b → ∃ o, H2 b = some (lockO b o) ∧ H' b = some (lockO b o) := fun b i => by
    obtain ⟨o', v', z, _⟩ := lk.lk.frz i
    exact ⟨o', z, ub.frzs b o' _ z⟩
  refine ⟨fun b u eo => ?_, fun b o eo n hb => ?_, fun b o eo hb => ub.slot b o eo hb, fun b o eo n => ?_, fun b o eo hb => ub.there b o eo hb, fun b xs z => ?_, fun b o u z => ?_, fun b ps z => ?_⟩
  · by_cases i : In cl b
    · rw [open_in i] at eo; cases eo
    · rw [open_out i] at eo
      refine (hok b u eo).stay (fun _ _ _ z => z) (fun c z => ?_) fun c xs z => ?_
      · rw [open_out fun j => ?_]; exact z
        obtain ⟨o', _, w⟩ := lockH c j
        rw [w] at z; cases z
      · rw [open_out fun j => ?_]; exact z
        obtain ⟨o', _, w⟩ := lockH c j
        rw [w] at z; cases z
  · by_cases i : In cl b
    · obtain ⟨o', z1, z2⟩ := lockH b i
      have g1 := (ok2 b _ z1).1
      rw [eo] at g1
      rw [Option.some.inj g1]
      exact (hok b _ z2).1
    · exact ub.keep b o eo (by rw [lk.out b i]; exact n) hb
  · by_cases i : In cl b
    · exact open_in i
    · rw [open_out i]; exact ub.free b o eo (by rw [lk.out b i]; exact n)
  · have i : ¬ In cl b := fun i => by rw [lk.free b i] at z; cases z
    rw [open_out i]; exact ub.tups b xs (by rw [lk.out b i]; exact z)
  · have i : ¬ In cl b := fun i => by rw [lk.free b i] at z; cases z
    rw [open_out i]; exact ub.frzs b o u (by rw [lk.out b i]; exact z)
  · have i : ¬ In cl b := fun i => by rw [lk.free b i] at z; cases z
    rw [open_out i]; exact ub.tbls b ps (by rw [lk.out b i]; exact z)
end
/-! a value that may be called and may raise -/
structure VCallX (P : Program) (w : World) (K : PySem.W.Frag) (mg : Str → Option Value) (base : Heap) (k : Nat) (f : Addr) (φ : Hp → Prop) (sp : Sp) : Prop where
  fn : ∀ (h : Heap) (H : Hp), HOk P w H h → K.In h → φ H → PySem.W.FnAt f h
  run : ∀ (A : Around) (outer : List Env) (s : Shared) (H : Hp) (us : List Value) (vs : List V) (Q : VK) (E : XK), Room k A →
    Env0 P w K mg base A outer s H → φ H → Vals vs us → sp vs H Q E →
    codeAny (model P w) A (.call (.ref f) ⟨us, []⟩) (CR (L2.CX P w) outer P w H s Q E) s
section
variable {P : Program} {w : World} {K : PySem.W.Frag} {mg : Str → Option Value} {base : Heap} {N ps fr : List Str} {F : NF} {b : Expr} {f : Addr} {k : Nat} {sp : Sp} {ws : List (Option V)}
/-- what does not raise -/
theorem VCallX.of {φ : Hp → Prop} (c : VA.VCall P w K mg base k f φ sp) : VCallX P w K mg base k f φ sp :=
  ⟨c.fn, fun A outer s H us vs Q E hr e0 hf r q => codeAny_mono (c.run A outer s H us vs Q E hr e0 hf r q) fun r s' z => by
    cases r with
    | error e => exact z.elim
    | ok fl => cases fl <;> exact z⟩
theorem lam_lockedX (S : NScope N ps fr F.scope)
    (hb : ∀ (pm ctv : Value) (us : List Value), us.length = ps.length → bindArgs (PySem.W.kla_fn F.name F.qual F.params b F.scope F.cl pm (.ref F.c) ctv) ⟨us, []⟩ = pure (ps.zip us))
    (len : ∀ vs H Q E, sp vs H Q E → vs.length = ps.length)
    (hbody : ∀ (A : Around) (outer : List Env) (s : Shared) (H : Hp) (vs : List V) (Q : VK) (E : XK), Room k (A.deeper (envF F f s.heap.objs.size)) → lamLk f F b fr ws H → sp vs H Q E →
      ∃ t, PE (ncx (L2.CX P w) P w K mg base N F f A outer s (open_ F.cl H) fun cls d H' => (∀ b, In F.cl b → H' b = none) → E cls d (shut F.cl H H')) b t ∧ t (startF N vs ws) (open_ F.cl H) fun v H' => (∀ b, In F.cl b → H' b = none) → Q v (shut F.cl H H')) :
    VCallX P w K mg base (k + 1) f (lamLk f F b fr ws) sp := by
  refine ⟨fun h H hok _ hf => ?_, fun A outer s H us vs Q E hr e0 hf r hsp => ?_⟩
  · obtain ⟨od, sl, pm, ctv, z⟩ := VA.lamO_at hok hf.1
    exact ⟨_, od, _, sl, z⟩
  · have hl := len _ _ _ _ hsp
    obtain ⟨h1, h2, L⟩ := hf
    have lim : s.heap.NoLimit := e0.mod.nolimit.keeps fun b o e => (e0.bs b o e).1
    obtain ⟨od, sl, pm, ctv, ho⟩ := VA.lamO_at e0.hok h1
    have C := open_cells L e0.hok
    have e1 : Env0 P w K mg base A outer s (open_ F.cl H) := ⟨e0.frames, e0.mod, fun b o e => ⟨(e0.bs b o e).1, by
      by_cases i : In F.cl b
      · exact open_in i
      · rw [open_out i]; exact (e0.bs b o e).2⟩, e0.bsz, e0.funs, fun b hb => by
      by_cases i : In F.cl b
      · exact open_in i
      · rw [open_out i]; exact e0.frf b hb, open_ok L e0.hok, e0.bare⟩
    refine PySem.W.kla_callFunE hr.depth ho rfl S.co S.gen rfl (codeO_at e0.hok h2) ?_
    rw [hb pm ctv us (by rw [← r.length]; exact hl)]
    refine wpAny_pure (wpAny_newFunctionEnv S.nocell (fun ⟨n, _⟩ hy => S.par n (List.of_mem_zip hy).1) (fun h₁ hns hsb => ⟨lim.fresh _ hsb, ?_⟩) S.kind)
    show codeAny _ _ (.expr b (envF F f s.heap.objs.size)) _ _
    have kp : ∀ b o, s.heap.get? b = some o → h₁.get? b = some o := fun b o e =>
      hsb.extBut b o (Nat.ne_of_lt (Heap.lt_size e)) (Heap.get?_push_of_some _ e)
    obtain ⟨t, ht, hq⟩ := hbody A outer s H vs Q E (hr.deeper _) ⟨h1, h2, L⟩ hsp
    have J : Inv (ncx (L2.CX P w) P w K mg base N F f A outer s (open_ F.cl H) fun cls d H' => (∀ b, In F.cl b → H' b = none) → E cls d (shut F.cl H H')) [] (startF N vs ws) (open_ F.cl H) { s with heap := h₁, toks := s.toks + (ps.zip us).length } := inv_startN S hr.hd e1 hl r C hns kp
    have conv : ∀ e s', L2.CX P w outer (open_ F.cl H) s (fun cls d H' => (∀ b, In F.cl b → H' b = none) → E cls d (shut F.cl H H')) e s' → L2.CX P w outer H s E e s' := fun e s' z => by
      obtain ⟨a, B, H', cls, d, rfl, fl, hok, ub, na, os, ag, hE⟩ := z
      obtain ⟨ok2, ub2⟩ := shut_exc L e0.hok ub e0.frf hok
      have freeC : ∀ b, In F.cl b → H' b = none := fun b i => by
        obtain ⟨o, v, q, _⟩ := L.frz i
        exact ub.free b o (e0.hok b _ q).1 (open_in i)
      refine ⟨a, B, _, cls, d, rfl, fl, ok2, ub2, ?_, os, ag, hE freeC⟩
      by_cases i : In F.cl a
      · obtain ⟨o, v, q, _⟩ := L.frz i
        have z1 : B.get? a = some o := by
          refine ub.keep a o (e0.hok a _ q).1 (open_in i) fun z => ?_
          rw [e0.frf a z] at q; cases q
        have z2 : B.get? a = none := fl.2.1
        rw [z1] at z2; cases z2
      · rw [shut_out i]; exact na
    refine PySem.W.kla_codeExpr (wpAny_mono (ht.run [] _ (startF N vs ws) (open_ F.cl H) _ J hq) (fun v s' z => ?_) fun e s' z => wpAny_mono z (fun _ s2 c => conv e s2 c) fun e' s2 c => conv e' s2 c)
    obtain ⟨w', H', J', rv, q⟩ := z
    obtain ⟨ok2, un2⟩ := shut_ok L e0.hok J'.base e0.frf J'.hok
    have un : Un _ [] (open_ F.cl H) H' s.heap s'.heap := J'.base
    have freeC : ∀ b, In F.cl b → H' b = none := fun b i => by
      obtain ⟨o, v, q, _⟩ := L.frz i
      exact un.free b o (e0.hok b _ q).1 (open_in i) (by simp)
    exact ⟨w', shut F.cl H H', J'.os, J'.bare, un2, ok2, rv, q freeC⟩
end
section
variable {X : Cx} {k j i : Nat} {x : Str} {sp : Sp} {W : WX} {p pos : Pos} {e : Expr} {es : List Expr} {t : TA} {cl : List (Str × Addr)} {fr : List Str} {js : List Nat}
/-- x(..), x a name that holds a function value; it may raise -/
def tCallValX (P : Program) (w : World) (K : PySem.W.Frag) (mg : Str → Option Value) (base : Heap) (k i : Nat) (W : WX) (t : TA) : TE := fun σ H Q =>
  ∃ (f : Addr) (φ : Hp → Prop) (sp : Sp), σ[i]? = some (some (.ref f)) ∧ VCallX P w K mg base k f φ sp ∧ φ H ∧ t σ H fun vs H1 => φ H1 ∧ sp vs H1 Q (WE W σ)
theorem pe_callValX (hr : Room j X.A) (hk : k ≤ j) (hN : X.N[i]? = some x) (hv : Vis X.env.scope x) (tk : L2.Takes X W) (ha : PA X (e :: es) t)
    (hdb : (x == ("__debug__" : Str)) = false := by decide) (hcd : (x == ("__classdict__" : Str)) = false := by decide)
    (he : starEach (e :: es) X.env = (false, eval e X.env) :: starEach es X.env := by rfl) (hpl : (backTo pos (starEach es X.env)).any (·.1) = false := by rfl) :
    PE X (.Call (.Name x p) (e :: es) [] pos) (tCallValX X.prog X.w X.K X.mg X.base k i W t) := by
  refine ⟨fun pins s σ H Q I h => ?_⟩
  obtain ⟨f, φ, sp, hs, c, hf, ht⟩ := h
  refine wpAny_Call_Name_kw (thn ((pe_var (pos := p) hN hv hdb hcd).run pins s σ H (fun v H1 => v = .ref f ∧ H1 = H) I ⟨.ref f, hs, rfl, rfl⟩) fun u s1 ⟨v, H1, I1, r1, q1⟩ => ?_)
  obtain ⟨ev, eH⟩ := q1
  subst ev
  subst eH
  obtain rfl : u = Value.ref f := r1
  refine PySem.W.callWith_F (first := []) (c.fn _ _ I1.hok I1.kIn hf) (thn (ha.run pos pins s1 σ _ _ I1 ht) fun us s2 ⟨vs, H2, I2, r, h2, q⟩ => ⟨c.fn _ _ I2.hok I2.kIn h2, ?_⟩) he hpl
  show wpAny _ _ (call (.ref f) us) _ _ _
  refine wpAny_call (codeAny_mono (c.run X.A X.stack s2 H2 us vs Q (WE W σ) (hr.mono hk) I2.env0 h2 r q) fun r s' hq => ?_)
  cases r with
  | error e => exact passAt tk σ pins _ _ e s' I2 hq
  | ok fl =>
    cases fl with
    | ret u => exact I2.after hq
    | next => exact hq.elim
    | brk => exact hq.elim
    | cont => exact hq.elim
/-- g(..), cells locked while it runs; it may raise -/
def tCallLkX (cl : List (Str × Addr)) (fr : List Str) (js : List Nat) (sp : Sp) (W : WX) (t : TA) : TE := fun σ H Q => t σ H fun vs H1 => ∀ H2, Lock cl fr (js.map (slotAt σ)) H1 H2 → sp vs H2 (fun v H' => Q v (open_ cl H')) fun cls d H' => W cls d σ (open_ cl H')
theorem pe_cLkX (c : VE.CalX X.prog X.w X.K X.mg X.base k x sp) (hr : Room j X.A) (hk : k ≤ j) (hg : Gl X x) (cpo : X.Ok → Caps X cl fr js) (hfn : ∀ y, X.fn y = true) (tk : L2.Takes X W) (ha : PA X (e :: es) t)
    (hdb : (x == ("__debug__" : Str)) = false := by decide) (he : starEach (e :: es) X.env = (false, eval e X.env) :: starEach es X.env := by rfl) (hpl : (backTo pos (starEach es X.env)).any (·.1) = false := by rfl) :
    PE X (.Call (.Name x p) (e :: es) [] pos) (tCallLkX cl fr js sp W t) := by
  obtain ⟨f, fd, ps, F, hm, kp, bnd⟩ := c.ex
  refine ⟨fun pins s σ H Q I h => ?_⟩
  have cp := cpo I.ok
  refine wpAny_Call_Name_kw (ld_glob I hg hm ?_ hdb)
  refine PySem.W.callWith_K (h₀ := X.base) I.ok.mod.kin kp (thn (ha.run pos pins s σ H _ I h) fun us s1 ⟨vs, H1, I1, r, q⟩ => ⟨I1.kIn, ?_⟩) he hpl
  obtain ⟨H2, lk, ok2⟩ := lock_of I1 cp
  have q2 := q H2 lk
  have C := cells_of I1 cp
  have young : ∀ b, In cl b → X.s_0.heap.objs.size ≤ b := fun b ⟨y, ey⟩ => I1.ok.cab y b (hfn y) (cp.sub y b ey)
  have noBase : ∀ b, In cl b → X.base.get? b = none := fun b i => Heap.get?_none_of_le (Nat.le_trans I1.ok.bsz (young b i))
  have noFrame : ∀ b ∈ frs X.stack, ¬ In cl b := fun b hb i => by
    rcases List.mem_cons.mp (I1.stkSub b hb) with z | z
    · obtain ⟨y, ey⟩ := i
      obtain ⟨_, v, o, ho, hdd⟩ := C.all y b ey
      obtain ⟨m, ⟨o', es', ep', ho', hdd', _⟩, _⟩ := I1.loc
      rw [← z, ho] at ho'
      rw [← Option.some.inj ho', hdd] at hdd'
      cases hdd'
    · obtain ⟨_, o, ho, _⟩ := I1.ok.funs.mem z
      exact absurd (Heap.lt_size ho) (Nat.not_lt.mpr (young b i))
  have e0 := I1.env0
  have e2 : Env0 X.prog X.w X.K X.mg X.base X.A X.stack s1 H2 := ⟨e0.frames, e0.mod, fun b o eb => ⟨(e0.bs b o eb).1, by
    rw [lk.out b fun i => by rw [noBase b i] at eb; cases eb]
    exact (e0.bs b o eb).2⟩, e0.bsz, e0.funs, fun b hb => by rw [lk.out b (noFrame b hb)]; exact e0.frf b hb, ok2, e0.bare⟩
  have hl := F.len _ _ _ _ q2
  have hb2 := bnd s1 us I1.kIn (by rw [List.append_nil, ← r.length]; exact hl)
  rw [List.append_nil] at hb2
  show wpAny _ _ (call (.ref f) us) _ _ _
  refine wpAny_call (codeAny_mono (F.run X.A X.stack s1 H2 ⟨us, []⟩ us vs _ (fun cls d H' => W cls d σ (open_ cl H')) (hr.mono hk) e2 hb2 r q2) fun res s' hq => ?_)
  cases res with
  | error e =>
    obtain ⟨a, B, H', cls, d, rfl, fl, hok, ub, na, os, ag, hE⟩ := hq
    obtain ⟨ok3, ub3⟩ := open_exc lk ok2 ub noFrame hok
    refine passAt tk σ pins H1 s1 _ s' I1 ⟨a, B, open_ cl H', cls, d, rfl, fl, ok3, ub3, ?_, os, ag, hE⟩
    by_cases i : In cl a
    · exact open_in i
    · rw [open_out i]; exact na
  | ok fl =>
    cases fl with
    | next => exact hq.elim
    | brk => exact hq.elim
    | cont => exact hq.elim
    | ret u =>
      obtain ⟨v, H', os, bare, un, hok, rv, qv⟩ := hq
      have hold : ∀ b, In cl b → ∀ o, s1.heap.get? b = some o → s'.heap.get? b = some o := fun b i o eo => by
        obtain ⟨o', v', z, _⟩ := lk.lk.frz i
        have g1 := (ok2 b _ z).1
        rw [eo] at g1
        rw [Option.some.inj g1]
        exact (hok b _ (un.frzs b o' _ z)).1
      have lockH : ∀ b, In cl b → ∃ o, H' b = some (lockO b o) := fun b i => by
        obtain ⟨o', v', z, _⟩ := lk.lk.frz i
        exact ⟨o', un.frzs b o' _ z⟩
      refine I1.after ⟨v, open_ cl H', os, bare, ⟨fun b o eo n hb hx => ?_, fun b o eo n hb hx => ?_, fun b o eo n hx => ?_, fun b o eo hx => un.there b o eo hx, fun b xs z => ?_, fun b o u z => ?_, fun b ps z => ?_⟩, fun b u eo => ?_, rv, qv⟩
      · by_cases i : In cl b
        · exact hold b i o eo
        · exact un.keep b o eo (by rw [lk.out b i]; exact n) hb hx
      · exact un.slot b o eo (by rw [lk.out b (noFrame b hb)]; exact n) hb hx
      · by_cases i : In cl b
        · exact open_in i
        · rw [open_out i]; exact un.free b o eo (by rw [lk.out b i]; exact n) hx
      · have i : ¬ In cl b := fun i => by rw [lk.free b i] at z; cases z
        rw [open_out i]; exact un.tups b xs (by rw [lk.out b i]; exact z)
      · have i : ¬ In cl b := fun i => by rw [lk.free b i] at z; cases z
        rw [open_out i]; exact un.frzs b o u (by rw [lk.out b i]; exact z)
      · have i : ¬ In cl b := fun i => by rw [lk.free b i] at z; cases z
        rw [open_out i]; exact un.tbls b ps (by rw [lk.out b i]; exact z)
      · by_cases i : In cl b
        · rw [open_in i] at eo; cases eo
        · rw [open_out i] at eo
          refine (hok b u eo).stay (fun _ _ _ z => z) (fun c z => ?_) fun c xs z => ?_
          · rw [open_out fun j => ?_]; exact z
            obtain ⟨o', w⟩ := lockH c j
            rw [w] at z; cases z
          · rw [open_out fun j => ?_]; exact z
            obtain ⟨o', w⟩ := lockH c j
            rw [w] at z; cases z
end
/-! own exceptions with one field: class X(Base): def __init__(self, f): Base.__init__(self, ..); self.f = f -/
/-- the base class as a name of the text -/
structure BaseX (K : PySem.W.Frag) (mg : Str → Option Value) (x : Str) (C : Addr) : Prop where
  at_ : mg x = some (.ref C)
  rd : PySem.W.readsIn K C (.type "type") = true
  ga : PySem.W.specialIn K (.ref C) "__getattribute__" = some (some (.builtin "type.__getattribute__"))
  ini : PySem.W.findCls K (.ref C) (.type "type") "__init__" = some (.val (.builtin "ValueError.__init__"))
section
variable {X : Cx} {x : Str} {C : Addr} {e : Expr} {es : List Expr} {ta : TA} {p1 p2 pos : Pos} {pl : Sem Bool}
theorem pe_baseinit (b : BaseX X.K X.mg x C) (hg : Gl X x) (ha : PA X (e :: es) ta)
    (hc : eval (.Call (.Attribute (.Name x p1) "__init__" p2) (e :: es) [] pos) X.env = (do
      let ov ← eval (.Name x p1) X.env
      standAt p2.atName
      let (f, first) ← holding [ov] (getMethod ov "__init__" pl)
      callWith pos f first (backTo pos (starEach (e :: es) X.env)) (backToKw pos (keywordEach [] X.env))) := by rfl)
    (hdb : (x == ("__debug__" : Str)) = false := by decide)
    (he : starEach (e :: es) X.env = (false, eval e X.env) :: starEach es X.env := by rfl) (hpl : (backTo pos (starEach es X.env)).any (·.1) = false := by rfl) :
    PE X (.Call (.Attribute (.Name x p1) "__init__" p2) (e :: es) [] pos) (tVeI X.K ta) := by
  refine ⟨fun pins s σ H Q I h => ?_⟩
  refine PySem.W.methodCall_KW (ld_glob I hg b.at_ ?_ hdb) hc
  refine PySem.W.method_cls (I.tok _).kIn b.ga (PySem.W.cls_value (I.tok _).kIn b.rd b.ini (by rfl) ?_)
  show wpAny _ _ (callWith pos (Value.builtin "ValueError.__init__") [] (backTo pos (starEach (e :: es) X.env)) []) _ _ _
  refine PyProof.Rows.callWith_method1 (thn (ha.run pos pins _ σ H _ (I.tok _) h) fun us s1 ⟨vs, H1, I1, r1, q1⟩ => ?_) he hpl
  obtain ⟨a, C', ws, ev, hl, T, ea, q⟩ := q1
  subst ev
  cases r1 with
  | @cons _ u0 _ ur ra rw' =>
    obtain rfl : u0 = Value.ref a := ra
    have hlen : ur.length ≤ sizeLine := by
      rw [← Paired.length rw', sizeLine_eq]
      omega
    exact oinit_ok T I1 ea hlen fun s' J => ⟨.non, H1, J, rfl, q⟩
end
/-- what such a field may be: a text or a number -/
def OkF (v : V) : Prop := (∃ y : Str, v = .str y ∧ y.length ≤ 100000) ∨ ∃ i : Int, v = .int i ∧ i.natAbs < 2 ^ 64
/-- the promise of such an __init__ -/
def spXini (K : PySem.W.Frag) (C : Addr) (f : Str) : Sp := fun vs H Q _ => ∃ (a : Addr) (v : V), vs = [.ref a, v] ∧ OkF v ∧ H a = some (exo a C none) ∧ ∀ d, H d = none → d ≠ a → Q .non (upd (upd H d (exd d [(f, v)])) a (exo a C (some d)))
/-- an own class with an __init__ of its own, under its name -/
structure OwnI (K : PySem.W.Frag) (mg : Str → Option Value) (x : Str) (C : Addr) : Prop where
  at_ : mg x = some (.ref C)
  te : PySem.W.exmOne K (.ref C) (.ref C) = some true
/-- the class under its name -/
structure OwnF (P : Program) (w : World) (K : PySem.W.Frag) (mg : Str → Option Value) (base : Heap) (x : Str) (C : Addr) (f : Str) : Prop where
  own : OwnI K mg x C
  o : OexC K C
  xf : XfC K C
  no : PySem.W.findIn K (.ref C) f = some none
  ini : ∃ (fI : Addr) (fd : FuncData) (ps : List Str), PySem.W.findIn K (.ref C) "__init__" = some (some (.ref fI)) ∧ PySem.W.typeIn K (.ref fI) = some (.type "function") ∧ FnOk P w K mg base CX0 1 fI fd ps (spXini K C f) ∧ Binds K fd ps []
def tRaiseF (C : Addr) (f : Str) (W : WX) (ta : TA) : TS := fun _ σ H => ta σ H fun vs H1 => ∃ v, vs = [v] ∧ OkF v ∧ ∀ d, H1 d = none → W (.ref C) (some d) σ (upd H1 d (.xd [(f, v)]))
theorem ps_raiseF {X : Cx} {j : Nat} {W : WX} {x f : Str} {C : Addr} {e : Expr} {ta : TA} {p pos pos2 : Pos} (c : OwnF X.prog X.w X.K X.mg X.base x C f) (hc : X.calm = true) (tk : L2.Takes X W) (hr : Room j X.A) (hk : 2 ≤ j) (hg : Gl X x) (ha : PA X [e] ta)
    (hdb : (x == ("__debug__" : Str)) = false := by decide) (he : starEach [e] X.env = (false, eval e X.env) :: starEach [] X.env := by rfl) (hpl : (backTo pos (starEach [] X.env)).any (·.1) = false := by rfl) :
    PS X (.Raise (some (.Call (.Name x p) [e] [] pos)) none pos2) (tRaiseF C f W ta) := by
  obtain ⟨fI, fd, ps, i1, i2, F1, b⟩ := c.ini
  have ha' : PA X [e] (fun σ H Q => ∃ Q0 : List V → Hp → Prop, ta σ H Q0 ∧ ∀ vs H1, Q0 vs H1 → Q vs H1) := ⟨fun pos pins s σ H Q I ⟨Q0, h, k⟩ => thn (ha.run pos pins s σ H Q0 I h) fun us s1 ⟨vs, H1, I1, r, q⟩ => ⟨vs, H1, I1, r, k _ _ q⟩⟩
  have z := ps_raise (pos := pos2) hc tk (pmk_oex (p := p) (pos := pos) c.o i1 i2 F1 (hr.mono hk) b .nil pass0 hg c.own.at_ ha' hdb he hpl)
  refine ⟨fun pins s σ H D I h => z.run pins s σ H D I ⟨_, h, fun vs H1 q => ?_⟩⟩
  obtain ⟨v, rfl, hv, q⟩ := q
  refine ⟨by show 1 ≤ 1000; decide, fun a na => ⟨a, v, rfl, hv, upd_same, fun d nd nda => ⟨rfl, d, [(f, v)], upd_same, by rw [upd_ne nda, upd_same], ?_, ?_⟩⟩⟩
  · rw [upd_ne nda] at nd
    exact nd
  · have nd' : H1 d = none := by rw [upd_ne nda] at nd; exact nd
    have e2 : upd (del (upd (upd (upd H1 a (exo a C none)) d (exd d [(f, v)])) a (exo a C (some d))) a) d (.xd [(f, v)]) = upd H1 d (.xd [(f, v)]) := by
      funext b
      by_cases hb : b = d
      · subst hb
        rw [upd_same, upd_same]
      · rw [upd_ne hb, upd_ne hb]
        by_cases h2 : b = a
        · subst h2
          rw [del_same, na]
        · rw [del_ne h2, upd_ne h2, upd_ne hb, upd_ne h2]
    rw [e2]
    exact q d nd'
end VY

set_option Elab.async false
set_option linter.all false
set_option maxRecDepth 100000
set_option maxHeartbeats 4000000
namespace VF
open PySem PySem.Spec PyProof.Rows L2 LamX NdefX VB VM
/-! try with several clauses, some of them with a name -/
def asD (o : Option Nat) (D : Ends) : Ends := match o with
  | none => D
  | some i => ⟨fun t G => D.nx (t.set i none) G, D.rt, fun t G => D.bk (t.set i none) G, fun t G => D.ct (t.set i none) G⟩
def asS (o : Option Nat) (σ : L2.St) (a : Addr) : L2.St := match o with
  | none => σ
  | some i => σ.set i (some (.ref a))
abbrev Cl := Value × Option Nat × (Addr → Value → Option Addr → TS)
/-- what the clauses ask of an exception, one after the other -/
def wMix (K : PySem.W.Frag) (Wout : WX) (D : Ends) : List Cl → WX
  | [] => Wout
  | (c, o, ts) :: r => fun cls d σ H => ∃ b, PySem.W.exmOne K cls c = some b ∧ (b = true → ∀ a, H a = none → ts a cls d (asD o D) (asS o σ a) H) ∧ (b = false → wMix K Wout D r cls d σ H)
inductive ClsOk (X : Cx) : List ExceptHandler → List Cl → Prop
  | nil : ClsOk X [] []
  | cons {x : Str} {nm : Option Str} {c : Value} {o : Option Nat} {ts : Addr → Value → Option Addr → TS} {b0 : Stmt} {bs : List Stmt} {np q : Pos} {hs : List ExceptHandler} {l : List Cl} (hc : Names X x c)
      (hn : (nm = none ∧ o = none) ∨ ∃ n i, nm = some n ∧ o = some i ∧ X.N.Nodup ∧ X.N[i]? = some n ∧ X.env.kindOf n = some .local)
      (hb : ∀ (a : Addr) (ob : Obj) (cls : Value) (d : Option Addr) (pn : List (Addr × Obj)), L2.Zc cls d ob → (∃ fs, ob.data = .fields fs) → PSs (X.suite a ((a, ob) :: pn)) (b0 :: bs) (ts a cls d)) (r : ClsOk X hs l) :
      ClsOk X (.ExceptHandler (some (.Name x np)) nm (b0 :: bs) q :: hs) ((c, o, ts) :: l)
theorem ps_mix {X : Cx} {K : PySem.W.Frag} (hK : X.K = K) {body : List Stmt} {h0 : ExceptHandler} {hds : List ExceptHandler} {l : List Cl} {pos : Pos} {tb : WX → TS} {Wout : WX} (hst : X.stack = X.env :: X.outer) (hf : X.env.frame = some X.env.locals) (tk : L2.Takes X Wout)
    (hb : ∀ (W : WX) (pn : List (Addr × Obj)) (xe : Value → Shared → Prop), L2.Takes (X.tr pn xe) W → PassesOwn (model X.prog X.w) X.A X.env xe → PSs (X.tr pn xe) body (tb W))
    (hh : ClsOk X (h0 :: hds) l) : PS X (.Try body (h0 :: hds) [] [] pos) (fun D σ H => tb (wMix K Wout D l) D σ H) := by
  subst hK
  refine ⟨fun pins s σ H D I h => ?_⟩
  have ok := I.ok
  have fr : X.A.frames = some (X.env :: X.outer) := by rw [ok.frames, hst]
  refine wpAny_Try_except (wpAny_mono ((hb (wMix X.K Wout D l) (X.pn ++ pins) (fun e t1 => wpAny (model X.prog X.w) X.A (noteFrame e X.env) (fun _ t2 => wpAny (model X.prog X.w) X.A (setFlight e none) (fun _ t3 =>
    wpAny (model X.prog X.w) X.A (handleBy e X.env (h0 :: hds)) (SP X pins D) X.xe t3) X.xe t2) X.xe t1) (fun u z xx => ?_) PassesOwn.looking).run [] s σ H D (I.toTry _) h) (fun fl t1 q => ?_) (fun e t1 q => q))
  · obtain ⟨a, B, sI, pins2, σ2, H2, cls, d, rfl, J0, nb, up, sky, na, os, ag, w⟩ := xx
    have J := J0.ofTry ok
    rw [hst] at sky
    show wpAny _ X.A (noteFrame (.ref a) X.env) _ _ _
    refine Sky.land Zc.steady fr hf sky fun g1 fl1 up1 => ?_
    have J1 : Inv X pins σ2 H2 { z with heap := g1 } := J.landed nb fl1.1 (up.trans up1) os ag
    obtain ⟨ob1, fs1, e1, z1, d1⟩ := fl1.there
    have away : a ∉ frs (X.env :: X.outer) := fun hm => by
      obtain ⟨_, ob', e', hn'⟩ := fl1.2.2.1.mem hm
      rw [e1] at e'
      cases e'
      exact hn' _ d1
    have aL : a ≠ X.env.locals := fun e => away (List.mem_filterMap.mpr ⟨X.env, List.mem_cons_self, by rw [hf, e]⟩)
    have aF : a ∉ X.fs := fun hm => by
      obtain ⟨y, hy, e⟩ := List.mem_filterMap.mp hm
      exact away (List.mem_filterMap.mpr ⟨y, List.mem_cons_of_mem _ hy, e⟩)
    have S1 := J1.suite e1 d1 na aL aF
    have go : ∀ {hs : List ExceptHandler} {l' : List Cl}, ClsOk X hs l' → wMix X.K Wout D l' cls d σ2 H2 → wpAny (model X.prog X.w) X.A (handleBy (.ref a) X.env hs) (SP X pins D) X.xe { z with heap := g1 } := by
      intro hs l' hk
      induction hk with
      | nil =>
        refine fun w => wpAny_handleBy_nil ?_
        obtain ⟨_, _, _, ob, fs, T1, oT1, ts1, he, hz, hd, k1, hr⟩ := id fl1
        unfold PySem.passOn
        refine wpAny_bind (wpAny_field he hd k1 ?_)
        rw [if_neg (show ¬ ((Value.ref T1 == Value.none) = true) by simp)]
        have last : wpAny (model X.prog X.w) X.A (setFlight (.ref a) X.env.frame) (fun _ t4 => wpAny (model X.prog X.w) X.A (throw (.ref a) : Sem Flow) (SP X pins D) X.xe t4) X.xe { z with heap := g1 } := by
          rw [hf]
          exact HandSPX.setFlight_upZ fl1 fun g2 hg2 up2 => wpAny_throw (tk _ _ ⟨a, B, sI, pins, σ2, H2, cls, d, rfl, J, nb, (up.trans up1).trans up2, .inr (.inr (by rw [hst]; exact hg2)), na, os, ag, w⟩)
        first
          | exact wpAny_bind (wpAny_pure (wpAny_bind last))
          | exact wpAny_bind last
      | @cons x nm c o ts b0 bs np q hs2 l2 hc hn hb2 r ih =>
        rintro ⟨b, hb1, yes, no⟩
        refine wpAny_handleBy_cons (codeAny_handlers_test ?_) (by intro y; cases y)
        have ty : PySem.W.Looks (model X.prog X.w) g1 (typeOf (.ref a)) cls := fun A2 Q2 E2 s2 k2 q2 => wpAny_typeOf_ref (k2 _ _ e1) (by rw [z1.1]; exact q2)
        have LM := PySem.W.exm_one (M := model X.prog X.w) J1.kIn ty hb1
        have test : ∀ {Q2 E2 : Value → Shared → Prop}, Q2 c { z with heap := g1 } → wpAny (model X.prog X.w) (X.A.mark (some (.ref a))) (eval (.Name x np) X.env) Q2 E2 { z with heap := g1 } := by
          intro Q2 E2 q2
          obtain ⟨hg, hdbg, hm | ⟨hm, hv, hnn⟩⟩ := hc
          · exact ld_glob (X := X.suite a ((a, ob1) :: (X.pn ++ pins))) S1 hg hm q2 hdbg
          · exact ld_blt (X := X.suite a ((a, ob1) :: (X.pn ++ pins))) S1 hg hm hv q2 hnn hdbg
        refine test (LM.here ?_)
        cases b with
        | false =>
          show wpAny _ X.A (handleBy (.ref a) X.env hs2) _ _ _
          exact ih (no rfl)
        | true =>
          have y1 := yes rfl a na
          rcases hn with ⟨rfl, rfl⟩ | ⟨n, i, rfl, rfl, nd, hi, loc⟩
          · refine codeAny_handlers_suite (HandSPX.lands_againZ fl1 fun g2 fl2 up2 => ?_)
            have J2 : Inv X pins σ2 H2 { z with heap := g2 } := J.landed nb fl2.1 ((up.trans up1).trans up2) os ag
            obtain ⟨ob2, fs2, e2, z2, d2⟩ := fl2.there
            refine wpAny_mono ((hb2 a ob2 cls d (X.pn ++ pins) z2 ⟨_, d2⟩).run [] _ _ H2 _ (J2.suite e2 d2 na aL aF) y1) (fun fl t6 q6 => ?_) (fun _ _ y => False.elim y)
            cases fl with
            | ret u =>
              obtain ⟨v6, σ6, H6, S6, r6, q6⟩ := q6
              exact ⟨_, _, _, S6.unsuite ok, r6, q6⟩
            | next => obtain ⟨σ6, H6, S6, q6⟩ := q6; exact ⟨_, _, S6.unsuite ok, q6⟩
            | brk => obtain ⟨σ6, H6, S6, q6⟩ := q6; exact ⟨_, _, S6.unsuite ok, q6⟩
            | cont => obtain ⟨σ6, H6, S6, q6⟩ := q6; exact ⟨_, _, S6.unsuite ok, q6⟩
          · refine codeAny_handlers_suite_as (HandSPX.lands_againZ fl1 fun g2 fl2 up2 => ?_)
            have J2 : Inv X pins σ2 H2 { z with heap := g2 } := J.landed nb fl2.1 ((up.trans up1).trans up2) os ag
            obtain ⟨ob2, fs2, e2, z2, d2⟩ := fl2.there
            refine store_ok (X := X.suite a ((a, ob2) :: (X.pn ++ pins))) (v := .ref a) (J2.suite e2 d2 na aL aF) nd hi (.inl loc) rfl (fun t5 S5 => ?_) (.inr loc)
            refine wpAny_mono ((hb2 a ob2 cls d (X.pn ++ pins) z2 ⟨_, d2⟩).run [] t5 _ H2 _ S5 y1) (fun fl t6 q6 => ?_) (fun _ _ y => False.elim y)
            have away2 : ∀ {σ6 : L2.St} {H6 : Hp} {Q : Shared → Prop}, Inv (X.suite a ((a, ob2) :: (X.pn ++ pins))) [] σ6 H6 t6 → (∀ t7, Inv X pins (σ6.set i none) H6 t7 → Q t7) →
              wpAny (model X.prog X.w) X.A (do bindName X.env n .none; unbindBehindTheSuite X.env n q) (fun _ t7 => Q t7) X.xe t6 := fun S6 hq => gone_ok (S6.unsuite ok) nd hi loc hq
            cases fl with
            | ret u =>
              obtain ⟨v6, σ6, H6, S6, r6, q6⟩ := q6
              exact away2 S6 fun t7 J7 => ⟨_, _, _, J7, r6, q6⟩
            | next => obtain ⟨σ6, H6, S6, q6⟩ := q6; exact away2 S6 fun t7 J7 => ⟨_, _, J7, q6⟩
            | brk => obtain ⟨σ6, H6, S6, q6⟩ := q6; exact away2 S6 fun t7 J7 => ⟨_, _, J7, q6⟩
            | cont => obtain ⟨σ6, H6, S6, q6⟩ := q6; exact away2 S6 fun t7 J7 => ⟨_, _, J7, q6⟩
    exact go hh w
  · cases fl with
    | ret u =>
      obtain ⟨v, t, G, J', r, q⟩ := q
      exact ⟨v, t, G, J'.ofTry ok, r, q⟩
    | next => obtain ⟨t, G, J', q⟩ := q; exact wpAny_execs_nil ⟨t, G, J'.ofTry ok, q⟩
    | brk => obtain ⟨t, G, J', q⟩ := q; exact ⟨t, G, J'.ofTry ok, q⟩
    | cont => obtain ⟨t, G, J', q⟩ := q; exact ⟨t, G, J'.ofTry ok, q⟩
/-! calls with keywords -/
structure CalK (P : Program) (w : World) (K : PySem.W.Frag) (mg : Str → Option Value) (base : Heap) (CX : CXT) (k : Nat) (x : Str) (n : Nat) (ks : List Str) (sp : Sp) : Prop where
  ex : ∃ (f : Addr) (fd : FuncData) (ps : List Str), FnOk P w K mg base CX k f fd ps sp ∧ mg x = some (.ref f) ∧ PySem.W.keepIn K (.ref f) = true ∧ KBn K fd ps n ks (fun us ws => us ++ ws) (fun vs zs => vs ++ zs)
def tCallK (n m : Nat) (sp : Sp) (E : L2.St → XK) (t tk : TA) : TE := fun σ H Q => t σ H fun vs H1 => tk σ H1 fun zs H2 => vs.length = n ∧ zs.length = m ∧ sp (vs ++ zs) H2 Q (E σ)
section
variable {X : Cx} {k j n : Nat} {x : Str} {sp : Sp} {W : WX} {p pos : Pos} {e : Expr} {es : List Expr} {ks : List Str} {kws : List Keyword} {t tk : TA}
/-- f(e, .., k=v, ..), f may raise -/
theorem pe_kX (c : CalK X.prog X.w X.K X.mg X.base (L2.CX X.prog X.w) k x n ks sp) (hr : Room j X.A) (hk : k ≤ j) (hg : Gl X x) (tx : L2.Takes X W) (ha : PA X (e :: es) t) (hkw : PK X kws tk)
    (hall : (backToKw pos (keywordEach kws X.env)).all (·.1.isSome) = true := by rfl) (hks : (backToKw pos (keywordEach kws X.env)).filterMap (·.1) = ks := by rfl) (hdb : (x == ("__debug__" : Str)) = false := by decide)
    (he : starEach (e :: es) X.env = (false, eval e X.env) :: starEach es X.env := by rfl) (hpl : ((backTo pos (starEach (e :: es) X.env)).any (·.1) || (backToKw pos (keywordEach kws X.env)).any (·.1.isNone)) = false := by rfl) :
    PE X (.Call (.Name x p) (e :: es) kws pos) (tCallK n ks.length sp (WE W) t tk) := by
  obtain ⟨f, fd, ps, F, hm, kp, b⟩ := c.ex
  refine ⟨fun pins s σ H Q I h => wpAny_Call_Name_kw (ld_glob I hg hm ?_ hdb)⟩
  refine PySem.W.callWith_KW (h₀ := X.base) I.ok.mod.kin kp hall (thn (ha.run pos pins s σ H _ I h) fun us s1 ⟨vs, H1, I1, r, q⟩ => ?_) hpl he
  refine thn (hkw.run pos pins s1 σ H1 _ I1 q) fun ws s2 ⟨zs, H2, I2, rz, l1, l2, q2⟩ => ⟨I2.kIn, ?_⟩
  rw [hks]
  have r2 := b.rel r rz
  refine wpAny_call (codeAny_mono (F.run X.A X.stack s2 H2 ⟨us, ks.zip ws⟩ (us ++ ws) (vs ++ zs) Q (WE W σ) (hr.mono hk) I2.env0 (b.to s2 us ws I2.kIn (r.length.symm.trans l1) (rz.length.symm.trans l2)) r2 q2) fun fr s' hq => ?_)
  cases fr with
  | error er => exact passAt tx σ pins _ _ er s' I2 hq
  | ok fl =>
    cases fl with
    | next => exact hq.elim
    | brk => exact hq.elim
    | cont => exact hq.elim
    | ret u =>
      obtain ⟨v, H', I3, rv, q3⟩ := I2.after hq
      exact ⟨v, H', I3, rv, q3⟩
theorem pe_k0 (c : CalK X.prog X.w X.K X.mg X.base CX0 k x n ks sp) (hr : Room j X.A) (hk : k ≤ j) (hg : Gl X x) (ha : PA X (e :: es) t) (hkw : PK X kws tk)
    (hall : (backToKw pos (keywordEach kws X.env)).all (·.1.isSome) = true := by rfl) (hks : (backToKw pos (keywordEach kws X.env)).filterMap (·.1) = ks := by rfl) (hdb : (x == ("__debug__" : Str)) = false := by decide)
    (he : starEach (e :: es) X.env = (false, eval e X.env) :: starEach es X.env := by rfl) (hpl : ((backTo pos (starEach (e :: es) X.env)).any (·.1) || (backToKw pos (keywordEach kws X.env)).any (·.1.isNone)) = false := by rfl) :
    PE X (.Call (.Name x p) (e :: es) kws pos) (tCallK n ks.length sp (fun _ => C8.E0) t tk) := by
  obtain ⟨f, fd, ps, F, hm, kp, b⟩ := c.ex
  exact L2.pe_callN F (hr.mono hk) hg hm kp b pass0 ha hkw hall hks hdb he hpl
end
theorem calmK {P : Program} {w : World} {K : PySem.W.Frag} {mg : Str → Option Value} {base : Heap} {k n : Nat} {x : Str} {ks : List Str} {sp : Sp} (c : CalK P w K mg base (L2.CX P w) k x n ks sp) : CalK P w K mg base CX0 k x n ks (VX.calm sp) := by
  obtain ⟨f, fd, ps, F, r⟩ := c.ex
  exact ⟨f, fd, ps, VX.fnCalm F, r⟩
theorem calImpK {P : Program} {w : World} {K : PySem.W.Frag} {mg : Str → Option Value} {base : Heap} {k n : Nat} {x : Str} {CX : CXT} {ks : List Str} {sp sp' : Sp} (c : CalK P w K mg base CX k x n ks sp) (h : ∀ vs H Q E, sp' vs H Q E → sp vs H Q E) : CalK P w K mg base CX k x n ks sp' := by
  obtain ⟨f, fd, ps, F, r⟩ := c.ex
  exact ⟨f, fd, ps, F.imp h, r⟩
/-- all keyword-only parameters are written -/
theorem kb_all {K : PySem.W.Frag} {x qual : Str} {params : Arguments} {body : List Stmt} {scope : Scope} {kws : List (Str × V)} {f : Addr} {fd : FuncData} {ps ks : List Str} {n : Nat} (F : FunD K x qual params body scope [] kws f fd)
    (h : ∀ (kV doc pm : Value) (an : Option Addr) (cdv ct : Value) (us ws : List Value), us.length = n → ws.length = ks.length → bindArgs (PySem.W.fnOf x qual params body scope .none kV doc pm an cdv ct) ⟨us, ks.zip ws⟩ = pure (ps.zip (us ++ ws))) :
    KBn K fd ps n ks (fun us ws => us ++ ws) (fun vs zs => vs ++ zs) := by
  obtain ⟨oc, od, dV, kV, doc, pm, an, cdv, ct, osl, rfl, lk, hcd, hD, hK⟩ := F.ex
  rcases hD with ⟨_, rfl⟩ | ⟨e, _⟩
  · exact ⟨fun s us ws _ l1 l2 => .of_eq (h kV doc pm an cdv ct us ws l1 l2), fun r1 r2 => r1.append r2⟩
  · exact absurd rfl e
/-! what the top must show of an own class of exceptions with an __init__ -/
def shB (K : PySem.W.Frag) (C : Addr) : Bool := match K.lookup C with
  | some ⟨.type "type", _, .cls cd, sl⟩ => (match cd.mro, sl.toList with
    | .ref C' :: bm, [_, _, _, _, some (.builtin n), _] => decide (C' = C) && (decide (n = "ValueError.__new__") && (!cd.hasDel && (cd.hasDict && PySem.HandSPX.refsVE bm)))
    | _, _ => false)
  | _ => false
theorem shB_ok {K : PySem.W.Frag} {C : Addr} (q : shB K C = true) : ∃ nm qn N bs bm sn sub ab col dd k0 k1 k2 k3 k5, K.lookup C = some (excClassObj nm qn C N bs bm true sn sub ab col dd k0 k1 k2 k3 k5 "ValueError.__new__") ∧ PySem.HandSPX.refsVE bm = true := by
  unfold shB at q
  split at q
  · rename_i dd cd sl ho
    split at q
    · rename_i C' bm k0 k1 k2 k3 n k5 hm hs
      simp only [Bool.and_eq_true, decide_eq_true_eq, Bool.not_eq_true'] at q
      obtain ⟨e1, e2, hdel, hd, hr⟩ := q
      subst e1 e2
      obtain ⟨nm, bs, mro, ns, qn, hdi, sn, sub, ab, col, del⟩ := cd
      dsimp only at hm hdel hd
      subst hm hdel hd
      have hsl : sl = #[k0, k1, k2, k3, some (.builtin "ValueError.__new__"), k5] := by
        obtain ⟨l⟩ := sl
        simp only at hs
        rw [hs]
      subst hsl
      exact ⟨nm, qn, ns, bs, bm, sn, sub, ab, col, dd, k0, k1, k2, k3, k5, ho, hr⟩
    · cases q
  · cases q
def oexB (K : PySem.W.Frag) (C : Addr) (f : Str) (fI : Addr) : Bool := shB K C && (decide (PySem.W.findIn K (.ref C) "__setattr__" = some (some (.builtin "object.__setattr__"))) && (decide (PySem.W.subIn K (.ref C) (.type "BaseException") = some true) &&
  (decide (PySem.W.typeIn K (.ref C) = some (.type "type")) && (PySem.W.keepIn K (.ref C) && (xfB K C && (decide (PySem.W.findIn K (.ref C) f = some none) && (decide (PySem.W.findIn K (.ref C) "__init__" = some (some (.ref fI))) && decide (PySem.W.typeIn K (.ref fI) = some (.type "function")))))))))
theorem oexB_ok {K : PySem.W.Frag} {C fI : Addr} {f : Str} (h : oexB K C f fI = true) : OexC K C ∧ XfC K C ∧ PySem.W.findIn K (.ref C) f = some none ∧ PySem.W.findIn K (.ref C) "__init__" = some (some (.ref fI)) ∧ PySem.W.typeIn K (.ref fI) = some (.type "function") := by
  simp only [oexB, Bool.and_eq_true, decide_eq_true_eq] at h
  obtain ⟨h1, h2, h3, h4, h5, h6, h7, h8, h9⟩ := h
  exact ⟨⟨shB_ok h1, h2, h3, h4, h5⟩, xfB_ok h6, h7, h8, h9⟩
def baseB (K : PySem.W.Frag) (C : Addr) : Bool := PySem.W.readsIn K C (.type "type") && (decide (PySem.W.specialIn K (.ref C) "__getattribute__" = some (some (.builtin "type.__getattribute__"))) && (match PySem.W.findCls K (.ref C) (.type "type") "__init__" with
    | some (.val (.builtin n)) => decide (n = "ValueError.__init__")
    | _ => false))
theorem baseB_ok {K : PySem.W.Frag} {mg : Str → Option Value} {x : Str} {C : Addr} (hm : mg x = some (.ref C)) (h : baseB K C = true) : VY.BaseX K mg x C := by
  simp only [baseB, Bool.and_eq_true, decide_eq_true_eq] at h
  obtain ⟨h1, h2, h3⟩ := h
  split at h3
  · rename_i n e
    rw [of_decide_eq_true h3] at e
    exact ⟨hm, h1, h2, e⟩
  · cases h3
end VF

set_option Elab.async false
set_option linter.all false
set_option maxRecDepth 100000
set_option maxHeartbeats 400000
namespace LW
open PySem PySem.Spec PyProof.Rows L2 LamX NdefX VB VM VP VJ VE VX VQ VZ VY VF
abbrev s_UnknownModel___init__ : Stmt := inClass (top 5) 0
theorem sc_UnknownModel___init__ : FnScope ["self", "model"] ["self", "model"] (defScope s_UnknownModel___init__) := ⟨rfl, rfl, rfl, by decide +kernel, rfl, by decide +kernel, by decide +kernel⟩
abbrev s_check_model : Stmt := top 9
theorem sc_check_model : FnScope ["model"] ["model"] (defScope s_check_model) := ⟨rfl, rfl, rfl, by decide +kernel, rfl, by decide +kernel, by decide +kernel⟩
section
variable {P : Program} {w : World} {K : PySem.W.Frag} {mg : Str → Option Value} {base : Heap}
theorem c_unknown {CB CL f : Addr} {fd : FuncData} (oe : OexC K CL) (no : PySem.W.findIn K (.ref CL) "model" = some none) (F : FunD K "__init__" "UnknownModel.__init__" (defArgs s_UnknownModel___init__) (defBody s_UnknownModel___init__) (defScope s_UnknownModel___init__) [] [] f fd)
    (bx : VY.BaseX K mg "ParleyError" CB) : FnOk P w K mg base CX0 1 f fd ["self", "model"] (spXini K CL "model") := by
  refine F.ok sc_UnknownModel___init__ (fun vs H Q E h => ?_) (fun cdv A outer s H vs Q E0 hr h => ?_)
  · obtain ⟨a, v, rfl, _⟩ := h
    rfl
  obtain ⟨a, v, rfl, hv, ha, q⟩ := h
  suffices hh : ∃ t0, PSs (cxOf CX0 P w K mg base ["self", "model"] "UnknownModel.__init__" (defScope s_UnknownModel___init__) f cdv A outer s H E0).nox (defBody s_UnknownModel___init__) t0 ∧
      t0 { nx := fun _ H' => Q .non H', rt := Q } (start ["self", "model"] [.ref a, v]) H by
    obtain ⟨t0, a, b⟩ := hh
    exact ⟨t0, a.nox, b⟩
  refine ⟨_, (pss_cons (ps_expr (VY.pe_baseinit bx rfl (pa_cons (pv 0) (pa_cons (pe_joined (.cons (pe_fmt (pv 1)) (.cons pe_str .nil))) pa_nil)))) (pss_one (ps_ost (pv 0) (pv 1)))), ?_⟩
  have zl := sizeLine_eq
  have e1 : (" is not a model" : Str).length = 15 := by decide +kernel
  have e0 : Str.empty.length = 0 := by decide +kernel
  rcases hv with ⟨y, rfl, hy⟩ | ⟨i, rfl, hi⟩
  · refine ⟨_, rfl, _, rfl, .inl ⟨y, rfl, by omega, _, rfl, ?_, _, rfl, ?_, ?_⟩⟩
    · rw [PySem.Str.length_append, e0]
      omega
    · rw [PySem.Str.length_append, PySem.Str.length_append, e0, e1]
      omega
    · exact ⟨a, CL, _, rfl, (by show 1 ≤ 1000; decide), oe, ha, _, rfl, _, rfl, a, CL, rfl, oe, no, .inl ⟨ha, fun dx nd nda => q dx nd nda⟩⟩
  · have h1 : i.natAbs.log2 < 64 := by
      by_cases h : i.natAbs = 0
      · rw [h]; decide
      · exact (Nat.log2_lt h).mpr hi
    have h2 := PySem.int_text_length_le (k := 64) (by decide) h1
    refine ⟨_, rfl, _, rfl, .inr ⟨i, rfl, by omega, _, rfl, ?_, _, rfl, ?_, ?_⟩⟩
    · rw [PySem.Str.length_append, e0, PySem.ofString_length]
      omega
    · rw [PySem.Str.length_append, PySem.Str.length_append, e0, e1, PySem.ofString_length]
      omega
    · exact ⟨a, CL, _, rfl, (by show 1 ≤ 1000; decide), oe, ha, _, rfl, _, rfl, a, CL, rfl, oe, no, .inl ⟨ha, fun dx nd nda => q dx nd nda⟩⟩
def spChk (CU : Addr) : Sp := fun vs H Q E => ∃ (md : Str), vs = [.str md] ∧ md.length ≤ 1000 ∧ (md ∈ MODS → ∀ H', Same H H' → Q .non H') ∧ (md ∉ MODS → ∀ (d : Addr) (H' : Hp), Same H H' → H' d = some (.xd [("model", .str md)]) → E (.ref CU) (some d) H')
theorem c_check {CU : Addr} (D : Df K mg "check_model" s_check_model) (of_UnknownModel : VY.OwnF P w K mg base "UnknownModel" CU "model") (c_is_model : C8.Cal P w K mg base 1 "is_model" (spTest fun x => decide (x ∈ MODS)) []) : VE.CalX P w K mg base 3 "check_model" (spChk CU) := by
  refine VE.calX D sc_check_model (fun _ _ _ _ _ _ us hl => match us, hl with | [_], _ => rfl) (fun vs H Q E h => ?_) (fun f cdv A outer s0 H vs Q E hr h => ?_)
  · obtain ⟨md, rfl, _⟩ := h
    rfl
  obtain ⟨md, rfl, hm, q, qe⟩ := h
  refine ⟨_, (pss_one (ps_if (pt_not (pt_val (C8.pe_c c_is_model hr (by first | decide | omega) rfl (pa_cons (pv 0) pa_nil))))
      (pss_one (VY.ps_raiseF of_UnknownModel rfl (takes_of rfl rfl rfl rfl) hr (by first | decide | omega) (by rfl) (pa_cons (pv 0) pa_nil)))
      pss_nil)), ?_⟩
  refine ⟨_, rfl, md, rfl, hm, fun H1 s1 => ⟨_, rfl, ?_⟩⟩
  by_cases c : md ∈ MODS
  · exact iteFe (by show (!decide (md ∈ MODS)) = false; rw [decide_eq_true c] <;> rfl) (q c H1 s1)
  · exact iteTe (by show (!decide (md ∈ MODS)) = true; rw [decide_eq_false c] <;> rfl) ⟨_, rfl, _, rfl, .inl ⟨md, rfl, by omega⟩, fun d nd => qe c d _ (s1.trans (same_upd nd _)) upd_same⟩
def kinds (md : Str) : List Str := if md = ("traces" : Str) then ["trace"] else if md = ("failures" : Str) then ["trace", "failure"] else ["trace", "divergence", "failure"]
def spLAt : Sp := fun vs H Q _ => ∃ (md kd : Str), vs = [.str md, .str kd] ∧ md ∈ MODS ∧ ∀ H', Same H H' → Q (.bl (decide (kd ∈ kinds md))) H'
def spWith (K : PySem.W.Frag) : Sp := fun vs H Q _ => ∃ (r d : Addr) (xs : List Str) (kvs : List (Key × V)), vs = [.ref r, .ref d] ∧ SqT K H r (xs.map V.str) ∧ H d = some (.dK kvs) ∧
  ∀ (b : Bool) (H' : Hp), Same H H' → (b = true ↔ ∀ x ∈ xs, (valV kvs (.inr x)).isSome = true) → Q (.bl b) H'
def spHasP (K : PySem.W.Frag) : Sp := fun vs H Q _ => ∃ (a o : Addr) (RL : List (Addr × List Str)) (os : List Str), vs = [.ref a, .ref o] ∧ SqL K H a (refs RL) ∧ Rows K H RL ∧ SqT K H o (os.map V.str) ∧ os.length ≤ 1000 ∧
  ∀ (b : Bool) (H' : Hp), Same H H' → (b = true ↔ ∃ r ∈ RL.map (·.2), ∀ x ∈ r, x ∈ os) → Q (.bl b) H'
end
end LW

set_option linter.all false
/-! small things -/
namespace VUt
open PySem PySem.Spec PyProof.Rows L2 LamX NdefX VB VM VP
theorem ite2b {b : Bool} {A B : Prop} (h1 : b = true → A) (h2 : b = false → B) : if b = true then A else B := by
  cases b
  · rw [if_neg (by decide)]; exact h2 rfl
  · rw [if_pos rfl]; exact h1 rfl
theorem ixD {X : Cx} {K : PySem.W.Frag} (h : X.K = K) (hu : X.A.units + 65 < cLine) : MtR X "list.index" (rIndexD K) := by subst h; exact mt_indexD hu
/-- a method of a builtin type within a comprehension: the written part by its name -/
theorem pe_bmK {X : Cx} {K : PySem.W.Frag} {name : Str} {T id : String} {o e : Expr} {es : List Expr} {apos cpos : Pos} {r : V → List V → Hp → VK → Prop} {to : TE} {t : TA} (h : X.K = K) (pa : PlainAttrs T) (slot : Slot T name id) (hty : typeOf (.builtin id) = pure (.type "method_descriptor")) (hm : MtR X id r) (ho : PE X o to) (ha : PA X (e :: es) t)
    (hbase : attributeBase o name X.env (eval o X.env) = eval o X.env := by rfl)
    (hfew : ((backTo cpos (starEach (e :: es) X.env)).all (fun x => !x.1) && (backToKw cpos (keywordEach [] X.env)).all (fun x => x.1.isSome)
      && decide ((e :: es).length + ([] : List Keyword).length + (if ([] : List Keyword).isEmpty then 0 else 1) < 30)) = true := by rfl)
    (hline : (apos.endLine == cpos.line) = true := by rfl) (hs : starEach (e :: es) X.env = (false, eval e X.env) :: starEach es X.env := by rfl) (hplain : (backTo cpos (starEach es X.env)).any (·.1) = false := by rfl) :
    PE X (.Call (.Attribute o name apos) (e :: es) [] cpos) (tBM K T r to t) := by
  subst h
  exact pe_bm pa slot hty hm ho ha hbase hfew hline hs hplain
/-- an attribute within a comprehension -/
theorem pe_fldN {X : Cx} {K : PySem.W.Frag} (h : X.K = K) {e : Expr} {f : Str} {pos : Pos} {ta : TE} (he : PE X e ta) (hb : attributeBase e f X.env (eval e X.env) = eval e X.env) : PE X (.Attribute e f pos) (tFld K ta f) := by subst h; exact pe_fld he hb
end VUt

set_option Elab.async false
set_option linter.all false
set_option maxRecDepth 100000
set_option maxHeartbeats 400000
namespace VNT
open PySem PySem.Spec PyProof.Rows L2
theorem pe_notTK {X : Cx} {K : PySem.W.Frag} (h : X.K = K) {a : Expr} {ta : TE} {pos : Pos} (ha : PE X a ta) : PE X (.UnaryOp .Not a pos) (tNotT K ta) := by subst h; exact pe_notT ha
end VNT

set_option Elab.async false
set_option linter.all false
set_option maxRecDepth 100000
set_option maxHeartbeats 400000
namespace LW
open PySem PySem.Spec PyProof.Rows L2 LamX NdefX VB VM VP VE VX
abbrev s_node_edges : Stmt := top 24
theorem sc_node_edges : FnScope ["node", "first", "firsts", "model", "moves", "offers", "is_hanging", "edges", "action", "target", "state", "row"] ["node", "first", "firsts", "model"] (defScope s_node_edges) := ⟨rfl, rfl, rfl, by decide +kernel, rfl, by decide +kernel, by decide +kernel⟩
abbrev s_picture : Stmt := top 23
theorem sc_picture : FnScope ["form", "model", "firsts", "count", "_", "offers", "edges", "at", "node"] ["form", "model"] (defScope s_picture) := ⟨rfl, rfl, rfl, by decide +kernel, rfl, by decide +kernel, by decide +kernel⟩
section
variable {P : Program} {w : World} {K : PySem.W.Frag} {mg : Str → Option Value} {base : Heap}
/-- a node: its moves, its offers, whether it is lost -/
abbrev ND := List Pr × (List (List Str) × Bool)
structure NodeAt (K : PySem.W.Frag) (H : Hp) (a ma oa : Addr) (M : List (Addr × Pr)) (O : List (Addr × List Str)) (b : Bool) : Prop where
  n : SqT K H a [.ref ma, .ref oa, .bl b]
  m : SqT K H ma (refs M)
  me : Pqs K H M
  o : SqT K H oa (refs O)
  oe : ∀ x ∈ O, SqT K H x.1 (x.2.map V.str)
theorem NodeAt.same {H H' : Hp} {a ma oa : Addr} {M : List (Addr × Pr)} {O : List (Addr × List Str)} {b : Bool} (N : NodeAt K H a ma oa M O b) (s : Same H H') : NodeAt K H' a ma oa M O b :=
  ⟨VB.Same.sqT s N.n, VB.Same.sqT s N.m, N.me.kp (Kp.of s), VB.Same.sqT s N.o, fun x hx => VB.Same.sqT s (N.oe x hx)⟩
/-- the edges that an offer's state has -/
def offE (first : Int) (fs : Int → Int) (M : List Pr) (i : Nat) (r : List Str) : List Ed :=
  (first, ("tau" : Str), first + 1 + (i : Nat)) :: (M.filter fun m => decide (m.1 ∈ r)).map fun m => (first + 1 + (i : Nat), m.1, fs m.2)
def offsE (first : Int) (fs : Int → Int) (M : List Pr) (O : List (List Str)) (k : Nat) : List Ed := (List.range k).flatMap fun i => match O[i]? with
  | some r => offE first fs M i r
  | none => []
theorem offsE_succ {first : Int} {fs : Int → Int} {M : List Pr} {O : List (List Str)} {k : Nat} {r : List Str} (h : O[k]? = some r) : offsE first fs M O (k + 1) = offsE first fs M O k ++ offE first fs M k r := by
  unfold offsE
  rw [List.range_succ, List.flatMap_append, List.flatMap_singleton, h]
/-- the edges that leave the states of a node -/
def nodeE (md : Str) (first : Int) (fs : Int → Int) (x : ND) : List Ed :=
  (x.1.map fun m => (first, m.1, fs m.2)) ++ (if x.2.2 = true ∨ (md ≠ "traces" ∧ x.2.1 = []) then [(first, ("tau" : Str), first)] else []) ++ offsE first fs x.1 x.2.1 x.2.1.length
def fsOf (F : List Int) (t : Int) : Int := F.getD t.toNat 0
theorem fs_at {F : List Int} {t : Int} (h0 : 0 ≤ t) (h1 : t < (F.length : Nat)) : atI (F.map V.int) t = some (.int (fsOf F t)) := by
  have lt : t.toNat < F.length := by omega
  have z := atI_nat (xs := F.map V.int) (j := t.toNat) (v := .int (fsOf F t)) (by
    unfold fsOf
    rw [List.getElem?_map, List.getElem?_eq_getElem lt, List.getD_eq_getElem?_getD, List.getElem?_eq_getElem lt] <;> rfl)
  rwa [Int.toNat_of_nonneg h0] at z
theorem testJF {c : TT} {σ : L2.St} {H : Hp} {Q : Bool → Hp → Prop} (F : Bool → Hp → Prop) (h : ∀ Q' : Bool → Hp → Prop, (∀ b H', F b H' → Q' b H') → c σ H Q') (r : ∀ b H', F b H' → Q b H') : c σ H Q := h Q r
def spNE (K : PySem.W.Frag) : Sp := fun vs H Q _ => ∃ (na ma oa fa : Addr) (M : List (Addr × Pr)) (O : List (Addr × List Str)) (b : Bool) (first : Int) (F : List Int) (md : Str), vs = [.ref na, .int first, .ref fa, .str md] ∧ NodeAt K H na ma oa M O b ∧ M.length ≤ 100 ∧ O.length ≤ 100 ∧
  SqL K H fa (F.map V.int) ∧ (∀ x ∈ M, 0 ≤ x.2.2 ∧ x.2.2 < (F.length : Nat)) ∧ 0 ≤ first ∧ first ≤ 1000000 ∧
  ∀ (q : Addr) (G : List (Addr × Ed)) (H' : Hp), Same H H' → H q = none → H' q = some (.lst (refs G)) → Eds K H' G → G.map (·.2) = nodeE md first (fsOf F) (M.map (·.2), O.map (·.2), b) → Q (.ref q) H'
theorem c_nodeE (D : Df K mg "node_edges" s_node_edges) (z_len : mg "len" = none) (z_enumerate : mg "enumerate" = none) : C8.Cal P w K mg base 1 "node_edges" (spNE K) [] := by
  refine D.cal sc_node_edges (fun _ _ _ _ _ _ us hl => match us, hl with | [_, _, _, _], _ => rfl) (fun vs H Q E h => ?_) (fun f cdv A outer s0 H vs Q E hr h => ?_)
  · obtain ⟨_, _, _, _, _, _, _, _, _, _, rfl, _⟩ := h
    rfl
  obtain ⟨na, ma, oa, fa, M, O, b, first, F, md, rfl, N, lM, lO, hF, bM, f0, f1, q⟩ := h
  refine ⟨_, (pss_cons (ps_asg (pv 0) (pg_tup rfl (pgs_cons (pg_name (i := 4) sc_node_edges.nd rfl (Or.inl rfl)) (pgs_cons (pg_name (i := 5) sc_node_edges.nd rfl (Or.inl rfl)) (pgs_cons (pg_name (i := 6) sc_node_edges.nd rfl (Or.inl rfl)) pgs_nil)))))
    (pss_cons (ps_setLc (i := 7) (own := [("action", 8), ("target", 9)]) (g := gTup K 2 (gCons (gName 8) (gCons (gName 9) gNil))) (tt := tYes) rfl sc_node_edges.nd rfl rfl (sw_true rfl rfl rfl (by decide +kernel)) (pi_tup (pv 4)) (blkOk_by (N := ["node", "first", "firsts", "model", "moves", "offers", "is_hanging", "edges", "action", "target", "state", "row"]) (sc := defScope s_node_edges) (by decide +kernel)) (fun _ _ _ _ _ => (pg_tup rfl (pgs_cons (pg_name (i := 8) sc_node_edges.nd rfl (Or.inl rfl) (hf := Or.inr rfl)) (pgs_cons (pg_name (i := 9) sc_node_edges.nd rfl (Or.inl rfl) (hf := Or.inr rfl)) pgs_nil)))) (fun _ _ _ _ _ => pts_nil) (fun _ _ _ _ _ => (pe_tup (pa_cons (pv 1) (pa_cons (pv 8) (pa_cons (pe_ix (VK.ixL (K := K) rfl) (pv 2) (pv 9) (fun _ _ => rfl)) pa_nil))))))
    (pss_cons (ps_if (PW.pt (pw_or (pt_val (pv 6)) (pw_or1 (PW.pt (pw_and (pt_cmpR op_ne (pv 3) pe_str (nomark _)) (pw_and1 (pt_cmpR op_eq (pe_callB (VK.lenQ (K := K) rfl) (by rfl) z_len PySem.boot_len (pa_cons (pv 5) pa_nil)) pe_int (nomark _))))))))
      (pss_one (ps_expr (pe_bm PySem.F.plainAttrs_list PySem.F.slot_list_append PySem.F.type_list_append mt_append (pv 7) (pa_cons (pe_tup (pa_cons (pv 1) (pa_cons pe_str (pa_cons (pv 1) pa_nil)))) pa_nil))))
      pss_nil)
    (pss_cons (ps_for PassesOwn.never rfl (VES.pi_enST (K := K) rfl (by rfl) z_enumerate (pa_cons (pv 5) pa_nil) (pk_cons (pe_op op_add (pv 1) pe_int) pk_nil)) (pg_tup rfl (pgs_cons (pg_name (i := 10) sc_node_edges.nd rfl (Or.inr rfl)) (pgs_cons (pg_name (i := 11) sc_node_edges.nd rfl (Or.inr rfl)) pgs_nil)))
      (pss_cons (ps_expr (pe_bm PySem.F.plainAttrs_list PySem.F.slot_list_append PySem.F.type_list_append mt_append (pv 7) (pa_cons (pe_tup (pa_cons (pv 1) (pa_cons pe_str (pa_cons (pv 10) pa_nil)))) pa_nil)))
      (pss_one (ps_expr (pe_bm PySem.F.plainAttrs_list PySem.F.slot_list_extend PySem.F.type_list_extend mt_extend (pv 7) (pa_cons (pe_lc (own := [("action", 8), ("target", 9)]) (g := gTup K 2 (gCons (gName 8) (gCons (gName 9) gNil))) rfl sc_node_edges.nd (pi_tup (pv 4)) (blkOk_by (N := ["node", "first", "firsts", "model", "moves", "offers", "is_hanging", "edges", "action", "target", "state", "row"]) (sc := defScope s_node_edges) (by decide +kernel)) (fun _ _ _ _ _ => (pg_tup rfl (pgs_cons (pg_name (i := 8) sc_node_edges.nd rfl (Or.inl rfl) (hf := Or.inr rfl)) (pgs_cons (pg_name (i := 9) sc_node_edges.nd rfl (Or.inl rfl) (hf := Or.inr rfl)) pgs_nil)))) (fun _ _ _ _ _ => (pts_one (pt_cmpR (VK.inQ (K := K) rfl) (pv 8) (pv 11) rfl))) (fun _ _ _ _ _ => (pe_tup (pa_cons (pv 10) (pa_cons (pv 8) (pa_cons (pe_ix (VK.ixL (K := K) rfl) (pv 2) (pv 9) (fun _ _ => rfl)) pa_nil)))))) pa_nil))))))
    (pss_one (ps_ret (pv 7))))))), ?_⟩
  have zl := sizeLine_eq
  obtain ⟨fs, efs⟩ : ∃ fs, fs = fsOf F := ⟨_, rfl⟩
  have hfs : ∀ x ∈ M, atI (F.map V.int) x.2.2 = some (.int (fs x.2.2)) := fun x hx => by rw [efs]; exact fs_at (bM x hx).1 (bM x hx).2
  refine ⟨_, rfl, na, _, rfl, N.n, rfl, .ref ma, _, rfl, .ref oa, _, rfl, .bl b, _, rfl, rfl, ?_⟩
  refine VJ.nmS ?_
  -- one comprehension over the moves
  refine ⟨_, rfl, ma, rfl, ⟨_, N.m⟩, fun D1 nD => lc_tup (K := K) (a := ma) (xs := refs M) (fun j H' => ∃ R : List (Addr × Ed), Same H H' ∧ H' D1 = some (.lst (refs R)) ∧ Eds K H' R ∧ R.map (·.2) = (M.take j).map fun y => (first, y.2.1, fs y.2.2))
    ⟨[], same_upd nD _, upd_same, fun z hz => absurd hz List.not_mem_nil, rfl⟩ (fun i H4 _ ⟨_, z, _⟩ => VB.Same.sqT z N.m) ?_ ?_⟩
  · rintro j v H' hv ⟨R, s1, hD, hR, eR⟩
    obtain ⟨y, hy, rfl⟩ := refs_at hv
    have yin := List.mem_of_getElem? hy
    have ltj : j < M.length := (List.getElem?_eq_some_iff.mp hy).1
    refine ⟨y.1, _, rfl, N.me.kp (Kp.of s1) y yin, rfl, .str y.2.1, _, rfl, .int y.2.2, _, rfl, rfl, ?_⟩
    refine ⟨rfl, ?_⟩
    unfold tYes
    refine iteT ?_
    have lR : R.length ≤ j := by
      have z := congrArg List.length eR
      rw [List.length_map, List.length_map, List.length_take] at z
      omega
    refine ⟨_, rfl, _, rfl, _, rfl, _, rfl, fa, _, _, .int (fs y.2.2), rfl, rfl, s1.seq hF, hfs y yin, (by show 3 ≤ sizeLine; omega), fun tp ntp => ?_⟩
    have s6 := same_upd ntp (.tup [.int first, .str y.2.1, .int (fs y.2.2)])
    have hD6 := s6 _ _ hD
    have tpD : tp ≠ D1 := fun z => by rw [z, hD] at ntp; cases ntp
    refine ⟨_, hD6, by rw [refs_len]; omega, R ++ [(tp, (first, y.2.1, fs y.2.2))], sameIn (s1.trans s6) nD, by rw [upd_same, refs_snoc], fun u hu => ?_, ?_⟩
    · rcases List.mem_append.mp hu with z | z
      · exact (hR.kp ((Kp.of s6).trans (Kp.updL hD6 _))) u z
      · rw [List.mem_singleton.mp z]
        exact .inl (.inl (by rw [upd_ne tpD]; exact upd_same))
    · rw [List.map_append, eR, List.take_succ, hy, List.map_append] <;> rfl
  rintro H1 ⟨R, s1, hD1, hR, eR⟩
  rw [refs_len, List.take_length] at eR
  refine VJ.nmS ?_
  have D1H : H D1 = none := nD
  have lR : R.length ≤ 100 := by
    have z := congrArg List.length eR
    rw [List.length_map, List.length_map] at z
    omega
  -- lost, or without an offer
  refine VJ.seqJ (fun σ H' => ∃ R2 : List (Addr × Ed), σ = [some (.ref na), some (.int first), some (.ref fa), some (.str md), some (.ref ma), some (.ref oa), some (.bl b), some (.ref D1), none, none, none, none] ∧ Same H H' ∧ H' D1 = some (.lst (refs R2)) ∧ Eds K H' R2 ∧ R2.length ≤ 101 ∧
    R2.map (·.2) = (M.map fun y => (first, y.2.1, fs y.2.2)) ++ (if b = true ∨ (md ≠ "traces" ∧ O.map (·.2) = []) then [(first, ("tau" : Str), first)] else [])) (fun N' hN => ?_) ?_
  · refine testJF (c := tOr _ _) (fun b' H' => H' = H1 ∧ (b' = true ↔ (b = true ∨ (md ≠ "traces" ∧ O.map (·.2) = [])))) (fun Q' fin => ?_) (fun b' H' ⟨eH, hb⟩ => ?_)
    · refine ⟨_, rfl, _, rfl, VUt.ite2b (fun c => fin _ _ ⟨rfl, fun _ => .inl c, fun _ => rfl⟩) (fun c => ?_)⟩
      refine ⟨_, rfl, rfl, _, rfl, VUt.ite2b (fun c2 => ?_) (fun c2 => fin _ _ ⟨rfl, fun z => (by cases z), fun z => z.elim (fun y => by rw [y] at c; cases c) fun y => absurd (by simpa using c2) y.1⟩)⟩
      have c2 : md ≠ "traces" := by simpa using c2
      refine ⟨_, rfl, oa, _, rfl, .inr (VB.Same.sqT s1 N.o), rfl, _, rfl, fin _ _ ⟨rfl, ?_⟩⟩
      rw [refs_len, decide_eq_true_eq]
      constructor
      · intro z
        have z : ((O.length : Nat) : Int) = 0 := by injection z
        exact .inr ⟨c2, by rw [List.length_eq_zero_iff.mp (show O.length = 0 by omega)] <;> rfl⟩
      · rintro (z | ⟨_, z⟩)
        · rw [z] at c; cases c
        · have y := congrArg List.length z
          rw [List.length_map] at y
          rw [y] <;> rfl
    subst H'
    refine VUt.ite2b (fun eb => ?_) (fun eb => ?_)
    · refine ⟨_, rfl, .inl ⟨rfl, _, SqL.of hD1⟩, _, rfl, _, rfl, (by show 3 ≤ sizeLine; omega), fun tp ntp => ?_⟩
      have s6 := same_upd ntp (.tup [.int first, .str "tau", .int first])
      have hD6 := s6 _ _ hD1
      have tpD : tp ≠ D1 := fun z => by rw [z, hD1] at ntp; cases ntp
      refine ⟨D1, _, _, rfl, rfl, hD6, by rw [refs_len]; omega, hN _ _ ⟨R ++ [(tp, (first, ("tau" : Str), first))], rfl, sameIn (s1.trans s6) D1H, by rw [upd_same, refs_snoc], fun u hu => ?_, by rw [List.length_append, List.length_singleton]; omega, ?_⟩⟩
      · rcases List.mem_append.mp hu with z | z
        · exact (hR.kp ((Kp.of s6).trans (Kp.updL hD6 _))) u z
        · rw [List.mem_singleton.mp z]
          exact .inl (.inl (by rw [upd_ne tpD]; exact upd_same))
      · rw [List.map_append, eR, if_pos (hb.mp eb)] <;> rfl
    · exact hN _ _ ⟨R, rfl, s1, hD1, hR, by omega, by rw [eR, if_neg (fun z => by rw [hb.mpr z] at eb; cases eb), List.append_nil]⟩
  clear hD1 hR s1 eR lR H1 R
  rintro σ H2 ⟨R2, rfl, s2, hD2, hR2, lR2, eR2⟩
  obtain ⟨pre, epre⟩ : ∃ pre, pre = (M.map fun y => (first, y.2.1, fs y.2.2)) ++ (if b = true ∨ (md ≠ "traces" ∧ O.map (·.2) = []) then [(first, ("tau" : Str), first)] else []) := ⟨_, rfl⟩
  rw [← epre] at eR2
  refine ⟨_, rfl, _, rfl, _, _, rfl, rfl, oa, refs O, first + 1, rfl, rfl, by omega, by omega, VB.Same.sqT s2 N.o, VI.for_en (K := K) (a := oa) (xs := refs O)
    (fun i σ H' => ∃ (R : List (Addr × Ed)) (r10 r11 : Option V), σ = [some (.ref na), some (.int first), some (.ref fa), some (.str md), some (.ref ma), some (.ref oa), some (.bl b), some (.ref D1), none, none, r10, r11] ∧ Same H H' ∧ H' D1 = some (.lst (refs R)) ∧ Eds K H' R ∧ R.length ≤ 101 + i * 101 ∧ R.map (·.2) = pre ++ offsE first fs (M.map (·.2)) (O.map (·.2)) i)
    ⟨R2, none, none, rfl, s2, hD2, hR2, by omega, by rw [eR2]; exact (List.append_nil _).symm⟩ (fun i σ H' _ ⟨_, _, _, _, z, _⟩ => VB.Same.sqT z N.o) ?_ ?_⟩
  · clear hD2 hR2 lR2 eR2 s2 H2 R2
    rintro i v σ H2 hv ⟨R, r10, r11, rfl, s2, hD2, hR, lR, eR⟩ T nT
    obtain ⟨r, hr, rfl⟩ := refs_at hv
    have rin := List.mem_of_getElem? hr
    have lti : i < O.length := (List.getElem?_eq_some_iff.mp hr).1
    have hrm : (O.map (·.2))[i]? = some r.2 := by rw [List.getElem?_map, hr] <;> rfl
    have u1 := same_upd nT (.tup [.int (first + 1 + (i : Nat)), .ref r.1])
    have hT : upd H2 T (.tup [.int (first + 1 + (i : Nat)), .ref r.1]) T = some (.tup [.int (first + 1 + (i : Nat)), .ref r.1]) := upd_same
    have s3 := s2.trans u1
    have hD3 := u1 _ _ hD2
    have hR3 := hR.kp (Kp.of u1)
    generalize upd H2 T (.tup [.int (first + 1 + (i : Nat)), .ref r.1]) = H3 at s3 hT hD3 hR3 ⊢
    clear u1 hD2 hR s2 nT
    refine ⟨T, _, rfl, .inl (.inl hT), rfl, .int _, _, rfl, .ref _, _, rfl, rfl, ?_⟩
    refine ⟨_, rfl, .inl ⟨rfl, _, SqL.of hD3⟩, _, rfl, _, rfl, (by show 3 ≤ sizeLine; omega), fun tp ntp => ?_⟩
    have s4 := same_upd ntp (.tup [.int first, .str "tau", .int (first + 1 + (i : Nat))])
    have hD4 := s4 _ _ hD3
    have tpD : tp ≠ D1 := fun z => by rw [z, hD3] at ntp; cases ntp
    refine ⟨D1, _, _, rfl, rfl, hD4, by rw [refs_len]; omega, ?_⟩
    have k4 := (Kp.of s4).trans (Kp.updL hD4 (.lst (refs R ++ [.ref tp])))
    have hR5 : Eds K (upd (upd H3 tp (.tup [.int first, .str "tau", .int (first + 1 + (i : Nat))])) D1 (.lst (refs R ++ [.ref tp]))) (R ++ [(tp, (first, ("tau" : Str), first + 1 + ((i : Nat) : Int)))]) := fun u hu => by
      rcases List.mem_append.mp hu with z | z
      · exact (hR3.kp k4) u z
      · rw [List.mem_singleton.mp z]
        exact .inl (.inl (by rw [upd_ne tpD]; exact upd_same))
    have s5 : Same H (upd (upd H3 tp (.tup [.int first, .str "tau", .int (first + 1 + (i : Nat))])) D1 (.lst (refs R ++ [.ref tp]))) := sameIn (s3.trans s4) D1H
    have hD5 : upd (upd H3 tp (.tup [.int first, .str "tau", .int (first + 1 + (i : Nat))])) D1 (.lst (refs R ++ [.ref tp])) D1 = some (.lst (refs (R ++ [(tp, (first, ("tau" : Str), first + 1 + ((i : Nat) : Int)))]))) := by rw [upd_same, refs_snoc]
    generalize upd (upd H3 tp (.tup [.int first, .str "tau", .int (first + 1 + (i : Nat))])) D1 (.lst (refs R ++ [.ref tp])) = H5 at s5 hD5 hR5 ⊢
    clear s3 s4 hD3 hD4 hR3 k4 ntp tpD
    refine ⟨_, rfl, .inl ⟨rfl, _, SqL.of hD5⟩, _, rfl, ma, rfl, ⟨_, VB.Same.sqT s5 N.m⟩, fun D2 nD2 => lc_tup (K := K) (a := ma) (xs := refs M) (fun j H' => ∃ R3 : List (Addr × Ed), Same H5 H' ∧ H' D2 = some (.lst (refs R3)) ∧ Eds K H' R3 ∧ R3.length ≤ j ∧ R3.map (·.2) = (((M.map (·.2)).take j).filter fun m => decide (m.1 ∈ r.2)).map fun m => (first + 1 + (i : Nat), m.1, fs m.2))
      ⟨[], same_upd nD2 _, upd_same, fun z hz => absurd hz List.not_mem_nil, Nat.le_refl _, rfl⟩ (fun j H4 _ ⟨_, z, _⟩ => VB.Same.sqT (s5.trans z) N.m) ?_ ?_⟩
    · rintro j v H' hv2 ⟨R3, s6, hD, hR3, lR3, eR3⟩
      obtain ⟨y, hy, rfl⟩ := refs_at hv2
      have yin := List.mem_of_getElem? hy
      have ltj : j < M.length := (List.getElem?_eq_some_iff.mp hy).1
      have tkM : (M.map (·.2)).take (j + 1) = (M.map (·.2)).take j ++ [y.2] := by rw [List.take_succ, List.getElem?_map, hy] <;> rfl
      have s56 := s5.trans s6
      refine ⟨y.1, _, rfl, N.me.kp (Kp.of s56) y yin, rfl, .str y.2.1, _, rfl, .int y.2.2, _, rfl, rfl, ?_⟩
      refine ⟨rfl, ?_⟩
      refine ⟨_, rfl, _, rfl, r.1, _, rfl, .inr (VB.Same.sqT s56 (N.oe r rin)), rfl, VJ.flatS _, _, rfl, ?_⟩
      rw [inV_strs, if_neg (by decide)]
      refine VUt.ite2b (fun c => ?_) (fun c => ?_)
      · refine ⟨_, rfl, _, rfl, _, rfl, _, rfl, fa, _, _, .int (fs y.2.2), rfl, rfl, s56.seq hF, hfs y yin, (by show 3 ≤ sizeLine; omega), fun tp ntp => ?_⟩
        have s7 := same_upd ntp (.tup [.int (first + 1 + (i : Nat)), .str y.2.1, .int (fs y.2.2)])
        have hD7 := s7 _ _ hD
        have tpD : tp ≠ D2 := fun z => by rw [z, hD] at ntp; cases ntp
        refine ⟨_, hD7, by rw [refs_len]; omega, R3 ++ [(tp, (first + 1 + ((i : Nat) : Int), y.2.1, fs y.2.2))], sameIn (s6.trans s7) nD2, by rw [upd_same, refs_snoc], fun u hu => ?_, by rw [List.length_append, List.length_singleton]; omega, ?_⟩
        · rcases List.mem_append.mp hu with z | z
          · exact (hR3.kp ((Kp.of s7).trans (Kp.updL hD7 _))) u z
          · rw [List.mem_singleton.mp z]
            exact .inl (.inl (by rw [upd_ne tpD]; exact upd_same))
        · rw [List.map_append, eR3, tkM, List.filter_append, List.filter_cons_of_pos (p := fun m : Pr => decide (m.1 ∈ r.2)) c, List.filter_nil, List.map_append] <;> rfl
      · refine ⟨R3, s6, hD, hR3, by omega, ?_⟩
        rw [eR3, tkM, List.filter_append, List.filter_cons_of_neg (p := fun m : Pr => decide (m.1 ∈ r.2)) (by rw [c]; decide), List.filter_nil, List.append_nil]
    rintro H6 ⟨R3, s6, hD6, hR3, lR3, eR3⟩
    rw [refs_len] at lR3 eR3
    rw [List.take_of_length_le (by rw [List.length_map]; exact Nat.le_refl _)] at eR3
    refine ⟨D1, D2, _, _, rfl, rfl, s6 _ _ hD5, hD6, by rw [refs_len, refs_len, List.length_append, List.length_singleton]; omega, ?_⟩
    have k6 := (Kp.of s6).trans (Kp.updL (s6 _ _ hD5) (.lst (refs (R ++ [(tp, (first, ("tau" : Str), first + 1 + ((i : Nat) : Int)))]) ++ refs R3)))
    refine ⟨(R ++ [(tp, (first, ("tau" : Str), first + 1 + ((i : Nat) : Int)))]) ++ R3, _, _, rfl, sameIn (s5.trans s6) D1H, by rw [upd_same]; unfold refs; rw [List.map_append (l₁ := R ++ _)], fun u hu => ?_, by rw [List.length_append, List.length_append, List.length_singleton]; omega, ?_⟩
    · rcases List.mem_append.mp hu with z | z
      · exact (hR5.kp k6) u z
      · exact (hR3.kp (Kp.updL (s6 _ _ hD5) _)) u z
    · rw [List.map_append, List.map_append, eR, eR3, offsE_succ hrm, List.append_assoc, List.append_assoc] <;> rfl
  · rintro σ H3 ⟨R, r10, r11, rfl, s3, hD3, hR3, lR3, eR3⟩
    rw [refs_len] at eR3
    refine VJ.nx ?_
    refine ⟨_, rfl, q D1 R H3 s3 nD hD3 hR3 ?_⟩
    rw [eR3, epre]
    unfold nodeE
    rw [← efs, List.map_map, List.length_map] <;> rfl
end
end LW

set_option Elab.async false
set_option linter.all false
set_option maxRecDepth 100000
set_option maxHeartbeats 400000
namespace LW
open PySem PySem.Spec PyProof.Rows L2 LamX NdefX VB VM VP VE VX
section
variable {P : Program} {w : World} {K : PySem.W.Frag} {mg : Str → Option Value} {base : Heap}
def spMade (K : PySem.W.Frag) (C : Addr) : Sp := fun vs H Q _ => ∃ (t l : Addr) (n : Int) (L : List (Addr × Ed)), vs = [.ref t] ∧ SqT K H t [.int n, .ref l] ∧ SqL K H l (refs L) ∧ Eds K H L ∧ 1 ≤ n ∧ n ≤ 20000 ∧ L.length < 64 ∧ (∀ x ∈ L, okE n x.2) ∧
  ∀ (φ : Addr → Prop) (x : Addr) (E : List Ed) (H' : Hp), Same H H' → SysAt K φ C H' x n E → (∀ e, e ∈ E ↔ e ∈ L.map (·.2)) → Q (.ref x) H'
end
end LW

set_option Elab.async false
set_option linter.all false
set_option maxRecDepth 100000
set_option maxHeartbeats 400000
namespace LW
open PySem PySem.Spec PyProof.Rows L2 LamX NdefX VB VM VP VE VX
section
variable {P : Program} {w : World} {K : PySem.W.Frag} {mg : Str → Option Value} {base : Heap}
/-- where a node's states begin -/
def stI (xs : List ND) (k : Nat) : Int := (((xs.take k).map fun x => 1 + x.2.1.length).sum : Nat)
theorem stI_succ {xs : List ND} {k : Nat} {x : ND} (h : xs[k]? = some x) : stI xs (k + 1) = stI xs k + (1 + (x.2.1.length : Nat)) := by
  unfold stI
  rw [List.take_succ, h, Option.toList_some, List.map_append, List.sum_append]
  simp
theorem stI_nn (xs : List ND) (k : Nat) : 0 ≤ stI xs k := by unfold stI; omega
theorem stI_le {xs : List ND} {i : Nat} : ∀ {j : Nat}, i ≤ j → stI xs i ≤ stI xs j := by
  intro j
  induction j with
  | zero => intro h; rw [Nat.le_zero.mp h]; exact Int.le_refl _
  | succ j ih =>
    intro h
    by_cases e : i = j + 1
    · rw [e]; exact Int.le_refl _
    · have z := ih (by omega)
      cases hx : xs[j]? with
      | some x => rw [stI_succ hx]; omega
      | none =>
        have l : xs.length ≤ j := List.getElem?_eq_none_iff.mp hx
        have e2 : stI xs (j + 1) = stI xs j := by
          unfold stI
          rw [List.take_of_length_le (by omega), List.take_of_length_le l]
        rw [e2]; exact z
def firsts (xs : List ND) : List Int := (List.range xs.length).map fun i => stI xs i
theorem fs_first {xs : List ND} {t : Int} (h0 : 0 ≤ t) (h1 : t < (xs.length : Nat)) : fsOf (firsts xs) t = stI xs t.toNat := by
  unfold fsOf firsts
  rw [List.getD_eq_getElem?_getD, List.getElem?_map, List.getElem?_range (by omega)] <;> rfl
/-- all edges of the picture -/
def picE (md : Str) (xs : List ND) (k : Nat) : List Ed := (List.range k).flatMap fun i => match xs[i]? with
  | some x => nodeE md (stI xs i) (fsOf (firsts xs)) x
  | none => []
theorem picE_succ {md : Str} {xs : List ND} {k : Nat} {x : ND} (h : xs[k]? = some x) : picE md xs (k + 1) = picE md xs k ++ nodeE md (stI xs k) (fsOf (firsts xs)) x := by
  unfold picE
  rw [List.range_succ, List.flatMap_append, List.flatMap_singleton, h]
theorem picE_le {md : Str} {xs : List ND} {i : Nat} : ∀ {j : Nat}, i ≤ j → (picE md xs i).length ≤ (picE md xs j).length := by
  intro j
  induction j with
  | zero => intro h; rw [Nat.le_zero.mp h]; exact Nat.le_refl _
  | succ j ih =>
    intro h
    by_cases e : i = j + 1
    · rw [e]; exact Nat.le_refl _
    · refine Nat.le_trans (ih (by omega)) ?_
      unfold picE
      rw [List.range_succ, List.flatMap_append, List.length_append]
      exact Nat.le_add_right _ _
/-- a form whose moves lead to its nodes -/
structure FormOk (xs : List ND) : Prop where
  mv : ∀ x ∈ xs, ∀ m ∈ x.1, 0 ≤ m.2 ∧ m.2 < (xs.length : Nat) ∧ m.1 ∈ acts
theorem picE_ok {md : Str} {xs : List ND} (f : FormOk xs) : ∀ e ∈ picE md xs xs.length, okE (stI xs xs.length) e := fun e he => by
  unfold picE at he
  obtain ⟨k, hk, he⟩ := List.mem_flatMap.mp he
  have lk := List.mem_range.mp hk
  rw [List.getElem?_eq_getElem lk] at he
  have hx : xs[k]? = some xs[k] := List.getElem?_eq_getElem lk
  generalize xs[k] = x at he hx
  have he : e ∈ nodeE md (stI xs k) (fsOf (firsts xs)) x := he
  have xin := List.mem_of_getElem? hx
  have b1 := stI_succ hx
  have b2 : stI xs (k + 1) ≤ stI xs xs.length := stI_le lk
  have b0 := stI_nn xs k
  have fs : ∀ m ∈ x.1, 0 ≤ fsOf (firsts xs) m.2 ∧ fsOf (firsts xs) m.2 < stI xs xs.length := fun m hm => by
    obtain ⟨g1, g2, _⟩ := f.mv x xin m hm
    rw [fs_first g1 g2]
    have lt : m.2.toNat < xs.length := by omega
    have c1 := stI_succ (List.getElem?_eq_getElem lt)
    have c2 : stI xs (m.2.toNat + 1) ≤ stI xs xs.length := stI_le lt
    have c0 := stI_nn xs m.2.toNat
    exact ⟨c0, by omega⟩
  have tau : ("tau" : Str) ∈ acts := by decide +kernel
  unfold nodeE at he
  rcases List.mem_append.mp he with he | he
  · rcases List.mem_append.mp he with he | he
    · obtain ⟨m, hm, rfl⟩ := List.mem_map.mp he
      obtain ⟨g1, g2⟩ := fs m hm
      exact ⟨b0, by show stI xs k < _; omega, g1, g2, (f.mv x xin m hm).2.2⟩
    · split at he
      · rw [List.mem_singleton.mp he]
        exact ⟨b0, by show stI xs k < _; omega, b0, by show stI xs k < _; omega, tau⟩
      · cases he
  · unfold offsE at he
    obtain ⟨i, hi, he⟩ := List.mem_flatMap.mp he
    have li := List.mem_range.mp hi
    rw [List.getElem?_eq_getElem li] at he
    have he : e ∈ offE (stI xs k) (fsOf (firsts xs)) x.1 i x.2.1[i] := he
    unfold offE at he
    rcases List.mem_cons.mp he with rfl | he
    · exact ⟨b0, by show stI xs k < _; omega, by show 0 ≤ stI xs k + 1 + (i : Nat); omega, by show stI xs k + 1 + (i : Nat) < _; omega, tau⟩
    · obtain ⟨m, hm, rfl⟩ := List.mem_map.mp he
      have hm := (List.mem_filter.mp hm).1
      obtain ⟨g1, g2⟩ := fs m hm
      exact ⟨by show 0 ≤ stI xs k + 1 + (i : Nat); omega, by show stI xs k + 1 + (i : Nat) < _; omega, g1, g2, (f.mv x xin m hm).2.2⟩
abbrev NR := Addr × (Addr × Addr × List (Addr × Pr) × List (Addr × List Str) × Bool)
def NdAll (K : PySem.W.Frag) (H : Hp) (NL : List NR) : Prop := ∀ x ∈ NL, NodeAt K H x.1 x.2.1 x.2.2.1 x.2.2.2.1 x.2.2.2.2.1 x.2.2.2.2.2
def ndV (x : NR) : ND := (x.2.2.2.1.map (·.2), x.2.2.2.2.1.map (·.2), x.2.2.2.2.2)
def spPic (K : PySem.W.Frag) (C CU : Addr) : Sp := fun vs H Q X => (∃ (v : V) (md : Str), vs = [v, .str md] ∧ md.length ≤ 1000 ∧ md ∉ MODS ∧ ∀ (d : Addr) (H' : Hp), Same H H' → H' d = some (.xd [("model", .str md)]) → X (.ref CU) (some d) H') ∨
  ∃ (fa : Addr) (NL : List NR) (md : Str), vs = [.ref fa, .str md] ∧ md ∈ MODS ∧ SqT K H fa (refs NL) ∧ NdAll K H NL ∧ 1 ≤ NL.length ∧ NL.length ≤ 100 ∧ (∀ x ∈ NL, x.2.2.2.1.length ≤ 100 ∧ x.2.2.2.2.1.length ≤ 100) ∧ FormOk (NL.map ndV) ∧ (picE md (NL.map ndV) NL.length).length ≤ 1000 ∧
  ∀ (ψ : Addr → Prop) (s : Addr) (E' : List Ed) (H' : Hp), Same H H' → SysAt K ψ C H' s (stI (NL.map ndV) NL.length) E' → (∀ e, e ∈ E' ↔ e ∈ picE md (NL.map ndV) NL.length) → Q (.ref s) H'
theorem c_pic {C CS CU : Addr} (D : Df K mg "picture" s_picture) (z_len : mg "len" = none) (z_enumerate : mg "enumerate" = none) (c_check_model : VE.CalX P w K mg base 3 "check_model" (spChk CU)) (c_node_edges : C8.Cal P w K mg base 1 "node_edges" (spNE K) []) (c_System : C8.Mak P w K mg base 5 "System" C (calm (spInitX K C CS)) []) :
    VE.CalX P w K mg base 7 "picture" (spPic K C CU) := by
  refine VE.calX D sc_picture (fun _ _ _ _ _ _ us hl => match us, hl with | [_, _], _ => rfl) (fun vs H Q E h => ?_) (fun f cdv A outer s0 H vs Q E hr h => ?_)
  · rcases h with ⟨_, _, rfl, _⟩ | ⟨_, _, _, rfl, _⟩ <;> rfl
  rcases h with ⟨v, md, rfl, lmd, nmd, qe⟩ | ⟨fa, NL, md, rfl, hmd, hfa, hN, l1, lN, lMO, fo, lp, q⟩
  · refine ⟨_, (pss_cons (ps_expr (VE.pe_cX c_check_model hr (by first | decide | omega) rfl (takes_of rfl rfl rfl rfl) (pa_cons (pv 1) pa_nil)))
    (pss_cons (ps_set (i := 2) sc_picture.nd rfl (Or.inl rfl) (pe_lst pa_nil))
    (pss_cons (ps_set (i := 3) sc_picture.nd rfl (Or.inl rfl) pe_int)
    (pss_cons (ps_for (passes_of rfl) rfl (pi_tup (pv 0)) (pg_tup rfl (pgs_cons (pg_name (i := 4) sc_picture.nd rfl (Or.inl rfl)) (pgs_cons (pg_name (i := 5) sc_picture.nd rfl (Or.inl rfl)) (pgs_cons (pg_name (i := 4) sc_picture.nd rfl (Or.inl rfl)) pgs_nil))))
      (pss_cons (ps_expr (pe_bm PySem.F.plainAttrs_list PySem.F.slot_list_append PySem.F.type_list_append mt_append (pv 2) (pa_cons (pv 3) pa_nil)))
      (pss_one (ps_aug (i := 3) sc_picture.nd rfl (.inl rfl) (pe_op op_add pe_int (pe_callB (VK.lenQ (K := K) rfl) (by rfl) z_len PySem.boot_len (pa_cons (pv 5) pa_nil))) ip_add))))
    (pss_cons (ps_set (i := 6) sc_picture.nd rfl (Or.inl rfl) (pe_lst pa_nil))
    (pss_cons (ps_for (passes_of rfl) rfl (VI.pi_enT (K := K) rfl (by rfl) z_enumerate (pa_cons (pv 0) pa_nil)) (pg_tup rfl (pgs_cons (pg_name (i := 7) sc_picture.nd rfl (Or.inl rfl)) (pgs_cons (pg_name (i := 8) sc_picture.nd rfl (Or.inl rfl)) pgs_nil)))
      (pss_one (ps_expr (pe_bm PySem.F.plainAttrs_list PySem.F.slot_list_extend PySem.F.type_list_extend mt_extend (pv 6) (pa_cons (C8.pe_c c_node_edges hr (by first | decide | omega) rfl (pa_cons (pv 8) (pa_cons (pe_ix (VK.ixL (K := K) rfl) (pv 2) (pv 7) (fun _ _ => rfl)) (pa_cons (pv 2) (pa_cons (pv 1) pa_nil))))) pa_nil)))))
    (pss_one (ps_ret (C8.pe_mk c_System hr (by first | decide | omega) rfl (pa_cons (pv 3) (pa_cons (pv 6) pa_nil))))))))))), ?_⟩
    exact ⟨_, rfl, md, rfl, lmd, fun h => absurd h nmd, fun _ d H' s hd => qe d H' s hd⟩
  refine ⟨_, (pss_cons (ps_expr (VE.pe_cX c_check_model hr (by first | decide | omega) rfl (takes_of rfl rfl rfl rfl) (pa_cons (pv 1) pa_nil)))
    (pss_cons (ps_set (i := 2) sc_picture.nd rfl (Or.inl rfl) (pe_lst pa_nil))
    (pss_cons (ps_set (i := 3) sc_picture.nd rfl (Or.inl rfl) pe_int)
    (pss_cons (ps_for (passes_of rfl) rfl (pi_tup (pv 0)) (pg_tup rfl (pgs_cons (pg_name (i := 4) sc_picture.nd rfl (Or.inl rfl)) (pgs_cons (pg_name (i := 5) sc_picture.nd rfl (Or.inl rfl)) (pgs_cons (pg_name (i := 4) sc_picture.nd rfl (Or.inl rfl)) pgs_nil))))
      (pss_cons (ps_expr (pe_bm PySem.F.plainAttrs_list PySem.F.slot_list_append PySem.F.type_list_append mt_append (pv 2) (pa_cons (pv 3) pa_nil)))
      (pss_one (ps_aug (i := 3) sc_picture.nd rfl (.inl rfl) (pe_op op_add pe_int (pe_callB (VK.lenQ (K := K) rfl) (by rfl) z_len PySem.boot_len (pa_cons (pv 5) pa_nil))) ip_add))))
    (pss_cons (ps_set (i := 6) sc_picture.nd rfl (Or.inl rfl) (pe_lst pa_nil))
    (pss_cons (ps_for (passes_of rfl) rfl (VI.pi_enT (K := K) rfl (by rfl) z_enumerate (pa_cons (pv 0) pa_nil)) (pg_tup rfl (pgs_cons (pg_name (i := 7) sc_picture.nd rfl (Or.inl rfl)) (pgs_cons (pg_name (i := 8) sc_picture.nd rfl (Or.inl rfl)) pgs_nil)))
      (pss_one (ps_expr (pe_bm PySem.F.plainAttrs_list PySem.F.slot_list_extend PySem.F.type_list_extend mt_extend (pv 6) (pa_cons (C8.pe_c c_node_edges hr (by first | decide | omega) rfl (pa_cons (pv 8) (pa_cons (pe_ix (VK.ixL (K := K) rfl) (pv 2) (pv 7) (fun _ _ => rfl)) (pa_cons (pv 2) (pa_cons (pv 1) pa_nil))))) pa_nil)))))
    (pss_one (ps_ret (C8.pe_mk c_System hr (by first | decide | omega) rfl (pa_cons (pv 3) (pa_cons (pv 6) pa_nil))))))))))), ?_⟩
  have zl := sizeLine_eq
  have lmd : ∀ x ∈ MODS, x.length ≤ 1000 := by decide +kernel
  refine ⟨_, rfl, md, rfl, lmd md hmd, fun _ H1 s1 => ?_, fun h => absurd hmd h⟩
  refine VJ.nx ?_
  refine ⟨Nat.zero_le _, fun fl nfl => ?_⟩
  have u1 := same_upd nfl (.lst [])
  have hfl0 : upd H1 fl (.lst []) fl = some (.lst []) := upd_same
  have flH : H fl = none := s1.free nfl
  have s2 := s1.trans u1
  generalize upd H1 fl (.lst []) = H2 at s2 hfl0 ⊢
  clear u1 nfl
  refine VJ.nmS ?_
  refine VJ.nmS ?_
  obtain ⟨xs, exs⟩ : ∃ xs, xs = NL.map ndV := ⟨_, rfl⟩
  have lxs : xs.length = NL.length := by rw [exs, List.length_map]
  rw [← exs] at fo lp q
  have up : ∀ k, k ≤ xs.length → stI xs k ≤ k * 101 := fun k => by
    induction k with
    | zero => intro _; unfold stI; simp
    | succ k ih =>
      intro hk
      have z := ih (by omega)
      have hy : xs[k]? = some xs[k] := List.getElem?_eq_getElem (by omega)
      have y := stI_succ hy
      have w : xs[k].2.1.length ≤ 100 := by
        obtain ⟨n, hn, e⟩ := List.mem_map.mp (by rw [← exs]; exact List.getElem_mem (show k < xs.length by omega) : xs[k] ∈ NL.map ndV)
        rw [← e]
        show (n.2.2.2.2.1.map (·.2)).length ≤ 100
        rw [List.length_map]
        exact (lMO n hn).2
      omega
  have up2 := up xs.length (Nat.le_refl _)
  refine ⟨_, rfl, fa, rfl, ⟨_, VB.Same.sqT s2 hfa⟩, for_tup (K := K) (a := fa) (xs := refs NL)
    (fun i σ H' => ∃ (r4 r5 : Option V), σ = [some (.ref fa), some (.str md), some (.ref fl), some (.int (stI xs i)), r4, r5, none, none, none] ∧ Same H H' ∧ H' fl = some (.lst (((List.range i).map fun j => stI xs j).map V.int)))
    ⟨none, none, rfl, s2, hfl0⟩ (fun i σ H' _ ⟨_, _, _, z, _⟩ => VB.Same.sqT z hfa) ?_ ?_⟩
  · rintro i v σ H3 hv ⟨r4, r5, rfl, s3, hfl⟩
    obtain ⟨x, hx, rfl⟩ := refs_at hv
    have xin := List.mem_of_getElem? hx
    have lti : i < NL.length := (List.getElem?_eq_some_iff.mp hx).1
    have N := (hN x xin).same s3
    have hxm : xs[i]? = some (ndV x) := by rw [exs, List.getElem?_map, hx] <;> rfl
    refine ⟨x.1, _, rfl, N.n, rfl, .ref x.2.1, _, rfl, .ref x.2.2.1, _, rfl, .bl x.2.2.2.2.2, _, rfl, rfl, ?_⟩
    refine ⟨_, rfl, .inl ⟨rfl, _, SqL.of hfl⟩, _, rfl, fl, _, _, rfl, rfl, hfl, by rw [List.length_map, List.length_map, List.length_range]; omega, ?_⟩
    have s4 : Same H (upd H3 fl (.lst (((List.range i).map fun j => stI xs j).map V.int ++ [.int (stI xs i)]))) := sameIn s3 flH
    have hfl4 : upd H3 fl (.lst (((List.range i).map fun j => stI xs j).map V.int ++ [.int (stI xs i)])) fl = some (.lst (((List.range (i + 1)).map fun j => stI xs j).map V.int)) := by rw [upd_same, List.range_succ, List.map_append, List.map_append] <;> rfl
    generalize upd H3 fl (.lst (((List.range i).map fun j => stI xs j).map V.int ++ [.int (stI xs i)])) = H4 at s4 hfl4 ⊢
    refine ⟨_, rfl, _, rfl, x.2.2.1, _, rfl, .inr (VB.Same.sqT s4 (hN x xin).o), _, _, rfl, rfl, _, _, rfl, rfl, ?_⟩
    refine ⟨some (.bl x.2.2.2.2.2), some (.ref x.2.2.1), ?_, s4, hfl4⟩
    rw [stI_succ hxm, refs_len]
    unfold ndV
    rw [List.length_map] <;> rfl
  rintro σ H3 ⟨r4, r5, rfl, s3, hfl⟩
  rw [refs_len, ← lxs] at hfl
  rw [refs_len]
  have hF : H3 fl = some (.lst ((firsts xs).map V.int)) := hfl
  refine VJ.nx ?_
  refine ⟨Nat.zero_le _, fun el nel => ?_⟩
  have u4 := same_upd nel (.lst [])
  have hel0 : upd H3 el (.lst []) el = some (.lst []) := upd_same
  have elH : H el = none := s3.free nel
  have s4 := s3.trans u4
  have hF4 := u4 _ _ hF
  generalize upd H3 el (.lst []) = H4 at s4 hel0 hF4 ⊢
  have fel : fl ≠ el := fun z => by rw [z, hel0] at hF4; injection hF4 with h; injection h with h; have y := congrArg List.length h; rw [List.length_map] at y; unfold firsts at y; rw [List.length_map, List.length_range] at y; simp at y; omega
  clear u4 nel s3 hfl hF s2 hfl0
  refine VJ.nmS ?_
  refine ⟨_, rfl, fa, refs NL, rfl, VB.Same.sqT s4 hfa, VI.for_en (K := K) (a := fa) (xs := refs NL)
    (fun i σ H' => ∃ (G : List (Addr × Ed)) (r7 r8 : Option V), σ = [some (.ref fa), some (.str md), some (.ref fl), some (.int (stI xs NL.length)), r4, r5, some (.ref el), r7, r8] ∧ Same H H' ∧ H' fl = some (.lst ((firsts xs).map V.int)) ∧ H' el = some (.lst (refs G)) ∧ Eds K H' G ∧ G.map (·.2) = picE md xs i)
    ⟨[], none, none, rfl, s4, hF4, hel0, fun z hz => absurd hz List.not_mem_nil, rfl⟩ (fun i σ H' _ ⟨_, _, _, _, z, _⟩ => VB.Same.sqT z hfa) ?_ ?_⟩
  · clear hF4 hel0 s4 H4
    rintro i v σ H4 hv ⟨G, r7, r8, rfl, s4, hF4, hel, hG, eG⟩ T nT
    obtain ⟨x, hx, rfl⟩ := refs_at hv
    have xin := List.mem_of_getElem? hx
    have lti : i < NL.length := (List.getElem?_eq_some_iff.mp hx).1
    have hxm : xs[i]? = some (ndV x) := by rw [exs, List.getElem?_map, hx] <;> rfl
    have u1 := same_upd nT (.tup [.int (0 + (i : Nat)), .ref x.1])
    have hT : upd H4 T (.tup [.int (0 + (i : Nat)), .ref x.1]) T = some (.tup [.int (0 + (i : Nat)), .ref x.1]) := upd_same
    have s5 := s4.trans u1
    have hF5 := u1 _ _ hF4
    have hel5 := u1 _ _ hel
    have hG5 := hG.kp (Kp.of u1)
    generalize upd H4 T (.tup [.int (0 + (i : Nat)), .ref x.1]) = H5 at s5 hT hF5 hel5 hG5 ⊢
    clear u1 hF4 hel hG s4 nT
    refine ⟨T, _, rfl, .inl (.inl hT), rfl, .int _, _, rfl, .ref _, _, rfl, rfl, ?_⟩
    have N := (hN x xin).same s5
    have lF : (firsts xs).length = NL.length := by unfold firsts; rw [List.length_map, List.length_range, lxs]
    have b1 := stI_succ hxm
    have b2 : stI xs (i + 1) ≤ stI xs xs.length := stI_le (by omega)
    have b0 := stI_nn xs i
    obtain ⟨lM, lO⟩ := lMO x xin
    have fi : atI ((firsts xs).map V.int) (0 + (i : Nat)) = some (.int (stI xs i)) := by
      rw [Int.zero_add]
      exact atI_nat (by unfold firsts; rw [List.getElem?_map, List.getElem?_map, List.getElem?_range (by omega)] <;> rfl)
    refine ⟨_, rfl, .inl ⟨rfl, _, SqL.of hel5⟩, _, rfl, _, rfl, _, rfl, fl, _, _, .int (stI xs i), rfl, rfl, SqL.of hF5, fi, _, rfl, _, rfl, x.1, x.2.1, x.2.2.1, fl, x.2.2.2.1, x.2.2.2.2.1, x.2.2.2.2.2, stI xs i, firsts xs, md, rfl, N, lM, lO, SqL.of hF5, fun m hm => ?_, b0, by omega, fun qa G2 H6 s6 nqa hqa hG2 eG2 => ?_⟩
    · have z := fo.mv (ndV x) (List.mem_of_getElem? hxm) m.2 (List.mem_map_of_mem hm)
      exact ⟨z.1, by rw [lF, ← lxs]; exact z.2.1⟩
    have eG3 : (G ++ G2).map (·.2) = picE md xs (i + 1) := by rw [List.map_append, eG, eG2, picE_succ hxm] <;> rfl
    refine ⟨el, qa, _, _, rfl, rfl, s6 _ _ hel5, hqa, ?_, ?_⟩
    · have z := congrArg List.length eG3
      have y := picE_le (md := md) (xs := xs) (show i + 1 ≤ NL.length by omega)
      rw [List.length_map, List.length_append] at z
      rw [refs_len, refs_len]
      omega
    have k6 := (Kp.of s6).trans (Kp.updL (s6 _ _ hel5) (.lst (refs G ++ refs G2)))
    refine ⟨G ++ G2, _, _, rfl, sameIn (s5.trans s6) elH, by rw [upd_ne fel]; exact s6 _ _ hF5, by rw [upd_same]; unfold refs; rw [List.map_append], fun u hu => ?_, eG3⟩
    rcases List.mem_append.mp hu with z | z
    · exact (hG5.kp k6) u z
    · exact (hG2.kp (Kp.updL (s6 _ _ hel5) _)) u z
  rintro σ H5 ⟨G, r7, r8, rfl, s5, hF5, hel, hG, eG⟩
  rw [refs_len] at eG
  refine VJ.nx ?_
  have lG : G.length ≤ 1000 := by
    have z := congrArg List.length eG
    rw [List.length_map] at z
    omega
  have b1 : 1 ≤ stI xs xs.length := by
    have hy : xs[0]? = some xs[0] := List.getElem?_eq_getElem (by omega)
    have y := stI_succ hy
    have z : stI xs (0 + 1) ≤ stI xs xs.length := stI_le (by omega)
    have w := stI_nn xs 0
    omega
  refine ⟨_, rfl, _, rfl, fun ys dx2 nx ndx ne => ?_⟩
  have sx := sameIn (o := .ins C dx2 []) (same_upd ndx (.own ys)) nx
  refine .inr (.inr ⟨ys, dx2, stI xs NL.length, el, G, rfl, upd_same, sx.seq (SqL.of hel), hG.kp (Kp.of sx), by rw [← lxs]; omega, by rw [← lxs]; omega, ⟨G.map (·.2), by rw [List.length_map]; omega, fun p hp => List.mem_map_of_mem hp⟩, lG, fun p hp => ?_, fun E1 H7 bx SA1 mem => ⟨rfl, ?_⟩⟩)
  · have z := picE_ok (md := md) fo p.2 (by rw [lxs, ← eG]; exact List.mem_map_of_mem hp)
    rw [lxs] at z
    exact z
  · exact q _ ys E1 H7 (s5.trans fun b o e => bx b o (ne_of_none e nx) (sx b o e)) SA1 fun e => by rw [mem, eG]
end
end LW

set_option Elab.async false
set_option linter.all false
set_option maxRecDepth 100000
set_option maxHeartbeats 400000
namespace LW
open PySem PySem.Spec PyProof.Rows L2 LamX NdefX VB VM VP VE VX
abbrev s__law_states_of : Stmt := top 43
theorem sc__law_states_of : FnScope ["node", "model"] ["node", "model"] (defScope s__law_states_of) := ⟨rfl, rfl, rfl, by decide +kernel, rfl, by decide +kernel, by decide +kernel⟩
abbrev s__law_drawn : Stmt := top 44
theorem sc__law_drawn : FnScope ["form", "model", "starts", "count", "node", "edges", "k", "moves", "offers", "lost", "action", "target", "j"] ["form", "model"] (defScope s__law_drawn) := ⟨rfl, rfl, rfl, by decide +kernel, rfl, by decide +kernel, by decide +kernel⟩
section
variable {P : Program} {w : World} {K : PySem.W.Frag} {mg : Str → Option Value} {base : Heap}
def spStOf (K : PySem.W.Frag) : Sp := fun vs H Q _ => ∃ (na ma oa : Addr) (M : List (Addr × Pr)) (O : List (Addr × List Str)) (b : Bool) (md : Str), vs = [.ref na, .str md] ∧ NodeAt K H na ma oa M O b ∧ (b = true ∨ md = "traces" → O = []) ∧ Q (.int (1 + (O.length : Nat))) H
theorem c_stOf (D : Df K mg "_law_states_of" s__law_states_of) (z_len : mg "len" = none) : C8.Cal P w K mg base 1 "_law_states_of" (spStOf K) [] := by
  refine D.cal sc__law_states_of (fun _ _ _ _ _ _ us hl => match us, hl with | [_, _], _ => rfl) (fun vs H Q E h => ?_) (fun f cdv A outer s0 H vs Q E hr h => ?_)
  · obtain ⟨_, _, _, _, _, _, _, rfl, _⟩ := h
    rfl
  obtain ⟨na, ma, oa, M, O, b, md, rfl, N, ho, q⟩ := h
  refine ⟨_, (pss_cons (ps_if (PW.pt (pw_or (pt_val (pe_ix (VK.ixT (K := K) rfl) (pv 0) pe_int (fun _ _ => rfl))) (pw_or1 (pt_cmpR op_eq (pv 1) pe_str (nomark _)))))
      (pss_one (ps_ret pe_int))
      pss_nil)
    (pss_one (ps_ret (pe_op op_add pe_int (pe_callB (VK.lenQ (K := K) rfl) (by rfl) z_len PySem.boot_len (pa_cons (pe_ix (VK.ixT (K := K) rfl) (pv 0) pe_int (fun _ _ => rfl)) pa_nil)))))), ?_⟩
  have zl := sizeLine_eq
  refine testJF (c := tOr _ _) (fun b' H' => H' = H ∧ (b' = true ↔ (b = true ∨ md = "traces"))) (fun Q' fin => ?_) (fun b' H' ⟨eH, hb⟩ => ?_)
  · refine ⟨_, rfl, na, _, _, .bl b, rfl, rfl, N.n, rfl, _, rfl, VUt.ite2b (fun c => fin _ _ ⟨rfl, fun _ => .inl c, fun _ => rfl⟩) (fun c => ?_)⟩
    refine ⟨_, rfl, rfl, _, rfl, fin _ _ ⟨rfl, ?_⟩⟩
    rw [decide_eq_true_eq]
    constructor
    · intro z
      exact .inr (by injection z)
    · rintro (z | z)
      · rw [z] at c; cases c
      · rw [z]
  subst H'
  refine VUt.ite2b (fun eb => ?_) (fun eb => ?_)
  · have e := ho (hb.mp eb)
    rw [e] at q
    exact q
  · refine VJ.nxT ?_
    refine ⟨_, rfl, na, _, _, .ref oa, rfl, rfl, N.n, rfl, oa, _, rfl, .inr N.o, _, _, rfl, rfl, ?_⟩
    rw [refs_len]
    exact q
def spDrawn (K : PySem.W.Frag) : Sp := fun vs H Q _ => ∃ (fa : Addr) (NL : List NR) (md : Str), vs = [.ref fa, .str md] ∧ SqT K H fa (refs NL) ∧ NdAll K H NL ∧ NL.length ≤ 100 ∧ (∀ x ∈ NL, x.2.2.2.1.length ≤ 100 ∧ x.2.2.2.2.1.length ≤ 100) ∧ FormOk (NL.map ndV) ∧
  (∀ x ∈ NL, x.2.2.2.2.2 = true ∨ md = "traces" → x.2.2.2.2.1 = []) ∧ (picE md (NL.map ndV) NL.length).length ≤ 1000 ∧
  ∀ (q el : Addr) (G : List (Addr × Ed)) (H' : Hp), Same H H' → H' q = some (.tup [.int (stI (NL.map ndV) NL.length), .ref el]) → H' el = some (.lst (refs G)) → Eds K H' G → G.map (·.2) = picE md (NL.map ndV) NL.length → Q (.ref q) H'
theorem c_drawn (D : Df K mg "_law_drawn" s__law_drawn) (z_len : mg "len" = none) (z_range : mg "range" = none) (c__law_states_of : C8.Cal P w K mg base 1 "_law_states_of" (spStOf K) []) : C8.Cal P w K mg base 2 "_law_drawn" (spDrawn K) [] := by
  refine D.cal sc__law_drawn (fun _ _ _ _ _ _ us hl => match us, hl with | [_, _], _ => rfl) (fun vs H Q E h => ?_) (fun f cdv A outer s0 H vs Q E hr h => ?_)
  · obtain ⟨_, _, _, rfl, _⟩ := h
    rfl
  obtain ⟨fa, NL, md, rfl, hfa, hN, lN, lMO, fo, hno, lp, q⟩ := h
  refine ⟨_, (pss_cons (ps_set (i := 2) sc__law_drawn.nd rfl (Or.inr rfl) (pe_lst pa_nil))
    (pss_cons (ps_set (i := 3) sc__law_drawn.nd rfl (Or.inl rfl) pe_int)
    (pss_cons (ps_for PassesOwn.never rfl (pi_tup (pv 0)) (pg_name (i := 4) sc__law_drawn.nd rfl (Or.inl rfl))
      (pss_cons (ps_expr (pe_bm PySem.F.plainAttrs_list PySem.F.slot_list_append PySem.F.type_list_append mt_append (pv 2) (pa_cons (pv 3) pa_nil)))
      (pss_one (ps_set (i := 3) sc__law_drawn.nd rfl (Or.inl rfl) (pe_op op_add (pv 3) (C8.pe_c c__law_states_of hr (by first | decide | omega) rfl (pa_cons (pv 4) (pa_cons (pv 1) pa_nil))))))))
    (pss_cons (ps_set (i := 5) sc__law_drawn.nd rfl (Or.inl rfl) (pe_lst pa_nil))
    (pss_cons (ps_for PassesOwn.never rfl (pi_range1 rfl z_range (pa_cons (pe_callB (VK.lenQ (K := K) rfl) (by rfl) z_len PySem.boot_len (pa_cons (pv 0) pa_nil)) pa_nil)) (pg_name (i := 6) sc__law_drawn.nd rfl (Or.inr rfl))
      (pss_cons (ps_asg (pe_ix (VK.ixT (K := K) rfl) (pv 0) (pv 6) (fun _ _ => rfl)) (pg_tup rfl (pgs_cons (pg_name (i := 7) sc__law_drawn.nd rfl (Or.inl rfl)) (pgs_cons (pg_name (i := 8) sc__law_drawn.nd rfl (Or.inr rfl)) (pgs_cons (pg_name (i := 9) sc__law_drawn.nd rfl (Or.inl rfl)) pgs_nil)))))
      (pss_cons (ps_for PassesOwn.never rfl (pi_tup (pv 7)) (pg_tup rfl (pgs_cons (pg_name (i := 10) sc__law_drawn.nd rfl (Or.inl rfl)) (pgs_cons (pg_name (i := 11) sc__law_drawn.nd rfl (Or.inl rfl)) pgs_nil)))
        (pss_one (ps_expr (pe_bm PySem.F.plainAttrs_list PySem.F.slot_list_append PySem.F.type_list_append mt_append (pv 5) (pa_cons (pe_tup (pa_cons (pe_ix (VK.ixL (K := K) rfl) (pv 2) (pv 6) (fun _ _ => rfl)) (pa_cons (pv 10) (pa_cons (pe_ix (VK.ixL (K := K) rfl) (pv 2) (pv 11) (fun _ _ => rfl)) pa_nil)))) pa_nil)))))
      (pss_cons (ps_if (PW.pt (pw_or (pt_val (pv 9)) (pw_or1 (PW.pt (pw_and (pt_cmpR op_ne (pv 1) pe_str (nomark _)) (pw_and1 (pt_cmpR op_eq (pe_callB (VK.lenQ (K := K) rfl) (by rfl) z_len PySem.boot_len (pa_cons (pv 8) pa_nil)) pe_int (nomark _))))))))
        (pss_one (ps_expr (pe_bm PySem.F.plainAttrs_list PySem.F.slot_list_append PySem.F.type_list_append mt_append (pv 5) (pa_cons (pe_tup (pa_cons (pe_ix (VK.ixL (K := K) rfl) (pv 2) (pv 6) (fun _ _ => rfl)) (pa_cons pe_str (pa_cons (pe_ix (VK.ixL (K := K) rfl) (pv 2) (pv 6) (fun _ _ => rfl)) pa_nil)))) pa_nil))))
        pss_nil)
      (pss_one (ps_for PassesOwn.never rfl (pi_range1 rfl z_range (pa_cons (pe_callB (VK.lenQ (K := K) rfl) (by rfl) z_len PySem.boot_len (pa_cons (pv 8) pa_nil)) pa_nil)) (pg_name (i := 12) sc__law_drawn.nd rfl (Or.inr rfl))
        (pss_cons (ps_expr (pe_bm PySem.F.plainAttrs_list PySem.F.slot_list_append PySem.F.type_list_append mt_append (pv 5) (pa_cons (pe_tup (pa_cons (pe_ix (VK.ixL (K := K) rfl) (pv 2) (pv 6) (fun _ _ => rfl)) (pa_cons pe_str (pa_cons (pe_op op_add (pe_op op_add (pe_ix (VK.ixL (K := K) rfl) (pv 2) (pv 6) (fun _ _ => rfl)) pe_int) (pv 12)) pa_nil)))) pa_nil)))
        (pss_one (ps_set (i := 5) sc__law_drawn.nd rfl (Or.inl rfl) (pe_op op_cat (pv 5) (pe_lc (own := [("action", 10), ("target", 11)]) (g := gTup K 2 (gCons (gName 10) (gCons (gName 11) gNil))) rfl sc__law_drawn.nd (pi_tup (pv 7)) (blkOk_by (N := ["form", "model", "starts", "count", "node", "edges", "k", "moves", "offers", "lost", "action", "target", "j"]) (sc := defScope s__law_drawn) (by decide +kernel)) (fun _ _ _ _ _ => (pg_tup rfl (pgs_cons (pg_name (i := 10) sc__law_drawn.nd rfl (Or.inl rfl) (hf := Or.inr rfl)) (pgs_cons (pg_name (i := 11) sc__law_drawn.nd rfl (Or.inl rfl) (hf := Or.inr rfl)) pgs_nil)))) (fun _ _ _ _ _ => (pts_one (pt_cmpR (VK.inQ (K := K) rfl) (pv 10) (pe_ix (VK.ixT (K := K) rfl) (pv 8) (pv 12) (fun _ _ => rfl)) rfl))) (fun _ _ _ _ _ => (pe_tup (pa_cons (pe_op op_add (pe_op op_add (pe_ix (VK.ixL (K := K) rfl) (pv 2) (pv 6) (fun _ _ => rfl)) pe_int) (pv 12)) (pa_cons (pv 10) (pa_cons (pe_ix (VK.ixL (K := K) rfl) (pv 2) (pv 11) (fun _ _ => rfl)) pa_nil))))))))))))))))
    (pss_one (ps_ret (pe_tup (pa_cons (pv 3) (pa_cons (pv 5) pa_nil)))))))))), ?_⟩
  have zl := sizeLine_eq
  refine ⟨Nat.zero_le _, fun sl nsl => ?_⟩
  have s2 := same_upd nsl (.lst [])
  have hsl0 : upd H sl (.lst []) sl = some (.lst []) := upd_same
  have slH : H sl = none := nsl
  generalize upd H sl (.lst []) = H2 at s2 hsl0 ⊢
  clear nsl
  refine VJ.nmS ?_
  refine VJ.nmS ?_
  obtain ⟨xs, exs⟩ : ∃ xs, xs = NL.map ndV := ⟨_, rfl⟩
  have lxs : xs.length = NL.length := by rw [exs, List.length_map]
  rw [← exs] at fo lp q
  refine ⟨_, rfl, fa, rfl, ⟨_, VB.Same.sqT s2 hfa⟩, for_tup (K := K) (a := fa) (xs := refs NL)
    (fun i σ H' => ∃ (r4 : Option V), σ = [some (.ref fa), some (.str md), some (.ref sl), some (.int (stI xs i)), r4, none, none, none, none, none, none, none, none] ∧ Same H H' ∧ H' sl = some (.lst (((List.range i).map fun j => stI xs j).map V.int)))
    ⟨none, rfl, s2, hsl0⟩ (fun i σ H' _ ⟨_, _, z, _⟩ => VB.Same.sqT z hfa) ?_ ?_⟩
  · rintro i v σ H3 hv ⟨r4, rfl, s3, hsl⟩
    obtain ⟨x, hx, rfl⟩ := refs_at hv
    have xin := List.mem_of_getElem? hx
    have lti : i < NL.length := (List.getElem?_eq_some_iff.mp hx).1
    have hxm : xs[i]? = some (ndV x) := by rw [exs, List.getElem?_map, hx] <;> rfl
    refine VJ.nm ?_
    refine ⟨_, rfl, .inl ⟨rfl, _, SqL.of hsl⟩, _, rfl, sl, _, _, rfl, rfl, hsl, by rw [List.length_map, List.length_map, List.length_range]; omega, ?_⟩
    have s4 : Same H (upd H3 sl (.lst (((List.range i).map fun j => stI xs j).map V.int ++ [.int (stI xs i)]))) := sameIn s3 slH
    have hsl4 : upd H3 sl (.lst (((List.range i).map fun j => stI xs j).map V.int ++ [.int (stI xs i)])) sl = some (.lst (((List.range (i + 1)).map fun j => stI xs j).map V.int)) := by rw [upd_same, List.range_succ, List.map_append, List.map_append] <;> rfl
    generalize upd H3 sl (.lst (((List.range i).map fun j => stI xs j).map V.int ++ [.int (stI xs i)])) = H4 at s4 hsl4 ⊢
    refine ⟨_, rfl, _, rfl, _, rfl, x.1, x.2.1, x.2.2.1, x.2.2.2.1, x.2.2.2.2.1, x.2.2.2.2.2, md, rfl, (hN x xin).same s4, hno x xin, _, _, rfl, rfl, ?_⟩
    refine VJ.nm ⟨some (.ref x.1), ?_, s4, hsl4⟩
    rw [stI_succ hxm]
    unfold ndV
    rw [List.length_map] <;> rfl
  rintro σ H3 ⟨r4, rfl, s3, hsl⟩
  rw [refs_len, ← lxs] at hsl
  rw [refs_len]
  have hF : H3 sl = some (.lst ((firsts xs).map V.int)) := hsl
  refine VJ.nx ?_
  refine ⟨Nat.zero_le _, fun el0 nel => ?_⟩
  have u4 := same_upd nel (.lst [])
  have hel0 : upd H3 el0 (.lst []) el0 = some (.lst []) := upd_same
  have elH0 : H el0 = none := s3.free nel
  have s4 := s3.trans u4
  have hF4 := u4 _ _ hF
  have fel0 : sl ≠ el0 := ne_of_none hF nel
  generalize upd H3 el0 (.lst []) = H4 at s4 hel0 hF4 ⊢
  clear u4 nel s3 hsl hF s2 hsl0
  refine VJ.nmS ?_
  obtain ⟨fs, efs⟩ : ∃ fs, fs = fsOf (firsts xs) := ⟨_, rfl⟩
  have lF : (firsts xs).length = NL.length := by unfold firsts; rw [List.length_map, List.length_range, lxs]
  refine ⟨_, rfl, fa, _, rfl, .inr (VB.Same.sqT s4 hfa), (NL.length : Nat), by rw [refs_len], by omega, by omega, for_range (lo := 0) (n := NL.length)
    (fun k σ H' => ∃ (el : Addr) (G : List (Addr × Ed)) (r6 r7 r8 r9 r10 r11 r12 : Option V), σ = [some (.ref fa), some (.str md), some (.ref sl), some (.int (stI xs NL.length)), r4, some (.ref el), r6, r7, r8, r9, r10, r11, r12] ∧ Same H H' ∧ H' sl = some (.lst ((firsts xs).map V.int)) ∧ H el = none ∧ sl ≠ el ∧ H' el = some (.lst (refs G)) ∧ Eds K H' G ∧ G.map (·.2) = picE md xs k)
    ⟨el0, [], none, none, none, none, none, none, none, rfl, s4, hF4, elH0, fel0, hel0, fun z hz => absurd hz List.not_mem_nil, rfl⟩ ?_ ?_⟩
  · clear hF4 hel0 s4 H4 elH0 fel0
    rintro k σ H4 hk ⟨el, G, r6, r7, r8, r9, r10, r11, r12, rfl, s4, hF4, elH, fel, hel, hG, eG⟩
    obtain ⟨x, hx⟩ : ∃ x, NL[k]? = some x := ⟨_, List.getElem?_eq_getElem hk⟩
    have xin := List.mem_of_getElem? hx
    have hxm : xs[k]? = some (ndV x) := by rw [exs, List.getElem?_map, hx] <;> rfl
    have N := hN x xin
    obtain ⟨lM, lO⟩ := lMO x xin
    obtain ⟨na, ma, oa, M, O, b⟩ := x
    have lG : G.length ≤ 1000 := by
      have z := congrArg List.length eG
      have y := picE_le (md := md) (xs := xs) (show k ≤ NL.length by omega)
      rw [List.length_map] at z
      omega
    obtain ⟨S, eS⟩ : ∃ S, S = stI xs k := ⟨_, rfl⟩
    have fi : atI ((firsts xs).map V.int) (0 + (k : Nat)) = some (.int S) := by
      rw [Int.zero_add, eS]
      exact atI_nat (by unfold firsts; rw [List.getElem?_map, List.getElem?_map, List.getElem?_range (by omega)] <;> rfl)
    have hfs : ∀ y ∈ M, atI ((firsts xs).map V.int) y.2.2 = some (.int (fs y.2.2)) := fun y hy => by
      have z := fo.mv _ (List.mem_of_getElem? hxm) y.2 (List.mem_map_of_mem hy)
      rw [efs]
      exact fs_at z.1 (by rw [lF, ← lxs]; exact z.2.1)
    have hat : atI (refs NL) ((0 : Int) + (k : Nat)) = some (.ref na) := by
      rw [Int.zero_add]
      exact atI_nat (by unfold refs; rw [List.getElem?_map, hx] <;> rfl)
    refine ⟨_, rfl, _, rfl, fa, _, _, _, rfl, rfl, VB.Same.sqT s4 hfa, hat, na, _, rfl, VB.Same.sqT s4 N.n, rfl, .ref ma, _, rfl, .ref oa, _, rfl, .bl b, _, rfl, rfl, ?_⟩
    have N : NodeAt K H na ma oa M O b := N
    have lM : M.length ≤ 100 := lM
    have lO : O.length ≤ 100 := lO
    have eD : picE md xs (k + 1) = picE md xs k ++ nodeE md S fs (M.map (·.2), O.map (·.2), b) := by rw [picE_succ hxm, eS, efs] <;> rfl
    refine VJ.nx ?_
    refine ⟨_, rfl, ma, rfl, ⟨_, VB.Same.sqT s4 N.m⟩, for_tup (K := K) (a := ma) (xs := refs M)
      (fun i σ H' => ∃ (G' : List (Addr × Ed)) (r10 r11 : Option V), σ = [some (.ref fa), some (.str md), some (.ref sl), some (.int (stI xs NL.length)), r4, some (.ref el), some (.int ((0 : Int) + (k : Nat))), some (.ref ma), some (.ref oa), some (.bl b), r10, r11, r12] ∧ Same H H' ∧ H' sl = some (.lst ((firsts xs).map V.int)) ∧ H' el = some (.lst (refs G')) ∧ Eds K H' G' ∧ G'.length ≤ 1000 + i ∧ G'.map (·.2) = picE md xs k ++ (M.take i).map fun y => (S, y.2.1, fs y.2.2))
      ⟨G, r10, r11, rfl, s4, hF4, hel, hG, by omega, by rw [eG]; exact (List.append_nil _).symm⟩ (fun i σ H' _ ⟨_, _, _, _, z, _⟩ => VB.Same.sqT z N.m) ?_ ?_⟩
    · clear hF4 s4 hel hG eG lG r10 r11 G
      rintro i v σ H5 hv ⟨G, r10, r11, rfl, s4, hF4, hel, hG, lG, eG⟩
      obtain ⟨y, hy, rfl⟩ := refs_at hv
      have yin := List.mem_of_getElem? hy
      have lti : i < M.length := (List.getElem?_eq_some_iff.mp hy).1
      refine ⟨y.1, _, rfl, N.me.kp (Kp.of s4) y yin, rfl, .str y.2.1, _, rfl, .int y.2.2, _, rfl, rfl, ?_⟩
      refine ⟨_, rfl, .inl ⟨rfl, _, SqL.of hel⟩, _, rfl, _, rfl, sl, _, _, .int S, rfl, rfl, SqL.of hF4, fi, _, rfl, _, rfl, _, rfl, sl, _, _, .int (fs y.2.2), rfl, rfl, SqL.of hF4, hfs y yin, (by show 3 ≤ sizeLine; omega), fun tp ntp => ?_⟩
      have s6 := same_upd ntp (.tup [.int S, .str y.2.1, .int (fs y.2.2)])
      have hD6 := s6 _ _ hel
      have tpD : tp ≠ el := fun z => by rw [z, hel] at ntp; cases ntp
      refine ⟨el, _, _, rfl, rfl, hD6, by rw [refs_len]; omega, ?_⟩
      refine ⟨G ++ [(tp, (S, y.2.1, fs y.2.2))], _, _, rfl, sameIn (s4.trans s6) elH, by rw [upd_ne fel]; exact s6 _ _ hF4, by rw [upd_same, refs_snoc], fun u hu => ?_, by rw [List.length_append, List.length_singleton]; omega, ?_⟩
      · rcases List.mem_append.mp hu with z | z
        · exact (hG.kp ((Kp.of s6).trans (Kp.updL hD6 _))) u z
        · rw [List.mem_singleton.mp z]
          exact .inl (.inl (by rw [upd_ne tpD]; exact upd_same))
      · rw [List.map_append, eG, List.take_succ, hy, List.map_append, List.append_assoc] <;> rfl
    clear hF4 s4 hel hG eG lG r10 r11 G H4
    rintro σ H4 ⟨G, r10, r11, rfl, s4, hF4, hel, hG, lG, eG⟩
    rw [refs_len] at eG lG
    rw [List.take_length] at eG
    refine VJ.nx ?_
    refine VJ.seqJ (fun σ H' => ∃ R2 : List (Addr × Ed), σ = [some (.ref fa), some (.str md), some (.ref sl), some (.int (stI xs NL.length)), r4, some (.ref el), some (.int ((0 : Int) + (k : Nat))), some (.ref ma), some (.ref oa), some (.bl b), r10, r11, r12] ∧ Same H H' ∧ H' sl = some (.lst ((firsts xs).map V.int)) ∧ H' el = some (.lst (refs R2)) ∧ Eds K H' R2 ∧ R2.length ≤ 1101 ∧
      R2.map (·.2) = (picE md xs k ++ M.map fun y => (S, y.2.1, fs y.2.2)) ++ (if b = true ∨ (md ≠ "traces" ∧ O.map (·.2) = []) then [(S, ("tau" : Str), S)] else [])) (fun N' hN => ?_) ?_
    · refine testJF (c := tOr _ _) (fun b' H' => H' = H4 ∧ (b' = true ↔ (b = true ∨ (md ≠ "traces" ∧ O.map (·.2) = [])))) (fun Q' fin => ?_) (fun b' H' ⟨eH, hb⟩ => ?_)
      · refine ⟨_, rfl, _, rfl, VUt.ite2b (fun c => fin _ _ ⟨rfl, fun _ => .inl c, fun _ => rfl⟩) (fun c => ?_)⟩
        refine ⟨_, rfl, rfl, _, rfl, VUt.ite2b (fun c2 => ?_) (fun c2 => fin _ _ ⟨rfl, fun z => (by cases z), fun z => z.elim (fun y => by rw [y] at c; cases c) fun y => absurd (by simpa using c2) y.1⟩)⟩
        have c2 : md ≠ "traces" := by simpa using c2
        refine ⟨_, rfl, oa, _, rfl, .inr (VB.Same.sqT s4 N.o), rfl, _, rfl, fin _ _ ⟨rfl, ?_⟩⟩
        rw [refs_len, decide_eq_true_eq]
        constructor
        · intro z
          have z : ((O.length : Nat) : Int) = 0 := by injection z
          exact .inr ⟨c2, by rw [List.length_eq_zero_iff.mp (show O.length = 0 by omega)] <;> rfl⟩
        · rintro (z | ⟨_, z⟩)
          · rw [z] at c; cases c
          · have y := congrArg List.length z
            rw [List.length_map] at y
            rw [y] <;> rfl
      subst H'
      refine VUt.ite2b (fun eb => ?_) (fun eb => ?_)
      · refine ⟨_, rfl, .inl ⟨rfl, _, SqL.of hel⟩, _, rfl, _, rfl, sl, _, _, .int S, rfl, rfl, SqL.of hF4, fi, _, rfl, _, rfl, sl, _, _, .int S, rfl, rfl, SqL.of hF4, fi, (by show 3 ≤ sizeLine; omega), fun tp ntp => ?_⟩
        have s6 := same_upd ntp (.tup [.int S, .str "tau", .int S])
        have hD6 := s6 _ _ hel
        have tpD : tp ≠ el := fun z => by rw [z, hel] at ntp; cases ntp
        refine ⟨el, _, _, rfl, rfl, hD6, by rw [refs_len]; omega, hN _ _ ⟨G ++ [(tp, (S, ("tau" : Str), S))], rfl, sameIn (s4.trans s6) elH, by rw [upd_ne fel]; exact s6 _ _ hF4, by rw [upd_same, refs_snoc], fun u hu => ?_, by rw [List.length_append, List.length_singleton]; omega, ?_⟩⟩
        · rcases List.mem_append.mp hu with z | z
          · exact (hG.kp ((Kp.of s6).trans (Kp.updL hD6 _))) u z
          · rw [List.mem_singleton.mp z]
            exact .inl (.inl (by rw [upd_ne tpD]; exact upd_same))
        · rw [List.map_append, eG, if_pos (hb.mp eb)] <;> rfl
      · exact hN _ _ ⟨G, rfl, s4, hF4, hel, hG, by omega, by rw [eG, if_neg (fun z => by rw [hb.mpr z] at eb; cases eb), List.append_nil]⟩
    clear hF4 s4 hel hG eG lG G H4
    rintro σ H4 ⟨G, rfl, s4, hF4, hel, hG, lG, eG⟩
    obtain ⟨pre, epre⟩ : ∃ pre, pre = (picE md xs k ++ M.map fun y => (S, y.2.1, fs y.2.2)) ++ (if b = true ∨ (md ≠ "traces" ∧ O.map (·.2) = []) then [(S, ("tau" : Str), S)] else []) := ⟨_, rfl⟩
    rw [← epre] at eG
    refine ⟨_, rfl, oa, _, rfl, .inr (VB.Same.sqT s4 N.o), (O.length : Nat), by rw [refs_len], by omega, by omega, for_range (lo := 0) (n := O.length)
      (fun j σ H' => ∃ (el : Addr) (G : List (Addr × Ed)) (r12 : Option V), σ = [some (.ref fa), some (.str md), some (.ref sl), some (.int (stI xs NL.length)), r4, some (.ref el), some (.int ((0 : Int) + (k : Nat))), some (.ref ma), some (.ref oa), some (.bl b), r10, r11, r12] ∧ Same H H' ∧ H' sl = some (.lst ((firsts xs).map V.int)) ∧ H el = none ∧ sl ≠ el ∧ H' el = some (.lst (refs G)) ∧ Eds K H' G ∧ G.length ≤ 1101 + j * 101 ∧ G.map (·.2) = pre ++ offsE S fs (M.map (·.2)) (O.map (·.2)) j)
      ⟨el, G, r12, rfl, s4, hF4, elH, fel, hel, hG, by omega, by rw [eG]; exact (List.append_nil _).symm⟩ ?_ ?_⟩
    · clear hF4 s4 hel hG eG lG G H4 elH fel el
      rintro j σ H4 hj ⟨el, G, r12, rfl, s4, hF4, elH, fel, hel, hG, lG, eG⟩
      obtain ⟨r, hr⟩ : ∃ r, O[j]? = some r := ⟨_, List.getElem?_eq_getElem hj⟩
      have rin := List.mem_of_getElem? hr
      have hrm : (O.map (·.2))[j]? = some r.2 := by rw [List.getElem?_map, hr] <;> rfl
      have hatO : atI (refs O) ((j : Nat) : Int) = some (.ref r.1) := atI_nat (by unfold refs; rw [List.getElem?_map, hr] <;> rfl)
      rw [show (0 : Int) + (j : Nat) = (j : Nat) from Int.zero_add _]
      refine VJ.nm ?_
      refine ⟨_, rfl, .inl ⟨rfl, _, SqL.of hel⟩, _, rfl, _, rfl, sl, _, _, .int S, rfl, rfl, SqL.of hF4, fi, _, rfl, _, rfl, sl, _, _, .int S, rfl, rfl, SqL.of hF4, fi, _, _, rfl, rfl, _, rfl, _, _, rfl, rfl, (by show 3 ≤ sizeLine; omega), fun tp ntp => ?_⟩
      have u4 := same_upd ntp (.tup [.int S, .str "tau", .int (S + 1 + (j : Nat))])
      have hD4 := u4 _ _ hel
      have tpD : tp ≠ el := fun z => by rw [z, hel] at ntp; cases ntp
      refine ⟨el, _, _, rfl, rfl, hD4, by rw [refs_len]; omega, ?_⟩
      have k4 := (Kp.of u4).trans (Kp.updL hD4 (.lst (refs G ++ [.ref tp])))
      have hR5 : Eds K (upd (upd H4 tp (.tup [.int S, .str "tau", .int (S + 1 + (j : Nat))])) el (.lst (refs G ++ [.ref tp]))) (G ++ [(tp, (S, ("tau" : Str), S + 1 + ((j : Nat) : Int)))]) := fun u hu => by
        rcases List.mem_append.mp hu with z | z
        · exact (hG.kp k4) u z
        · rw [List.mem_singleton.mp z]
          exact .inl (.inl (by rw [upd_ne tpD]; exact upd_same))
      have s5 : Same H (upd (upd H4 tp (.tup [.int S, .str "tau", .int (S + 1 + (j : Nat))])) el (.lst (refs G ++ [.ref tp]))) := sameIn (s4.trans u4) elH
      have hD5 : upd (upd H4 tp (.tup [.int S, .str "tau", .int (S + 1 + (j : Nat))])) el (.lst (refs G ++ [.ref tp])) el = some (.lst (refs (G ++ [(tp, (S, ("tau" : Str), S + 1 + ((j : Nat) : Int)))]))) := by rw [upd_same, refs_snoc]
      have hF5 : upd (upd H4 tp (.tup [.int S, .str "tau", .int (S + 1 + (j : Nat))])) el (.lst (refs G ++ [.ref tp])) sl = some (.lst ((firsts xs).map V.int)) := by rw [upd_ne fel]; exact u4 _ _ hF4
      generalize upd (upd H4 tp (.tup [.int S, .str "tau", .int (S + 1 + (j : Nat))])) el (.lst (refs G ++ [.ref tp])) = H5 at s5 hD5 hR5 hF5 ⊢
      clear s4 u4 hD4 hG k4 ntp tpD hF4 hel
      refine ⟨_, rfl, _, rfl, ma, rfl, ⟨_, VB.Same.sqT s5 N.m⟩, fun D2 nD2 => lc_tup (K := K) (a := ma) (xs := refs M) (fun i H' => ∃ R3 : List (Addr × Ed), Same H5 H' ∧ H' D2 = some (.lst (refs R3)) ∧ Eds K H' R3 ∧ R3.length ≤ i ∧ R3.map (·.2) = (((M.map (·.2)).take i).filter fun m => decide (m.1 ∈ r.2)).map fun m => (S + 1 + (j : Nat), m.1, fs m.2))
        ⟨[], same_upd nD2 _, upd_same, fun z hz => absurd hz List.not_mem_nil, Nat.le_refl _, rfl⟩ (fun i H4 _ ⟨_, z, _⟩ => VB.Same.sqT (s5.trans z) N.m) ?_ ?_⟩
      · rintro i v H' hv2 ⟨R3, s6, hD, hR3, lR3, eR3⟩
        obtain ⟨y, hy, rfl⟩ := refs_at hv2
        have yin := List.mem_of_getElem? hy
        have ltj : i < M.length := (List.getElem?_eq_some_iff.mp hy).1
        have tkM : (M.map (·.2)).take (i + 1) = (M.map (·.2)).take i ++ [y.2] := by rw [List.take_succ, List.getElem?_map, hy] <;> rfl
        have s56 := s5.trans s6
        have hF6 := s6 _ _ hF5
        refine ⟨y.1, _, rfl, N.me.kp (Kp.of s56) y yin, rfl, .str y.2.1, _, rfl, .int y.2.2, _, rfl, rfl, ?_⟩
        refine ⟨rfl, ?_⟩
        refine ⟨_, rfl, _, rfl, _, rfl, oa, _, _, .ref r.1, rfl, rfl, VB.Same.sqT s56 N.o, hatO, r.1, _, rfl, .inr (VB.Same.sqT s56 (N.oe r rin)), rfl, VJ.flatS _, _, rfl, ?_⟩
        rw [inV_strs, if_neg (by decide)]
        refine VUt.ite2b (fun c => ?_) (fun c => ?_)
        · refine ⟨_, rfl, _, rfl, sl, _, _, .int S, rfl, rfl, SqL.of hF6, fi, _, _, rfl, rfl, _, rfl, _, _, rfl, rfl, _, rfl, _, rfl, _, rfl, sl, _, _, .int (fs y.2.2), rfl, rfl, SqL.of hF6, hfs y yin, (by show 3 ≤ sizeLine; omega), fun tp ntp => ?_⟩
          have s7 := same_upd ntp (.tup [.int (S + 1 + (j : Nat)), .str y.2.1, .int (fs y.2.2)])
          have hD7 := s7 _ _ hD
          have tpD : tp ≠ D2 := fun z => by rw [z, hD] at ntp; cases ntp
          refine ⟨_, hD7, by rw [refs_len]; omega, R3 ++ [(tp, (S + 1 + ((j : Nat) : Int), y.2.1, fs y.2.2))], sameIn (s6.trans s7) nD2, by rw [upd_same, refs_snoc], fun u hu => ?_, by rw [List.length_append, List.length_singleton]; omega, ?_⟩
          · rcases List.mem_append.mp hu with z | z
            · exact (hR3.kp ((Kp.of s7).trans (Kp.updL hD7 _))) u z
            · rw [List.mem_singleton.mp z]
              exact .inl (.inl (by rw [upd_ne tpD]; exact upd_same))
          · rw [List.map_append, eR3, tkM, List.filter_append, List.filter_cons_of_pos (p := fun m : Pr => decide (m.1 ∈ r.2)) c, List.filter_nil, List.map_append] <;> rfl
        · refine ⟨R3, s6, hD, hR3, by omega, ?_⟩
          rw [eR3, tkM, List.filter_append, List.filter_cons_of_neg (p := fun m : Pr => decide (m.1 ∈ r.2)) (by rw [c]; decide), List.filter_nil, List.append_nil]
      rintro H6 ⟨R3, s6, hD6, hR3, lR3, eR3⟩
      rw [refs_len] at lR3 eR3
      rw [List.take_of_length_le (by rw [List.length_map]; exact Nat.le_refl _)] at eR3
      refine ⟨el, D2, _, _, rfl, rfl, s6 _ _ hD5, hD6, by rw [refs_len, refs_len, List.length_append, List.length_singleton]; omega, fun g ng => ?_⟩
      have s7 := same_upd ng (.lst (refs (G ++ [(tp, (S, ("tau" : Str), S + 1 + ((j : Nat) : Int)))]) ++ refs R3))
      have s67 := s6.trans s7
      refine VJ.nm ⟨g, (G ++ [(tp, (S, ("tau" : Str), S + 1 + ((j : Nat) : Int)))]) ++ R3, _, rfl, s5.trans s67, s67 _ _ hF5, (s5.trans s6).free ng, fun z => ?_, by rw [upd_same]; unfold refs; rw [List.map_append (l₁ := G ++ _)], fun u hu => ?_, by rw [List.length_append, List.length_append, List.length_singleton]; omega, ?_⟩
      · rw [← z, s6 _ _ hF5] at ng; cases ng
      · rcases List.mem_append.mp hu with z | z
        · exact (hR5.kp (Kp.of s67)) u z
        · exact (hR3.kp (Kp.of s7)) u z
      · rw [List.map_append, List.map_append, eG, eR3, offsE_succ hrm, List.append_assoc, List.append_assoc] <;> rfl
    rintro σ H5 ⟨el, G, r12, rfl, s5, hF5, elH, fel, hel, hG, lG, eG⟩
    refine ⟨el, G, _, _, _, _, _, _, _, rfl, s5, hF5, elH, fel, hel, hG, ?_⟩
    rw [eG, epre, eD]
    unfold nodeE
    rw [List.map_map, List.length_map, List.append_assoc, List.append_assoc, List.append_assoc] <;> rfl
  · rintro σ H4 ⟨el, G, r6, r7, r8, r9, r10, r11, r12, rfl, s4, hF4, elH, fel, hel, hG, eG⟩
    refine VJ.nx ?_
    refine ⟨_, rfl, _, rfl, (by show 2 ≤ sizeLine; omega), fun qq nqq => ?_⟩
    have u := same_upd nqq (.tup [.int (stI xs NL.length), .ref el])
    exact q qq el G _ (s4.trans u) upd_same (u _ _ hel) (hG.kp (Kp.of u)) eG
end
end LW

set_option Elab.async false
set_option linter.all false
set_option maxRecDepth 100000
set_option maxHeartbeats 400000
namespace LW
open PySem PySem.Spec PyProof.Rows L2 LamX NdefX VB VM VP VE VX VY VF
abbrev s__law_least : Stmt := top 39
theorem sc__law_least : FnScope ["offers", "found", "own", "other"] ["offers"] (defScope s__law_least) := ⟨rfl, rfl, rfl, by decide +kernel, rfl, by decide +kernel, by decide +kernel⟩
abbrev s__law_open : Stmt := top 38
theorem sc__law_open : FnScope ["q", "model", "states"] ["q", "model", "states"] (defScope s__law_open) := ⟨rfl, rfl, rfl, by decide +kernel, rfl, by decide +kernel, by decide +kernel⟩
abbrev s__law_unknown : Stmt := top 45
theorem sc__law_unknown : FnScope ["form", "e"] ["form"] (defScope s__law_unknown) := ⟨rfl, rfl, rfl, by decide +kernel, rfl, by decide +kernel, by decide +kernel⟩
section
variable {P : Program} {w : World} {K : PySem.W.Frag} {mg : Str → Option Value} {base : Heap}
/-- a tuple of texts as data -/
def txD (ss : List Str) : PyData := .tuple (ss.map PyData.str)
theorem txDp {H : Hp} {a : Addr} {ss : List Str} (h : SqT K H a (ss.map V.str)) : Dp K H (.ref a) (txD ss) := .tup h (VB.dpAll_strs ss)
theorem tx_can {xs : List Str} (h : ∀ x ∈ xs, PyData.strOk x = true) : PyData.canLayAll0 (xs.map PyData.str) = true := by
  induction xs with
  | nil => rfl
  | cons x xs ih => simp [PyData.canLayAll0, PyData.canLay0, h x List.mem_cons_self, ih fun y hy => h y (List.mem_cons_of_mem _ hy)]
theorem tx_dep (xs : List Str) : PyData.depthAll (xs.map PyData.str) ≤ 10 := by
  induction xs with
  | nil => exact Nat.zero_le _
  | cons x xs ih =>
    rw [List.map_cons]
    unfold PyData.depthAll
    unfold PyData.depth
    omega
theorem txShaped {ss : List Str} (h : ∀ x ∈ ss, x ∈ acts) : SeqAt.shaped (txD ss) = true := by
  unfold SeqAt.shaped txD
  rw [show (PyData.tuple (ss.map PyData.str)).canLay0 = PyData.canLayAll0 (ss.map PyData.str) by rw [PyData.canLay0], tx_can fun x hx => (acts_ok x (h x hx)).1, Bool.true_and, decide_eq_true_eq]
  have := tx_dep ss
  unfold PyData.depth
  omega
def spLeast (K : PySem.W.Frag) : Sp := fun vs H Q _ => ∃ (a : Addr) (O : List (Addr × List Str)), vs = [.ref a] ∧ SqL K H a (refs O) ∧ (∀ x ∈ O, SqT K H x.1 (x.2.map V.str)) ∧ O.length ≤ 100 ∧ (∀ x ∈ O, x.2.length ≤ 100 ∧ ∀ t ∈ x.2, t ∈ acts) ∧
  ∀ (q : Addr) (O' : List (Addr × List Str)) (H' : Hp), Same H H' → H' q = some (.tup (refs O')) → (∀ x ∈ O', x ∈ O) → O'.length ≤ O.length → Q (.ref q) H'
theorem c_least (D : Df K mg "_law_least" s__law_least) (z_any : mg "any" = none) (z_tuple : mg "tuple" = none) (c__law_part_of : C8.Cal P w K mg base 1 "_law_part_of" (spPart K) []) : C8.Cal P w K mg base 2 "_law_least" (spLeast K) [] := by
  refine D.cal sc__law_least (fun _ _ _ _ _ _ us hl => match us, hl with | [_], _ => rfl) (fun vs H Q E h => ?_) (fun f cdv A outer s0 H vs Q E hr h => ?_)
  · obtain ⟨_, _, rfl, _⟩ := h
    rfl
  obtain ⟨a, O, rfl, ha, hO, lO, lx, q⟩ := h
  refine ⟨_, (pss_cons (ps_set (i := 1) sc__law_least.nd rfl (Or.inl rfl) (pe_lst pa_nil))
    (pss_cons (ps_for PassesOwn.never rfl (pi_list (pv 0)) (pg_name (i := 2) sc__law_least.nd rfl (Or.inr rfl))
      (pss_one (ps_if (pt_not (pt_val (pe_callB (VKA.anyL (K := K) rfl rfl) (by rfl) z_any (by decide +kernel) (pa_cons (pe_lc (own := [("other", 3)]) (tt := tYes) rfl sc__law_least.nd (pi_list (pv 0)) (blkOk_by (N := ["offers", "found", "own", "other"]) (sc := defScope s__law_least) (by decide +kernel)) (fun _ _ _ _ _ => (pg_name (i := 3) sc__law_least.nd rfl (Or.inl rfl) (hf := Or.inr rfl))) (fun _ _ _ _ _ => pts_nil) (fun _ _ _ _ _ => (pe_and (pe_cmpR (VK.neD (K := K) rfl hr.units) (pv 3) (pv 2) (nomark _)) (pe_one (C8.pe_c c__law_part_of hr (by first | decide | omega) rfl (pa_cons (pv 3) (pa_cons (pv 2) pa_nil))))))) pa_nil))))
        (pss_one (ps_expr (pe_bm PySem.F.plainAttrs_list PySem.F.slot_list_append PySem.F.type_list_append mt_append (pv 1) (pa_cons (pv 2) pa_nil))))
        pss_nil)))
    (pss_one (ps_ret (pe_callTy (VK.tupQ (K := K) rfl) (by rfl) z_tuple (by decide +kernel) (pa_cons (pv 1) pa_nil)))))), ?_⟩
  have zl := sizeLine_eq
  refine ⟨Nat.zero_le _, fun fl nfl => ?_⟩
  have s1 := same_upd nfl (.lst [])
  have hfl0 : upd H fl (.lst []) fl = some (.lst (refs ([] : List (Addr × List Str)))) := upd_same
  generalize upd H fl (.lst []) = H1 at s1 hfl0 ⊢
  refine VJ.nmS ?_
  refine ⟨_, rfl, a, rfl, ⟨_, s1.seq ha⟩, for_list (K := K) (a := a) (xs := refs O)
    (fun i σ H' => ∃ (r2 r3 : Option V) (O' : List (Addr × List Str)), σ = [some (.ref a), some (.ref fl), r2, r3] ∧ Same H H' ∧ H' fl = some (.lst (refs O')) ∧ (∀ x ∈ O', x ∈ O) ∧ O'.length ≤ i)
    ⟨none, none, [], rfl, s1, hfl0, fun x hx => absurd hx List.not_mem_nil, Nat.le_refl _⟩ (fun i σ H' _ ⟨_, _, _, _, z, _⟩ => z.seq ha) ?_ ?_⟩
  · rintro i v σ H2 hv ⟨r2, r3, O', rfl, s2, hfl, sub, lO'⟩
    obtain ⟨own, ho, rfl⟩ := refs_at hv
    have oin := List.mem_of_getElem? ho
    have lti : i < O.length := (List.getElem?_eq_some_iff.mp ho).1
    have flH : H fl = none := nfl
    refine VJ.nm ?_
    refine testJF (c := tNot _) (fun _ H' => Same H2 H') (fun Q' fin => ?_) (fun b H3 s3 => ?_)
    · refine ⟨_, rfl, a, rfl, ⟨_, s2.seq ha⟩, fun D1 nD => lc_list (K := K) (a := a) (xs := refs O) (fun j H' => ∃ bs : List Bool, Same H2 H' ∧ H' D1 = some (.lst (bs.map V.bl)) ∧ bs.length ≤ j)
        ⟨[], same_upd nD _, upd_same, Nat.le_refl _⟩ (fun j H4 _ ⟨_, z, _⟩ => (s2.trans z).seq ha) ?_ ?_⟩
      · rintro j v H' hv2 ⟨bs, s3, hD, lb⟩
        obtain ⟨y, hy, rfl⟩ := refs_at hv2
        have yin := List.mem_of_getElem? hy
        have ltj : j < O.length := (List.getElem?_eq_some_iff.mp hy).1
        have hy' := VB.Same.sqT (s2.trans s3) (hO y yin)
        have hw' := VB.Same.sqT (s2.trans s3) (hO own oin)
        refine VJ.nm ⟨rfl, ?_⟩
        unfold tYes
        refine iteT ?_
        have put : ∀ (b : Bool) (H4 : Hp), Same H' H4 → ∃ acc, H4 D1 = some (.lst acc) ∧ acc.length < sizeLine ∧ ∃ bs : List Bool, Same H2 (upd H4 D1 (.lst (acc ++ [.bl b]))) ∧ upd H4 D1 (.lst (acc ++ [.bl b])) D1 = some (.lst (bs.map V.bl)) ∧ bs.length ≤ j + 1 := fun b H4 s4 =>
          ⟨_, s4 _ _ hD, by rw [List.length_map]; omega, bs ++ [b], sameIn (s3.trans s4) nD, by rw [upd_same, List.map_append] <;> rfl, by rw [List.length_append, List.length_singleton]; omega⟩
        refine ⟨_, rfl, _, rfl, txD y.2, txD own.2, txDp hy', txDp hw', txShaped (lx y yin).2, txShaped (lx own oin).2, _, rfl, VUt.ite2b (fun c => ?_) (fun c => put _ _ (Same.refl _))⟩
        exact ⟨_, rfl, _, rfl, y.1, own.1, y.2, own.2, rfl, hy', hw', by have := (lx y yin).1; omega, fun H4 s4 => put _ _ s4⟩
      · rintro H3 ⟨bs, s3, hD, lb⟩
        exact ⟨D1, _, rfl, SqL.of hD, _, rfl, fin _ _ s3⟩
    have s23 := s2.trans s3
    refine VUt.ite2b (fun _ => ?_) (fun _ => ?_)
    · have hfl3 := s3 _ _ hfl
      refine ⟨_, rfl, .inl ⟨rfl, _, SqL.of hfl3⟩, _, rfl, fl, _, _, rfl, rfl, hfl3, by rw [refs_len]; omega, ?_⟩
      refine ⟨_, _, O' ++ [own], rfl, sameIn s23 flH, by rw [upd_same, refs_snoc], fun x hx => ?_, by rw [List.length_append, List.length_singleton]; omega⟩
      rcases List.mem_append.mp hx with z | z
      · exact sub x z
      · rw [List.mem_singleton.mp z]; exact oin
    · exact ⟨_, _, O', rfl, s23, s3 _ _ hfl, sub, by omega⟩
  · rintro σ H2 ⟨r2, r3, O', rfl, s2, hfl, sub, lO'⟩
    rw [refs_len] at lO'
    refine VJ.nx ?_
    refine ⟨_, rfl, fl, _, rfl, .inl ⟨SqL.of hfl, fun t nt => ?_⟩⟩
    exact q t O' _ (s2.trans (same_upd nt _)) upd_same sub lO'
def spOpen (K : PySem.W.Frag) : Sp := fun vs H Q _ => ∃ (q a : Addr) (md : Str) (n : Int) (E : List Ed) (ss : List Int), vs = [.ref q, .str md, .ref a] ∧ QAt K H q n E ∧ SqT K H a (ss.map V.int) ∧ (∀ x ∈ ss, 0 ≤ x ∧ x < n) ∧ ss.length ≤ 60 ∧
  ∀ (b : Bool) (H' : Hp), Same H H' → (b = true → md = "divergences") → Q (.bl b) H'
theorem c_open (D : Df K mg "_law_open" s__law_open) (c__law_any_lost : C8.Cal P w K mg base 1 "_law_any_lost" (spQAny K) []) : C8.Cal P w K mg base 2 "_law_open" (spOpen K) [] := by
  refine D.cal sc__law_open (fun _ _ _ _ _ _ us hl => match us, hl with | [_, _, _], _ => rfl) (fun vs H Q E h => ?_) (fun f cdv A outer s0 H vs Q E hr h => ?_)
  · obtain ⟨_, _, _, _, _, _, rfl, _⟩ := h
    rfl
  obtain ⟨q, a, md, n, E0, ss, rfl, QA, ha, hs, ls, fin⟩ := h
  refine ⟨_, (pss_one (ps_ret (pe_and (pe_cmpR op_eq (pv 1) pe_str (nomark _)) (pe_one (C8.pe_c c__law_any_lost hr (by first | decide | omega) rfl (pa_cons (pv 0) (pa_cons (pv 2) pa_nil))))))), ?_⟩
  refine ⟨_, rfl, rfl, _, rfl, VUt.ite2b (fun c => ?_) (fun c => fin _ _ (Same.refl _) fun z => by cases z)⟩
  have c : md = "divergences" := by simpa using c
  exact ⟨_, rfl, _, rfl, q, a, n, E0, ss, rfl, QA, ha, hs, ls, fun b H' s _ => fin b H' s fun _ => c⟩
def spUnkP (K : PySem.W.Frag) : Sp := fun vs H Q _ => ∃ (v : V), vs = [v] ∧ ∀ H', Same H H' → Q (.bl true) H'
theorem c_unkP {C CU : Addr} (D : Df K mg "_law_unknown" s__law_unknown) (e_UnknownModel : VY.OwnI K mg "UnknownModel" CU) (xf_UnknownModel : XfC K CU) (no_UnknownModel_model : PySem.W.findIn K (.ref CU) "model" = some none)
    (c_picture : VE.CalX P w K mg base 7 "picture" (spPic K C CU)) : C8.Cal P w K mg base 9 "_law_unknown" (spUnkP K) [] := by
  refine D.cal sc__law_unknown (fun _ _ _ _ _ _ us hl => match us, hl with | [_], _ => rfl) (fun vs H Q E h => ?_) (fun f cdv A outer s H vs Q E hr h => ?_)
  · obtain ⟨_, rfl, _⟩ := h
    rfl
  obtain ⟨v, rfl, q⟩ := h
  refine ⟨_, (pss_cons (VF.ps_mix (K := K) rfl rfl rfl takes0 (fun W pn xe tk _ => (pss_one (ps_expr (VE.pe_cX c_picture hr (by first | decide | omega) rfl tk (pa_cons (pv 0) (pa_cons pe_str pa_nil)))))) (.cons ⟨rfl, by decide, .inl e_UnknownModel.at_⟩ (.inr ⟨_, 1, rfl, rfl, sc__law_unknown.nd, rfl, rfl⟩) (fun a ob cls d pn zc hf => (pss_one (ps_ret (pe_cmpR op_eq (pe_xf xf_UnknownModel no_UnknownModel_model zc hf (pv 1)) pe_str (nomark _))))) .nil))
    (pss_one (ps_ret pe_bl))), ?_⟩
  refine ⟨_, rfl, .inl ⟨v, "Traces", rfl, by decide +kernel, by decide +kernel, fun d H' s hd => ?_⟩⟩
  refine ⟨true, e_UnknownModel.te, fun _ a na => ?_, fun z => Bool.noConfusion z⟩
  refine ⟨_, rfl, rfl, rfl, d, _, .str "Traces", rfl, hd, rfl, rfl, ?_⟩
  rw [decide_eq_true rfl]
  exact q _ s
end
end LW

set_option Elab.async false
set_option linter.all false
set_option maxRecDepth 100000
set_option maxHeartbeats 400000
namespace LW
open PySem PySem.Spec PyProof.Rows L2 LamX NdefX VB VM VP VE VX
/-- for each state the list of its edges' ends -/
structure RwAt (K : PySem.W.Frag) (H : Hp) (q : Addr) (n : Int) (E : List Ed) (rows : List Addr) : Prop where
  q : H q = some (.lst (rows.map V.ref))
  len : (rows.length : Int) = n
  at_ : ∀ (j : Nat) (a : Addr), rows[j]? = some a → ∃ LP : List (Addr × Pr), H a = some (.lst (refs LP)) ∧ Pqs K H LP ∧ LP.map (·.2) = leav E ((j : Nat) : Int)
theorem RwAt.same {K : PySem.W.Frag} {H H' : Hp} {q : Addr} {n : Int} {E : List Ed} {rows : List Addr} (R : RwAt K H q n E rows) (s : Same H H') : RwAt K H' q n E rows := by
  refine ⟨s _ _ R.q, R.len, fun j a hj => ?_⟩
  obtain ⟨LP, h1, h2, h3⟩ := R.at_ j a hj
  exact ⟨LP, s _ _ h1, h2.kp (Kp.of s), h3⟩
section
variable {P : Program} {w : World} {K : PySem.W.Frag} {mg : Str → Option Value} {base : Heap}
def spRowsM (K : PySem.W.Frag) : Sp := fun vs H Q _ => ∃ (t l : Addr) (n : Int) (L : List (Addr × Ed)), vs = [.ref t] ∧ SqT K H t [.int n, .ref l] ∧ SqL K H l (refs L) ∧ Eds K H L ∧ L.length ≤ 1000000 ∧ (∀ x ∈ L, okE n x.2) ∧ 1 ≤ n ∧ n ≤ 100000 ∧
  ∀ (q : Addr) (H' : Hp) (rows : List Addr), Same H H' → RwAt K H' q n (L.map (·.2)) rows → Q (.ref q) H'
def spRows (K : PySem.W.Frag) : Sp := fun vs H Q _ => ∃ (t l : Addr) (n : Int) (L : List (Addr × Ed)), vs = [.ref t] ∧ SqT K H t [.int n, .ref l] ∧ SqL K H l (refs L) ∧ Eds K H L ∧ L.length ≤ 1000 ∧ (∀ x ∈ L, okE n x.2) ∧ 1 ≤ n ∧ n ≤ 60 ∧
  ∀ (q : Addr) (H' : Hp) (rows : List Addr), Same H H' → RwAt K H' q n (L.map (·.2)) rows → Q (.ref q) H'
end
end LW

set_option Elab.async false
set_option linter.all false
set_option maxRecDepth 100000
set_option maxHeartbeats 400000
namespace VDN
open PySem PySem.Spec PyProof.Rows L2 LamX NdefX VB
/-! dicts whose keys are nested tuples -/
abbrev NRow := NestedKey × Addr × V
/-- a row and what stands for it -/
def RowR (p : NRow) (q : NestedKey × Addr × Value) : Prop := p.1 = q.1 ∧ p.2.1 = q.2.1 ∧ RelV p.2.2 q.2.2
/-- the dict's own object -/
def Bare (P : Program) (w : World) (h : Heap) (a : Addr) (rows : List NRow) : Prop := rows.length ≤ sizeLine ∧ (a == sysModules) = false ∧ ∃ xs : List (NestedKey × Addr × Value), Paired RowR rows xs ∧
  ∃ o es ep, h.get? a = some o ∧ o.ExactDict ∧ o.data = .dict es ep ∧ es.toList = xs.map (entryOfKey (nestedKind P w)) ∧ (xs.map (·.1)).Nodup
def NdO (P : Program) (w : World) (a : Addr) (rows : List NRow) : HO := .ext fun h => Bare P w h a rows
theorem nd_ok {P : Program} {w : World} {H : Hp} {h : Heap} {a : Addr} {rows : List NRow} (M : Bare P w h a rows) : ObjOk P w H h a (NdO P w a rows) := by
  have ⟨_, _, _, _, o, _, _, ho, _⟩ := M
  refine ⟨M, ⟨o, ho⟩, fun h1 h2 p q => ?_⟩
  obtain ⟨p1, p2, xs, p3, o, es, ep, p4, p5⟩ := p
  exact ⟨p1, p2, xs, p3, o, es, ep, q _ p4, p5⟩
/-- the first value at a key -/
def valN (rows : List NRow) (k : NestedKey) : Option V := (rows.find? fun p => decide (p.1 = k)).map (·.2.2)
def putN (rows : List NRow) (k : NestedKey) (b : Addr) (v : V) : List NRow := if (valN rows k).isSome then rows.map (fun p => if p.1 = k then (p.1, p.2.1, v) else p) else rows ++ [(k, b, v)]
theorem valN_nil (k : NestedKey) : valN [] k = none := rfl
theorem valN_cons (p : NRow) (rows : List NRow) (k : NestedKey) : valN (p :: rows) k = if p.1 = k then some p.2.2 else valN rows k := by
  unfold valN
  by_cases h : p.1 = k
  · rw [List.find?_cons_of_pos (by simpa using h), if_pos h] <;> rfl
  · rw [List.find?_cons_of_neg (by simpa using h), if_neg h]
theorem valN_map (rows : List NRow) (k j : NestedKey) (v : V) : valN (rows.map fun p => if p.1 = k then (p.1, p.2.1, v) else p) j = if j = k then (valN rows j).map fun _ => v else valN rows j := by
  induction rows with
  | nil => rw [List.map_nil, valN_nil]; split <;> rfl
  | cons p rows ih =>
    rw [List.map_cons, valN_cons, valN_cons, ih]
    by_cases h1 : p.1 = k
    · rw [if_pos h1]
      by_cases h2 : p.1 = j
      · rw [if_pos h2, if_pos (h2.symm.trans h1), if_pos h2] <;> rfl
      · rw [if_neg h2, if_neg h2]
    · rw [if_neg h1]
      by_cases h2 : p.1 = j
      · rw [if_pos h2, if_pos h2, if_neg (fun e => h1 (h2.trans e))]
      · rw [if_neg h2, if_neg h2]
theorem valN_app (rows : List NRow) (p : NRow) (j : NestedKey) : valN (rows ++ [p]) j = (valN rows j).or (if p.1 = j then some p.2.2 else none) := by
  induction rows with
  | nil => rw [List.nil_append, valN_cons, valN_nil] <;> rfl
  | cons q rows ih =>
    rw [List.cons_append, valN_cons, valN_cons, ih]
    by_cases h : q.1 = j
    · rw [if_pos h, if_pos h] <;> rfl
    · rw [if_neg h, if_neg h]
theorem valN_put (rows : List NRow) (k j : NestedKey) (b : Addr) (v : V) : valN (putN rows k b v) j = if j = k then some v else valN rows j := by
  unfold putN
  by_cases h : (valN rows k).isSome = true
  · rw [if_pos h, valN_map]
    by_cases e : j = k
    · subst e
      obtain ⟨u, hu⟩ := Option.isSome_iff_exists.mp h
      rw [if_pos rfl, if_pos rfl, hu] <;> rfl
    · rw [if_neg e, if_neg e]
  · rw [if_neg h, valN_app]
    have hn : valN rows k = none := by
      cases e : valN rows k with
      | none => rfl
      | some u => rw [e] at h; exact absurd rfl h
    by_cases e : j = k
    · subst e
      rw [hn, if_pos rfl]
      rfl
    · rw [if_neg e, if_neg fun z => e z.symm]
      cases valN rows j <;> rfl
theorem putN_len (rows : List NRow) (k : NestedKey) (b : Addr) (v : V) : (putN rows k b v).length ≤ rows.length + 1 := by
  unfold putN
  split
  · rw [List.length_map]; omega
  · rw [List.length_append] <;> exact Nat.le_refl _
theorem rel_at {rows : List NRow} {xs : List (NestedKey × Addr × Value)} (r : Paired RowR rows xs) (k : NestedKey) : (valN rows k = none ∧ atKey xs k = none) ∨ ∃ v p, valN rows k = some v ∧ atKey xs k = some p ∧ RelV v p.2 := by
  induction r with
  | nil => exact .inl ⟨rfl, rfl⟩
  | @cons p q rows xs h t ih =>
    obtain ⟨h1, h2, h3⟩ := h
    have e : atKey (q :: xs) k = if q.1 = k then some q.2 else atKey xs k := by
      unfold atKey
      by_cases c : q.1 = k
      · rw [List.find?_cons_of_pos (by simpa using c), if_pos c] <;> rfl
      · rw [List.find?_cons_of_neg (by simpa using c), if_neg c]
    rw [valN_cons, e, h1]
    by_cases c : q.1 = k
    · rw [if_pos c, if_pos c]
      exact .inr ⟨_, _, rfl, rfl, h3⟩
    · rw [if_neg c, if_neg c]
      exact ih
theorem paired_app {α β : Type} {R : α → β → Prop} {a : List α} {b : List β} (r : Paired R a b) {x : α} {y : β} (h : R x y) : Paired R (a ++ [x]) (b ++ [y]) := by
  induction r with
  | nil => exact .cons h .nil
  | cons g _ ih => exact .cons g ih
theorem rel_put {rows : List NRow} {xs : List (NestedKey × Addr × Value)} (r : Paired RowR rows xs) (k : NestedKey) (b : Addr) {v : V} {u : Value} (rv : RelV v u) : Paired RowR (putN rows k b v) (storedH xs k b u) := by
  unfold putN storedH
  rcases rel_at r k with ⟨e1, e2⟩ | ⟨v', p, e1, e2, _⟩
  · rw [e1, e2, if_neg (by decide), if_neg (by decide)]
    exact paired_app r ⟨rfl, rfl, rv⟩
  · rw [e1, e2, if_pos (show (some v').isSome = true from rfl), if_pos (show (some p).isSome = true from rfl)]
    clear e1 e2
    induction r with
    | nil => exact .nil
    | @cons p q rows xs h t ih =>
      rw [List.map_cons, List.map_cons]
      refine .cons ?_ ih
      obtain ⟨h1, h2, h3⟩ := h
      unfold putAt
      rw [h1]
      by_cases c : q.1 = k
      · rw [if_pos c, if_pos c]; exact ⟨rfl, h2, rv⟩
      · rw [if_neg c, if_neg c]; exact ⟨h1, h2, h3⟩
/-! keys in the abstract heap -/
mutual
inductive NK (K : PySem.W.Frag) (H : Hp) : NestedKey → V → Prop
  | non : NK K H .none .non
  | int (i : Int) : NK K H (.num i) (.int i)
  | bl (b : Bool) : NK K H (.num (if b = true then 1 else 0)) (.bl b)
  | str (x : Str) : NK K H (.text x) (.str x)
  | tup {a : Addr} {vs : List V} {ks : List NestedKey} : SqT K H a vs → NKs K H ks vs → NK K H (.tup ks) (.ref a)
inductive NKs (K : PySem.W.Frag) (H : Hp) : List NestedKey → List V → Prop
  | nil : NKs K H [] []
  | cons {k : NestedKey} {v : V} {ks : List NestedKey} {vs : List V} : NK K H k v → NKs K H ks vs → NKs K H (k :: ks) (v :: vs)
end
mutual
theorem NK.kp {K : PySem.W.Frag} {H H' : Hp} (x : Kp H H') : ∀ {k : NestedKey} {v : V}, NK K H k v → NK K H' k v
  | _, _, .non => .non
  | _, _, .int i => .int i
  | _, _, .bl b => .bl b
  | _, _, .str s => .str s
  | _, _, .tup h t => .tup (x.sqT h) (NKs.kp x t)
theorem NKs.kp {K : PySem.W.Frag} {H H' : Hp} (x : Kp H H') : ∀ {ks : List NestedKey} {vs : List V}, NKs K H ks vs → NKs K H' ks vs
  | _, _, .nil => .nil
  | _, _, .cons h t => .cons (NK.kp x h) (NKs.kp x t)
end
section
variable {X : Cx} {pins : List (Addr × Obj)} {σ : L2.St} {H : Hp} {s : Shared}
mutual
theorem nk_is (I : Inv X pins σ H s) : ∀ {k : NestedKey} {v : V} {u : Value}, NK X.K H k v → RelV v u → NestedIs s.heap k u
  | _, _, _, .non, r => by cases r; exact .none
  | _, _, _, .int i, r => by obtain ⟨t, rfl⟩ := r; exact .int i t
  | _, _, _, .bl b, r => by cases r; exact .bool rfl
  | _, _, _, .str x, r => by obtain ⟨t, rfl⟩ := r; exact .text x t
  | _, _, _, .tup h t, r => by
    cases r
    obtain ⟨its, rv, ⟨o, ho, hc, n, hd⟩, _⟩ := I.tuple h
    exact .tup ho hc hd (by simpa using nks_are I t rv)
theorem nks_are (I : Inv X pins σ H s) : ∀ {ks : List NestedKey} {vs : List V} {us : List Value}, NKs X.K H ks vs → Vals vs us → NestedAll s.heap ks us
  | _, _, _, .nil, r => by cases r; exact .nil
  | _, _, _, .cons h t, r => by
    cases r with
    | cons r1 r2 => exact .cons (nk_is I h r1) (nks_are I t r2)
end
end
/-- the keys stand as tuples -/
def KeysN (K : PySem.W.Frag) (H : Hp) (rows : List NRow) : Prop := ∀ p ∈ rows, NK K H p.1 (.ref p.2.1) ∧ p.1.depth ≤ 8
theorem KeysN.kp {K : PySem.W.Frag} {H H' : Hp} {rows : List NRow} (h : KeysN K H rows) (x : Kp H H') : KeysN K H' rows := fun p hp => ⟨(h p hp).1.kp x, (h p hp).2⟩
theorem KeysN.put {K : PySem.W.Frag} {H : Hp} {rows : List NRow} (h : KeysN K H rows) {k : NestedKey} {b : Addr} (v : V) (hk : NK K H k (.ref b)) (hd : k.depth ≤ 8) : KeysN K H (putN rows k b v) := by
  intro p hp
  unfold putN at hp
  split at hp
  · obtain ⟨q, hq, rfl⟩ := List.mem_map.mp hp
    by_cases c : q.1 = k
    · rw [if_pos c]; exact h q hq
    · rw [if_neg c]; exact h q hq
  · rcases List.mem_append.mp hp with z | z
    · exact h p z
    · rw [List.mem_singleton.mp z]; exact ⟨hk, hd⟩
/-- what the dict at a holds at the key y -/
def NGet (P : Program) (w : World) (K : PySem.W.Frag) (H : Hp) (a : Addr) (y : V) (r : Option V) : Prop := ∃ rows k b, H a = some (NdO P w a rows) ∧ KeysN K H rows ∧ y = .ref b ∧ NK K H k (.ref b) ∧ k.depth ≤ 8 ∧ r = valN rows k
def NPut (P : Program) (w : World) (K : PySem.W.Frag) (H : Hp) (a : Addr) (y v : V) (H' : Hp) : Prop := ∃ rows k b, H a = some (NdO P w a rows) ∧ KeysN K H rows ∧ y = .ref b ∧ NK K H k (.ref b) ∧ k.depth ≤ 8 ∧ rows.length < sizeLine ∧ H' = upd H a (NdO P w a (putN rows k b v))
section
variable {X : Cx} {pins : List (Addr × Obj)} {σ : L2.St} {H : Hp} {s : Shared} {a : Addr} {y v : V} {u r : Value} {o : Option V} {A : Around} {E : Value → Shared → Prop} {rows : List NRow}
theorem nd_at (I : Inv X pins σ H s) (e : H a = some (NdO X.prog X.w a rows)) (kk : KeysN X.K H rows) : rows.length ≤ sizeLine ∧ (a == sysModules) = false ∧ ∃ xs, Paired RowR rows xs ∧ s.heap.DictOfH (nestedKind X.prog X.w) a xs := by
  obtain ⟨z, hd, xs, r, ob, es, ep, h1, h2, h3, h4, h5⟩ := (I.hok a _ e).1
  refine ⟨z, hd, xs, r, ob, es, ep, h1, h2, h3, h4, ?_, h5⟩
  clear h4 h5 e z
  induction r with
  | nil => exact fun x hx => absurd hx List.not_mem_nil
  | @cons p q rows xs h t ih =>
    intro x hx
    rcases List.mem_cons.mp hx with rfl | hx
    · obtain ⟨g1, g2, _⟩ := h
      have z := kk p List.mem_cons_self
      rw [g1, g2] at z
      exact ⟨nk_is I z.1 rfl, z.2⟩
    · exact ih (fun p' hp' => kk p' (List.mem_cons_of_mem _ hp')) x hx
theorem n_getItem {Q : Value → Shared → Prop} (hu : A.units + 60 < cLine) (I : Inv X pins σ H s) (g : NGet X.prog X.w X.K H a y (some v)) (ry : RelV y u) (h : ∀ w' s', Inv X pins σ H s' → RelV v w' → Q w' s') :
    wpAny (model X.prog X.w) A (getItem (.ref a) u) Q E s := by
  obtain ⟨rows, k, b, e, kk, rfl, hk, dk, l⟩ := g
  cases (show u = Value.ref b from ry)
  obtain ⟨z, hd, xs, rel, dd⟩ := nd_at I e kk
  rcases rel_at rel k with ⟨e1, _⟩ | ⟨v', p, e1, e2, rv⟩
  · rw [e1] at l; cases l
  · rw [e1] at l
    cases l
    exact wpAny_getItem_heap (knd := nestedKind X.prog X.w) (by show A.units + _ + 8 < cLine; omega) ⟨nk_is I hk rfl, dk⟩ dd e2 (h _ _ (I.tok _) rv)
theorem n_in {Q : Value → Shared → Prop} (hu : A.units + 60 < cLine) (I : Inv X pins σ H s) (g : NGet X.prog X.w X.K H a y o) (ry : RelV y u) (h : ∀ s', Inv X pins σ H s' → Q (.bool o.isSome) s') :
    wpAny (model X.prog X.w) A (compareOp .In u (.ref a)) Q E s := by
  obtain ⟨rows, k, b, e, kk, rfl, hk, dk, rfl⟩ := g
  cases (show u = Value.ref b from ry)
  obtain ⟨z, hd, xs, rel, dd⟩ := nd_at I e kk
  refine wpAny_in_heap (knd := nestedKind X.prog X.w) (by show A.units + _ + 8 < cLine; omega) ⟨nk_is I hk rfl, dk⟩ hd dd ?_
  have q : (atKey xs k).isSome = (valN rows k).isSome := by
    rcases rel_at rel k with ⟨e1, e2⟩ | ⟨v', p, e1, e2, _⟩
    · rw [e1, e2] <;> rfl
    · rw [e1, e2] <;> rfl
  rw [q]
  exact h _ (I.tok _)
theorem n_setItem {H' : Hp} {Q : Unit → Shared → Prop} (hu : A.units + 60 < cLine) (I : Inv X pins σ H s) (g : NPut X.prog X.w X.K H a y v H') (ry : RelV y u) (rv : RelV v r) (h : ∀ s', Inv X pins σ H' s' → Q () s') :
    wpAny (model X.prog X.w) A (setItem (.ref a) u r) Q E s := by
  obtain ⟨rows, k, b, e, kk, rfl, hk, dk, lr, rfl⟩ := g
  cases (show u = Value.ref b from ry)
  obtain ⟨z, hd, xs, rel, dd⟩ := nd_at I e kk
  have hz : xs.length ≤ sizeLine := by rw [← rel.length]; exact z
  have hl : (putN rows k b v).length ≤ sizeLine := by have := putN_len rows k b v; omega
  refine wpAny_setItem_heap (knd := nestedKind X.prog X.w) (hsz := hz) (by show A.units + _ + 8 < cLine; omega) ⟨nk_is I hk rfl, dk⟩ dd fun h' dd' hs => h _ ?_
  obtain ⟨q, es, ep, hq, h2, h3, h4, _, h5⟩ := dd'
  exact d_write I (by rw [e]; exact True.intro) hs ⟨q, hq⟩ (nd_ok ⟨hl, hd, _, rel_put rel k b rv, q, es, ep, hq, h2, h3, h4, h5⟩)
end
theorem un60 {k : Nat} {A : Around} (r : Room k A) : A.units + 60 < cLine := by have := r.un; omega
/-! as expressions and statements -/
section
variable {X : Cx} {P : Program} {w : World} {K : PySem.W.Frag} {o i e f value : Expr} {td ty tv tx : TE} {pos pos' apos cpos : Pos}
/-- d[y] -/
def tNGet (P : Program) (w : World) (K : PySem.W.Frag) (td ty : TE) : TE := fun σ H Q => td σ H fun x H1 => ty σ H1 fun y H2 => ∃ a v, x = .ref a ∧ NGet P w K H2 a y (some v) ∧ Q v H2
/-- y in d, y not in d -/
def tNIn (P : Program) (w : World) (K : PySem.W.Frag) (ty td : TE) : TE := fun σ H Q => ty σ H fun y H1 => td σ H1 fun x H2 => ∃ a o, x = .ref a ∧ NGet P w K H2 a y o ∧ Q (.bl o.isSome) H2
def tNNotIn (P : Program) (w : World) (K : PySem.W.Frag) (ty td : TE) : TE := fun σ H Q => ty σ H fun y H1 => td σ H1 fun x H2 => ∃ a o, x = .ref a ∧ NGet P w K H2 a y o ∧ Q (.bl (!o.isSome)) H2
/-- d[y] = v -/
def sNPut (P : Program) (w : World) (K : PySem.W.Frag) (td ty tv : TE) : TS := fun D σ H => tv σ H fun v H1 => td σ H1 fun x H2 => ty σ H2 fun y H3 => ∃ a H4, x = .ref a ∧ NPut P w K H3 a y v H4 ∧ D.nx σ H4
/-- {} -/
def tNNew (P : Program) (w : World) : TE := fun _ H Q => ∀ p, H p = none → Q (.ref p) (upd H p (NdO P w p []))
/-- d.get(y, z) -/
def tNGet2 (P : Program) (w : World) (K : PySem.W.Frag) (td ty tx : TE) : TE := fun σ H Q => td σ H fun x H1 => ∃ a rows, x = .ref a ∧ H1 a = some (NdO P w a rows) ∧ KeysN K H1 rows ∧ ty σ H1 fun y H2 => tx σ H2 fun z H3 => ∃ o, NGet P w K H3 a y o ∧ Q (o.getD z) H3
theorem n_type {pins : List (Addr × Obj)} {σ : L2.St} {H : Hp} {s : Shared} {a : Addr} {y : V} {r : Option V} (I : Inv X pins σ H s) (g : NGet X.prog X.w X.K H a y r) : s.TypeIs (.ref a) "dict" := by
  obtain ⟨rows, k, b, e, kk, _⟩ := g
  obtain ⟨_, _, _, _, dd⟩ := nd_at I e kk
  exact dd.typeIs
theorem pe_nget (hP : X.prog = P) (hw : X.w = w) (hK : X.K = K) (hu : X.A.units + 60 < cLine) (ho : PE X o td) (hi : PE X i ty) (hs : NoSl i) : PE X (.Subscript o i pos) (tNGet P w K td ty) := by
  subst hP hw hK
  refine ⟨fun pins s σ H Q I h => ?_⟩
  refine subD_of PySem.F.slot_dict_getitem.lookup hs (thn (ho.run pins s σ H _ I h) fun u s1 ⟨x, H1, I1, rx, q1⟩ => thn (hi.run pins s1 σ H1 _ I1 q1) fun iv s2 ⟨y, H2, I2, ry, a, v, ex, g, q2⟩ => ?_)
  subst ex
  obtain rfl : u = Value.ref a := rx
  exact ⟨n_type I2 g, n_getItem hu I2 g ry fun w' s3 I3 rw' => ⟨v, H2, I3, rw', q2⟩⟩
theorem n_notIn {pins : List (Addr × Obj)} {σ : L2.St} {H : Hp} {s : Shared} {a : Addr} {y : V} {r : Option V} {u : Value} {A : Around} {E : Value → Shared → Prop} {Q : Value → Shared → Prop} (hu : A.units + 60 < cLine) (I : Inv X pins σ H s) (g : NGet X.prog X.w X.K H a y r) (ry : RelV y u) (h : ∀ s', Inv X pins σ H s' → Q (.bool (!r.isSome)) s') :
    wpAny (model X.prog X.w) A (compareOp .NotIn u (.ref a)) Q E s := by
  obtain ⟨rows, k, b, e, kk, rfl, hk, dk, rfl⟩ := g
  cases (show u = Value.ref b from ry)
  obtain ⟨z, hd, xs, rel, dd⟩ := nd_at I e kk
  show wpAny _ _ (do return .bool (!(← contains (.ref a) (.ref b)))) Q E s
  refine wpAny_bind (wpAny_contains_heap (knd := nestedKind X.prog X.w) (by show A.units + _ + 8 < cLine; omega) ⟨nk_is I hk rfl, dk⟩ hd dd (wpAny_pure ?_))
  have q : (atKey xs k).isSome = (valN rows k).isSome := by
    rcases rel_at rel k with ⟨e1, e2⟩ | ⟨v', p, e1, e2, _⟩
    · rw [e1, e2] <;> rfl
    · rw [e1, e2] <;> rfl
  rw [q]
  exact h _ (I.tok _)
theorem pc_nin (hP : X.prog = P) (hw : X.w = w) (hK : X.K = K) (hu : X.A.units + 60 < cLine) (hi : PE X i ty) (ho : PE X o td) : PC X .In i o (tNIn P w K ty td) := by
  subst hP hw hK
  refine ⟨fun pins s σ H Q I h => ?_⟩
  refine thn (hi.run pins s σ H _ I h) fun iv s1 ⟨y, H1, I1, ry, q1⟩ => thn (ho.run pins s1 σ H1 _ I1 q1) fun u s2 ⟨x, H2, I2, rx, a, ov, ex, g, q2⟩ => ?_
  subst ex
  obtain rfl : u = Value.ref a := rx
  exact n_in hu I2 g ry fun s3 I3 => ⟨.bl ov.isSome, H2, I3, rfl, q2⟩
theorem pc_nnotin (hP : X.prog = P) (hw : X.w = w) (hK : X.K = K) (hu : X.A.units + 60 < cLine) (hi : PE X i ty) (ho : PE X o td) : PC X .NotIn i o (tNNotIn P w K ty td) := by
  subst hP hw hK
  refine ⟨fun pins s σ H Q I h => ?_⟩
  refine thn (hi.run pins s σ H _ I h) fun iv s1 ⟨y, H1, I1, ry, q1⟩ => thn (ho.run pins s1 σ H1 _ I1 q1) fun u s2 ⟨x, H2, I2, rx, a, ov, ex, g, q2⟩ => ?_
  subst ex
  obtain rfl : u = Value.ref a := rx
  exact n_notIn hu I2 g ry fun s3 I3 => ⟨.bl (!ov.isSome), H2, I3, rfl, q2⟩
theorem ps_nput (hP : X.prog = P) (hw : X.w = w) (hK : X.K = K) (hu : X.A.units + 60 < cLine) (ho : PE X o td) (hi : PE X i ty) (hv : PE X value tv) (hs : swapsWith value (some (.Subscript o i pos')) pos.line X.env = pure false) :
    PS X (.Assign [.Subscript o i pos'] value pos) (sNPut P w K td ty tv) := by
  subst hP hw hK
  refine ⟨fun pins s σ H D I h => ?_⟩
  refine wpAny_Assign_Subscript (thn (hv.run pins s σ H _ I h) fun r s1 ⟨v, H1, I1, rv, q1⟩ => thn (ho.run pins s1 σ H1 _ I1 q1) fun u s2 ⟨x, H2, I2, rx, q2⟩ => thn (hi.run pins s2 σ H2 _ I2 q2) fun iv s3 ⟨y, H3, I3, ry, a, H4, ex, g, q3⟩ => ?_) hs
  subst ex
  obtain rfl : u = Value.ref a := rx
  exact n_setItem hu I3 g ry rv fun s4 I4 => ⟨σ, H4, I4, q3⟩
theorem nd_empty (P : Program) (w : World) {H : Hp} (h : Heap) (hb : sysModules < h.objs.size) : ObjOk P w H (h.push { cls := .type "dict", data := .dict #[] }) h.objs.size (NdO P w h.objs.size []) :=
  nd_ok ⟨Nat.zero_le _, beq_eq_false_iff_ne.mpr (Ne.symm (Nat.ne_of_lt hb)), [], .nil, _, #[], 0, Heap.get?_push_size _ rfl, ⟨rfl, rfl, rfl⟩, rfl, rfl, List.nodup_nil⟩
theorem pe_nnew (hP : X.prog = P) (hw : X.w = w) : PE X (.Dict [] [] pos) (tNNew P w) := by
  subst hP hw
  exact ⟨fun pins s σ H Q I h => wpAny_Dict_empty ⟨.ref s.heap.objs.size, _, I.laid (a := s.heap.objs.size) (o := NdO X.prog X.w s.heap.objs.size []) (t' := s.toks) (fun _ _ q => Heap.get?_push_of_some _ q) (Nat.le_refl _) (nd_empty _ _ s.heap I.big), rfl, h _ (I.hok.fresh (Nat.le_refl _))⟩⟩
theorem pe_nget2 (hP : X.prog = P) (hw : X.w = w) (hK : X.K = K) (hu : X.A.units + 60 < cLine) (ho : PE X o td) (he : PE X e ty) (hf : PE X f tx) (m : M2 X o "get" apos e f cpos) : PE X (.Call (.Attribute o "get" apos) [e, f] [] cpos) (tNGet2 P w K td ty tx) := by
  subst hP hw hK
  refine ⟨fun pins s σ H Q I h => ?_⟩
  refine wpAny_Call_method m.base m.few m.line PySem.F.plainAttrs_dict PySem.F.slot_dict_get PySem.F.type_dict_get (thn (ho.run pins s σ H _ I h) fun u s1 ⟨x, H1, I1, rx, a, rows, ex, e1, kk, q1⟩ => ?_)
  subst ex
  obtain rfl : u = Value.ref a := rx
  obtain ⟨_, hd, xs, rel, dd⟩ := nd_at I1 e1 kk
  refine ⟨dd.typeIs, fun b q => ?_, ?_⟩
  · cases q
    obtain ⟨ob, _, _, h1, h2, _⟩ := dd
    exact ⟨ob, h1, h2.2.1⟩
  rw [m.trees]
  refine Calls.callWith_builtin rfl (Calls.evalArgs_plain (Calls.spliced_cons (thn (he.run pins s1 σ H1 _ I1 q1) fun iv s2 ⟨y, H2, I2, ry, q2⟩ =>
    Calls.spliced_cons (thn (hf.run pins s2 σ H2 _ I2 q2) fun fv s3 ⟨z, H3, I3, rz, ov, g, q3⟩ => Calls.spliced_nil ?_))))
  obtain ⟨rows3, k, b, e3, kk3, rfl, hk, dk, rfl⟩ := g
  cases (show iv = Value.ref b from ry)
  obtain ⟨_, hd3, xs3, rel3, dd3⟩ := nd_at I3 e3 kk3
  refine call_meetsIn PySem.F.slot_dict_get dd3.typeIs PySem.F.entry_dict_get (PySem.F.args_dict_get_3 _ _ _) (meetsH_dict_get_default (nestedKind X.prog X.w) a b hd3 fv) ⟨?_, k, xs3, ⟨nk_is I3 hk rfl, dk⟩, dd3, _, H3, I3.tok _, ?_, q3⟩
  · show X.A.units + _ + 8 < cLine
    omega
  · rcases rel_at rel3 k with ⟨g1, g2⟩ | ⟨v', p, g1, g2, rv⟩
    · rw [g1, g2]; exact rz
    · rw [g1, g2]; exact rv
end
/-- len(d) -/
def rLenN (P : Program) (w : World) (K : PySem.W.Frag) : List V → Hp → VK → Prop := fun xs H Q => ∃ (p : Addr) (rows : List NRow), xs = [.ref p] ∧ H p = some (NdO P w p rows) ∧ KeysN K H rows ∧ Q (.int ((rows.length : Nat) : Int)) H
theorem lenN {X : Cx} {P : Program} {w : World} {K : PySem.W.Frag} (hP : X.prog = P) (hw : X.w = w) (hK : X.K = K) : CallR X (.builtin "len") (rLenN P w K) := by
  subst hP hw hK
  intro pins s σ H xs us Q I r h
  obtain ⟨p, rows, rfl, e, kk, q⟩ := h
  rw [Vals.ref1 r]
  obtain ⟨z, hd, ys, rel, dd⟩ := nd_at I e kk
  have hl := rel.length
  refine call_len_dictH hd dd (by rw [← hl]; rw [sizeLine_eq] at z; omega) ⟨_, H, I.tok _, ?_, q⟩
  exact ⟨_, by rw [hl]⟩
/-- a dict of this kind is neither list nor tuple -/
theorem nd_lst {P : Program} {w : World} {a : Addr} {rows : List NRow} {xs : List V} : HO.lst xs ≠ NdO P w a rows := fun z => by unfold NdO at z; cases z
theorem nd_tup {P : Program} {w : World} {a : Addr} {rows : List NRow} {xs : List V} : HO.tup xs ≠ NdO P w a rows := fun z => by unfold NdO at z; cases z
theorem nd_frz {P : Program} {w : World} {a : Addr} {rows : List NRow} {o : Obj} {u : HO} : HO.frz o u ≠ NdO P w a rows := fun z => by unfold NdO at z; cases z
theorem kp_nd {P : Program} {w : World} {H : Hp} {a : Addr} {rows : List NRow} (e : H a = some (NdO P w a rows)) (o : HO) : Kp H (upd H a o) :=
  ⟨fun c xs h => by rw [upd_ne (ne_of h e nd_tup)]; exact h, fun c q u h => by rw [upd_ne (ne_of h e nd_frz)]; exact h⟩
end VDN

set_option Elab.async false
set_option linter.all false
set_option maxRecDepth 100000
set_option maxHeartbeats 400000
namespace LW
open PySem PySem.Spec PyProof.Rows L2 LamX NdefX VB VM VP VE VX VDN
abbrev s__law_marks : Stmt := top 41
theorem sc__law_marks : FnScope ["keys", "table", "found", "key"] ["keys"] (defScope s__law_marks) := ⟨rfl, rfl, rfl, by decide +kernel, rfl, by decide +kernel, by decide +kernel⟩
section
variable {P : Program} {w : World} {K : PySem.W.Frag} {mg : Str → Option Value} {base : Heap}
abbrev KRow := Addr × NestedKey
def KeysL (K : PySem.W.Frag) (H : Hp) (L : List KRow) : Prop := ∀ p ∈ L, NK K H p.2 (.ref p.1) ∧ p.2.depth ≤ 8
theorem KeysL.kp {H H' : Hp} {L : List KRow} (h : KeysL K H L) (x : Kp H H') : KeysL K H' L := fun p hp => ⟨(h p hp).1.kp x, (h p hp).2⟩
/-- numbers of keys, the same for the same -/
def spMarks (K : PySem.W.Frag) : Sp := fun vs H Q _ => ∃ (l : Addr) (L : List KRow), vs = [.ref l] ∧ SqL K H l (refs L) ∧ KeysL K H L ∧ L.length ≤ 1000 ∧
  ∀ (q : Addr) (H' : Hp) (ms : List Int), Same H H' → H q = none → H' q = some (.lst (ms.map V.int)) → ms.length = L.length → (∀ m ∈ ms, 0 ≤ m ∧ m < 1000) → Q (.ref q) H'
theorem c_marks (D : Df K mg "_law_marks" s__law_marks) (z_len : mg "len" = none) : C8.Cal P w K mg base 1 "_law_marks" (spMarks K) [] := by
  refine D.cal sc__law_marks (fun _ _ _ _ _ _ us hl => match us, hl with | [_], _ => rfl) (fun vs H Q E h => ?_) (fun f cdv A outer s0 H vs Q E hr h => ?_)
  · obtain ⟨l, L, rfl, _⟩ := h
    rfl
  obtain ⟨l, L, rfl, hS, hK, len, q⟩ := h
  refine ⟨_, (pss_cons (ps_set (i := 1) sc__law_marks.nd rfl (Or.inl rfl) (VDN.pe_nnew (P := P) (w := w) rfl rfl))
    (pss_cons (ps_set (i := 2) sc__law_marks.nd rfl (Or.inl rfl) (pe_lst pa_nil))
    (pss_cons (ps_for PassesOwn.never rfl (pi_list (pv 0)) (pg_name (i := 3) sc__law_marks.nd rfl (Or.inl rfl))
      (pss_cons (ps_if (pt_cmp (VDN.pc_nnotin (P := P) (w := w) (K := K) rfl rfl rfl (VDN.un60 hr) (pv 3) (pv 1)))
        (pss_one (VDN.ps_nput (P := P) (w := w) (K := K) rfl rfl rfl (VDN.un60 hr) (pv 1) (pv 3) (pe_callB (VDN.lenN (P := P) (w := w) (K := K) rfl rfl rfl) (by rfl) z_len PySem.boot_len (pa_cons (pv 1) pa_nil)) rfl))
        pss_nil)
      (pss_one (ps_expr (pe_bm PySem.F.plainAttrs_list PySem.F.slot_list_append PySem.F.type_list_append mt_append (pv 2) (pa_cons (VDN.pe_nget (P := P) (w := w) (K := K) rfl rfl rfl (VDN.un60 hr) (pv 1) (pv 3) (fun _ _ => rfl)) pa_nil))))))
    (pss_one (ps_ret (pv 2)))))), ?_⟩
  have zl := sizeLine_eq
  refine fun tb nt => ?_
  have s1 := same_upd nt (NdO P w tb [])
  have ht1 : upd H tb (NdO P w tb []) tb = some (NdO P w tb []) := upd_same
  generalize upd H tb (NdO P w tb []) = H1 at s1 ht1 ⊢
  refine ⟨Nat.zero_le _, fun fd nf => ?_⟩
  have s2 := s1.trans (same_upd nf (.lst []))
  have ht2 := same_upd nf (.lst []) _ _ ht1
  have hf2 : upd H1 fd (.lst []) fd = some (.lst (([] : List Int).map V.int)) := upd_same
  have nfH := s1.free nf
  have ntf : tb ≠ fd := ne_of_none ht1 nf
  generalize upd H1 fd (.lst []) = H2 at s2 ht2 hf2 ⊢
  refine ⟨_, rfl, l, rfl, ⟨_, s2.seq hS⟩, for_list (K := K) (a := l) (xs := refs L)
    (fun i σ H' => ∃ (r3 : Option V) (rows : List NRow) (ms : List Int), σ = [some (.ref l), some (.ref tb), some (.ref fd), r3] ∧ Same H H' ∧ H' tb = some (NdO P w tb rows) ∧ KeysN K H' rows ∧ rows.length ≤ i ∧ (∀ k v, valN rows k = some v → ∃ m : Int, v = .int m ∧ 0 ≤ m ∧ m < i) ∧
      H' fd = some (.lst (ms.map V.int)) ∧ ms.length = i ∧ ∀ m ∈ ms, 0 ≤ m ∧ m < i)
    ⟨none, [], [], rfl, s2, ht2, fun p hp => absurd hp List.not_mem_nil, Nat.le_refl _, fun k v h => (by cases h), hf2, rfl, fun m hm => absurd hm List.not_mem_nil⟩ (fun i σ H' _ ⟨_, _, _, _, z, _⟩ => z.seq hS) ?_ ?_⟩
  · rintro i v σ H3 hv ⟨r3, rows, ms, rfl, s3, ht3, kk, lr, vals, hf3, lm, bm⟩
    obtain ⟨e, he, rfl⟩ := refs_at hv
    have ein := List.mem_of_getElem? he
    have lti := (List.getElem?_eq_some_iff.mp he).1
    have ke := (hK.kp (Kp.of s3)) e ein
    refine VJ.seqJ (fun σ H' => ∃ rows m, σ = [some (.ref l), some (.ref tb), some (.ref fd), some (.ref e.1)] ∧ Same H H' ∧ H' tb = some (NdO P w tb rows) ∧ KeysN K H' rows ∧ rows.length ≤ i + 1 ∧ (∀ k v, valN rows k = some v → ∃ m : Int, v = .int m ∧ 0 ≤ m ∧ m < (i + 1 : Nat)) ∧ valN rows e.2 = some (.int m) ∧
      H' fd = some (.lst (ms.map V.int))) (fun N hN => ?_) (fun σ H4 ⟨rows4, m, eσ, s4, ht4, kk4, lr4, vals4, em, hf4⟩ => ?_)
    · refine ⟨_, rfl, _, rfl, tb, _, rfl, ⟨rows, e.2, e.1, ht3, kk, rfl, ke.1, ke.2, rfl⟩, _, rfl, ?_⟩
      cases hv2 : valN rows e.2 with
      | some u =>
        obtain ⟨m, rfl, m0, m1⟩ := vals _ _ hv2
        refine iteF (hN _ _ ⟨rows, m, rfl, s3, ht3, kk, by omega, fun k v h => ?_, hv2, hf3⟩)
        obtain ⟨m', e1, e2, e3⟩ := vals k v h
        exact ⟨m', e1, e2, by omega⟩
      | none =>
        refine iteT ?_
        refine ⟨_, rfl, tb, rows, rfl, ht3, kk, _, rfl, _, rfl, tb, _, rfl, ⟨rows, e.2, e.1, ht3, kk, rfl, ke.1, ke.2, by omega, rfl⟩, ?_⟩
        have kp := kp_nd ht3 (NdO P w tb (putN rows e.2 e.1 (.int ((rows.length : Nat) : Int))))
        have ll := putN_len rows e.2 e.1 (.int ((rows.length : Nat) : Int))
        refine hN _ _ ⟨_, ((rows.length : Nat) : Int), rfl, sameIn s3 nt, upd_same, (kk.put _ ke.1 ke.2).kp kp, by omega, fun k v h => ?_, by rw [valN_put, if_pos rfl], by rw [upd_ne (ne_of hf3 ht3 nd_lst)]; exact hf3⟩
        rw [valN_put] at h
        by_cases c : k = e.2
        · rw [if_pos c] at h
          cases h
          exact ⟨_, rfl, by omega, by omega⟩
        · rw [if_neg c] at h
          obtain ⟨m', e1, e2, e3⟩ := vals k v h
          exact ⟨m', e1, e2, by omega⟩
    · subst eσ
      obtain ⟨m', em', m0, m1⟩ := vals4 _ _ em
      cases em'
      have ke4 := (hK.kp (Kp.of s4)) e ein
      refine ⟨_, rfl, .inl ⟨rfl, _, SqL.of hf4⟩, _, rfl, _, rfl, tb, _, rfl, ⟨rows4, e.2, e.1, ht4, kk4, rfl, ke4.1, ke4.2, em.symm⟩, ?_⟩
      refine ⟨fd, _, _, rfl, rfl, hf4, (by rw [List.length_map]; omega), ?_⟩
      have kp := Kp.updL hf4 (.lst (ms.map V.int ++ [.int m]))
      refine ⟨_, rows4, ms ++ [m], rfl, sameIn s4 nfH, by rw [upd_ne ntf]; exact ht4, kk4.kp kp, lr4, vals4, by rw [upd_same, List.map_append] <;> rfl, by rw [List.length_append, lm] <;> rfl, fun x hx => ?_⟩
      rcases List.mem_append.mp hx with z | z
      · exact ⟨(bm x z).1, by have := (bm x z).2; omega⟩
      · rw [List.mem_singleton.mp z]; exact ⟨m0, m1⟩
  · rintro σ H3 ⟨r3, rows, ms, rfl, s3, ht3, kk, lr, vals, hf3, lm, bm⟩
    rw [refs_len] at lm bm
    exact ⟨_, rfl, q fd H3 ms s3 nfH hf3 lm fun m hm => ⟨(bm m hm).1, by have := (bm m hm).2; omega⟩⟩
end
end LW

set_option Elab.async false
set_option linter.all false
set_option maxRecDepth 100000
set_option maxHeartbeats 400000
/-! pairs of numbers as data; rows of data -/
namespace LW
open PySem PySem.Spec PyProof.Rows L2 LamX NdefX VB VM VP VE VX
section
variable {K : PySem.W.Frag}
abbrev DRow := V × PyData
theorem dpAll_of {H : Hp} {L : List DRow} (h : ∀ p ∈ L, Dp K H p.1 p.2) : DpAll K H (L.map (·.1)) (L.map (·.2)) := by
  induction L with
  | nil => exact .nil
  | cons p L ih => exact .cons (h p List.mem_cons_self) (ih fun q hq => h q (List.mem_cons_of_mem _ hq))
theorem datas_shaped {L : List DRow} (h : ∀ p ∈ L, p.2.canLay0 = true ∧ p.2.depth ≤ 10) : SeqAt.shaped (.list (L.map (·.2))) = true := by
  have k : PyData.canLayAll0 (L.map (·.2)) = true ∧ PyData.depthAll (L.map (·.2)) ≤ 10 := by
    induction L with
    | nil => exact ⟨rfl, Nat.zero_le _⟩
    | cons e L ih =>
      obtain ⟨k1, k2⟩ := ih fun x hx => h x (List.mem_cons_of_mem _ hx)
      obtain ⟨k3, k4⟩ := h e List.mem_cons_self
      rw [List.map_cons]
      refine ⟨by simp [PyData.canLayAll0, k3, k1], ?_⟩
      unfold PyData.depthAll
      omega
  unfold SeqAt.shaped
  rw [show (PyData.list (L.map (·.2))).canLay0 = PyData.canLayAll0 (L.map (·.2)) by rw [PyData.canLay0], k.1, Bool.true_and, decide_eq_true_eq]
  unfold PyData.depth
  omega
abbrev NPair := Int × Int
def npV (p : NPair) : List V := [.int p.1, .int p.2]
def Nps (K : PySem.W.Frag) (H : Hp) (L : List (Addr × NPair)) : Prop := ∀ p ∈ L, SqT K H p.1 (npV p.2)
theorem Nps.kp {K : PySem.W.Frag} {H H' : Hp} {L : List (Addr × NPair)} (h : Nps K H L) (x : Kp H H') : Nps K H' L := fun p hp => x.sqT (h p hp)
def npD (p : NPair) : PyData := .tuple [.int p.1, .int p.2]
theorem npAlike (p q : NPair) : PySem.W.alike (npD p) (npD q) = true := by
  unfold npD
  simp [PySem.W.alike, PySem.W.alikeAll]
theorem npDepth (p : NPair) : (npD p).depth ≤ 10 := by
  unfold npD
  simp [PyData.depth, PyData.depthAll]
theorem npCan (p : NPair) : (npD p).canLay0 = true := by
  unfold npD
  simp [PyData.canLay0, PyData.canLayAll0]
theorem npShaped (p : NPair) : SeqAt.shaped (npD p) = true := by
  unfold SeqAt.shaped
  rw [npCan, Bool.true_and, decide_eq_true_eq]
  have := npDepth p
  omega
theorem npEqv (p q : NPair) : PyData.eqv (npD p) (npD q) = true ↔ p = q := by
  obtain ⟨a, b⟩ := p
  obtain ⟨c, d⟩ := q
  unfold npD
  simp [PyData.eqv, PyData.eqvAll]
def npRows (L : List (Addr × NPair)) : List DRow := L.map fun p => (V.ref p.1, npD p.2)
theorem npRows_V (L : List (Addr × NPair)) : (npRows L).map (·.1) = refs L := by unfold npRows; rw [List.map_map] <;> rfl
theorem npDp {K : PySem.W.Frag} {H : Hp} {a : Addr} {p : NPair} (h : SqT K H a (npV p)) : Dp K H (.ref a) (npD p) := .tup h (.cons (.int _) (.cons (.int _) .nil))
theorem npsDp {H : Hp} {a : Addr} {L : List (Addr × NPair)} (h : SqL K H a (refs L)) (n : Nps K H L) : Dp K H (.ref a) (.list ((npRows L).map (·.2))) :=
  .lst (by rw [← npRows_V] at h; exact h) (dpAll_of fun r hr => by
    obtain ⟨y, hy, rfl⟩ := List.mem_map.mp hr
    exact npDp (n y hy))
theorem npsShaped (L : List (Addr × NPair)) : SeqAt.shaped (.list ((npRows L).map (·.2))) = true := datas_shaped fun r hr => by
  obtain ⟨y, hy, rfl⟩ := List.mem_map.mp hr
  exact ⟨npCan _, npDepth _⟩
theorem npsAny (L : List (Addr × NPair)) (p : NPair) : (((npRows L).map (·.2)).any fun z => PyData.eqv z (npD p)) = decide (p ∈ L.map (·.2)) := by
  rw [Bool.eq_iff_iff, List.any_eq_true, decide_eq_true_eq]
  constructor
  · rintro ⟨z, hz, h⟩
    obtain ⟨r, hr, rfl⟩ := List.mem_map.mp hz
    obtain ⟨y, hy, rfl⟩ := List.mem_map.mp hr
    have h : PyData.eqv (npD y.2) (npD p) = true := h
    rw [npEqv] at h
    exact h ▸ List.mem_map_of_mem hy
  · intro h
    obtain ⟨y, hy, rfl⟩ := List.mem_map.mp h
    exact ⟨npD y.2, List.mem_map.mpr ⟨(V.ref y.1, npD y.2), List.mem_map.mpr ⟨y, hy, rfl⟩, rfl⟩, (npEqv _ _).mpr rfl⟩
theorem npsAt {L : List (Addr × NPair)} {j : Nat} {p : NPair} (h : (L.map (·.2))[j]? = some p) : ((npRows L).map (·.2))[j]? = some (npD p) := by
  rw [List.getElem?_map] at h
  obtain ⟨y, hy, rfl⟩ := Option.map_eq_some_iff.mp h
  unfold npRows
  rw [List.map_map, List.getElem?_map, hy] <;> rfl
theorem npsNot {L : List (Addr × NPair)} (nd : (L.map (·.2)).Nodup) {j : Nat} {p : NPair} (h : (L.map (·.2))[j]? = some p) (m : Nat) (z : PyData) (lt : m < j) (hz : ((npRows L).map (·.2))[m]? = some z) : PyData.eqv z (npD p) = false := by
  unfold npRows at hz
  rw [List.map_map, List.getElem?_map] at hz
  obtain ⟨y, hy, rfl⟩ := Option.map_eq_some_iff.mp hz
  rw [Bool.eq_false_iff]
  intro e
  have e : y.2 = p := (npEqv _ _).mp e
  have hm : (L.map (·.2))[m]? = some p := by rw [List.getElem?_map, hy, ← e] <;> rfl
  obtain ⟨l1, e1⟩ := List.getElem?_eq_some_iff.mp h
  obtain ⟨l2, e2⟩ := List.getElem?_eq_some_iff.mp hm
  have := (List.getElem_inj nd).mp (e2.trans e1.symm)
  omega
end
end LW

set_option Elab.async false
set_option linter.all false
set_option maxRecDepth 100000
set_option maxHeartbeats 400000
namespace LW
open PySem PySem.Spec PyProof.Rows L2 LamX NdefX VB VM VP VE VX
section
variable {P : Program} {w : World} {K : PySem.W.Frag} {mg : Str → Option Value} {base : Heap}
/-- each of some data once: some of them -/
def spOnceD (K : PySem.W.Frag) : Sp := fun vs H Q _ => ∃ (a : Addr) (L : List DRow), vs = [.ref a] ∧ SqL K H a (L.map (·.1)) ∧ (∀ p ∈ L, Dp K H p.1 p.2 ∧ p.2.canLay0 = true ∧ p.2.depth ≤ 10) ∧ L.length ≤ 1000 ∧
  ∀ (p : Addr) (L' : List DRow), H p = none → (∀ x ∈ L', x ∈ L) → L'.length ≤ L.length → Q (.ref p) (upd H p (.lst (L'.map (·.1))))
theorem c_onceD (D : Df K mg "_law_once" s__law_once) : C8.Cal P w K mg base 1 "_law_once" (spOnceD K) [] := by
  refine D.cal sc__law_once (fun _ _ _ _ _ _ us hl => match us, hl with | [_], _ => rfl) (fun vs H Q E h => ?_) (fun f cdv A outer s H vs Q E hr h => ?_)
  · obtain ⟨a, L, rfl, _⟩ := h
    rfl
  obtain ⟨a, L, rfl, hS, hD, hz, q⟩ := h
  refine ⟨_, (pss_cons (ps_set (i := 1) sc__law_once.nd rfl (Or.inl rfl) (pe_lst pa_nil))
    (pss_cons (ps_for PassesOwn.never rfl (pi_list (pv 0)) (pg_name (i := 2) sc__law_once.nd rfl (Or.inl rfl))
      (pss_one (ps_if (pt_cmpR (VP.notInD (K := K) rfl (VP.un65 hr)) (pv 2) (pv 1) rfl)
        (pss_one (ps_expr (pe_bm PySem.F.plainAttrs_list PySem.F.slot_list_append PySem.F.type_list_append mt_append (pv 1) (pa_cons (pv 2) pa_nil))))
        pss_nil)))
    (pss_one (ps_ret (pv 1))))), ?_⟩
  have zl := sizeLine_eq
  refine ⟨Nat.zero_le _, fun l nl => ?_⟩
  have s0 : ∀ o, Same H (upd H l o) := fun o => same_upd nl o
  refine ⟨_, rfl, a, rfl, ⟨_, (s0 _).seq hS⟩, for_list (K := K) (a := a) (xs := L.map (·.1))
    (fun i σ H' => ∃ (rr : Option V) (L' : List DRow), σ = [some (.ref a), some (.ref l), rr] ∧ H' = upd H l (.lst (L'.map (·.1))) ∧ (∀ x ∈ L', x ∈ L) ∧ L'.length ≤ i)
    ⟨none, [], rfl, rfl, fun x z => absurd z List.not_mem_nil, Nat.le_refl _⟩ (fun i σ H' _ ⟨_, _, _, e, _⟩ => by rw [e]; exact (s0 _).seq hS) ?_ ?_⟩
  · rintro i v σ H' hv ⟨rr, L', rfl, rfl, sub, len⟩
    rw [List.getElem?_map] at hv
    obtain ⟨p, hp, rfl⟩ := Option.map_eq_some_iff.mp hv
    have pin := List.mem_of_getElem? hp
    have small : i < L.length := (List.getElem?_eq_some_iff.mp hp).1
    have kp := Kp.of (s0 (.lst (L'.map (·.1))))
    have hl : upd H l (.lst (L'.map (·.1))) l = some (.lst (L'.map (·.1))) := upd_same
    have dp : ∀ x ∈ L, Dp K (upd H l (.lst (L'.map (·.1)))) x.1 x.2 := fun x hx => VB.Dp.same (s0 _) _ _ (hD x hx).1
    obtain ⟨_, c1, c2⟩ := hD p pin
    refine ⟨_, rfl, _, rfl, _, _, dp p pin, .lst (SqL.of hl) (dpAll_of fun x hx => dp x (sub x hx)), ?_, datas_shaped fun x hx => (hD x (sub x hx)).2, _, rfl, ?_⟩
    · unfold SeqAt.shaped
      rw [c1, Bool.true_and, decide_eq_true_eq]
      omega
    refine ite2 (fun c => ?_) (fun c => ?_)
    · refine ⟨_, rfl, .inl ⟨rfl, _, SqL.of hl⟩, _, rfl, l, _, _, rfl, rfl, hl, (by rw [List.length_map]; omega), ?_⟩
      refine ⟨_, L' ++ [p], rfl, by rw [upd_upd, List.map_append] <;> rfl, fun x hx => ?_, by rw [List.length_append, List.length_singleton]; omega⟩
      rcases List.mem_append.mp hx with z | z
      · exact sub x z
      · rw [List.mem_singleton.mp z]; exact pin
    · exact ⟨_, L', rfl, rfl, sub, by omega⟩
  · rintro σ H' ⟨rr, L', rfl, rfl, sub, len⟩
    rw [List.length_map] at len
    exact ⟨_, rfl, q l L' nl sub len⟩
end
end LW

set_option Elab.async false
set_option linter.all false
set_option maxRecDepth 100000
set_option maxHeartbeats 4000000
namespace LW
open PySem PySem.Spec PyProof.Rows L2 LamX NdefX VB VM VP VE VX
section
variable {P : Program} {w : World} {K : PySem.W.Frag} {mg : Str → Option Value} {base : Heap}
theorem srt {α : Type} {lt : α → α → Prop} [DecidableRel lt] (tri : ∀ a b, ¬ lt a b → ¬ lt b a → a = b) (tr : ∀ a b c, lt a b → lt b c → lt a c) (ir : ∀ a, ¬ lt a a) {le : Addr × α → Addr × α → Bool} (hle : ∀ a b, le a b = !decide (lt b.2 a.2))
    {L : List (Addr × α)} (nd : (L.map (·.2)).Nodup) : ((L.mergeSort le).map (·.2)).Pairwise lt := by
  have z : (L.mergeSort le).map (·.2) = (L.map (·.2)).mergeSort fun a b => !decide (lt b a) := List.map_mergeSort fun a _ b _ => hle a b
  rw [z]
  exact asc_of_sorted tri (fun a b => rfl) tr ir nd
theorem srtE {L : List (Addr × Ed)} (nd : (L.map (·.2)).Nodup) : ((L.mergeSort (PySem.W.dataLe false encE)).map (·.2)).Pairwise ltE :=
  srt (fun a b h g => ltE_tri h g) (fun a b c => ltE_trans) ltE_irrefl (fun a b => by show (!PySem.W.dataLt (edD b.2) (edD a.2)) = _; rw [dataLt_ed]) nd
theorem srtP {L : List (Addr × Pr)} (nd : (L.map (·.2)).Nodup) : ((L.mergeSort (PySem.W.dataLe false encP)).map (·.2)).Pairwise ltP :=
  srt (fun a b h g => ltP_tri h g) (fun a b c => ltP_trans) ltP_irrefl (fun a b => by show (!PySem.W.dataLt (pqD b.2) (pqD a.2)) = _; rw [dataLt_pr]) nd
theorem mem_srt {α : Type} {le : Addr × α → Addr × α → Bool} {L : List (Addr × α)} {e : α} : e ∈ (L.mergeSort le).map (·.2) ↔ e ∈ L.map (·.2) := ((List.mergeSort_perm L le).map _).mem_iff
theorem alikeE (L : List (Addr × Ed)) : PySem.W.AllAlike (L.map encE) := fun d hd d' hd' => by
  obtain ⟨x, _, rfl⟩ := List.mem_map.mp hd
  obtain ⟨y, _, rfl⟩ := List.mem_map.mp hd'
  rfl
theorem alikeP (L : List (Addr × Pr)) : PySem.W.AllAlike (L.map encP) := fun d hd d' hd' => by
  obtain ⟨x, _, rfl⟩ := List.mem_map.mp hd
  obtain ⟨y, _, rfl⟩ := List.mem_map.mp hd'
  rfl
theorem sortableE (L : List (Addr × Ed)) : PySem.W.Sortable (L.map encE) := .inl fun d hd => by
  obtain ⟨x, _, rfl⟩ := List.mem_map.mp hd
  exact ⟨_, _, rfl⟩
theorem sortableP (L : List (Addr × Pr)) : PySem.W.Sortable (L.map encP) := .inl fun d hd => by
  obtain ⟨x, _, rfl⟩ := List.mem_map.mp hd
  exact ⟨_, _, rfl⟩
theorem depthE (e : Addr × Ed) : (encE e).depth ≤ 8 := by
  show (edD e.2).depth ≤ 8
  simp [edD, PyData.depth, PyData.depthAll]
theorem depthP (e : Addr × Pr) : (encP e).depth ≤ 8 := by
  show (pqD e.2).depth ≤ 8
  simp [pqD, PyData.depth, PyData.depthAll]
theorem eds_slim : ∀ L : List Ed, slimAll 100000 (L.map edD) = true
  | [] => rfl
  | e :: L => by
    rw [List.map_cons]
    unfold slimAll
    rw [eds_slim L, Bool.and_true]
    simp [edD, slimD, slimAll]
theorem eds_depth : ∀ L : List Ed, PyData.depthAll (L.map edD) ≤ 1
  | [] => Nat.zero_le _
  | e :: L => by
    rw [List.map_cons]
    unfold PyData.depthAll
    have z := eds_depth L
    have y : (edD e).depth = 1 := by simp [edD, PyData.depth, PyData.depthAll]
    omega
theorem cutV_refs {α : Type} (L : List (Addr × α)) (lo hi : Option Int) : ∃ L2 : List (Addr × α), cutV (refs L) lo hi = refs L2 ∧ (∀ x ∈ L2, x ∈ L) ∧ L2.length ≤ L.length := by
  unfold cutV
  refine ⟨(L.drop (HT.sIx (refs L).length 0 lo)).take (HT.sIx (refs L).length (refs L).length hi - HT.sIx (refs L).length 0 lo), ?_, fun x hx => List.mem_of_mem_drop (List.mem_of_mem_take hx), ?_⟩
  · unfold refs
    rw [List.map_take, List.map_drop]
  · rw [List.length_take, List.length_drop]
    omega
theorem okE_mono {n m : Int} (h : n ≤ m) {e : Ed} (o : okE n e) : okE m e := ⟨o.1, Int.lt_of_lt_of_le o.2.1 h, o.2.2.1, Int.lt_of_lt_of_le o.2.2.2.1 h, o.2.2.2.2⟩
theorem but_same {pa : Addr} {H H1 H2 : Hp} (s : Same H H1) (b : But pa H1 H2) (f : H pa = none) : Same H H2 := fun c o e => b c o (ne_of_none e f) (s c o e)
theorem strs_slim : ∀ ss : List Str, slimAll 100000 (ss.map PyData.str) = true
  | [] => rfl
  | s :: ss => by rw [List.map_cons]; unfold slimAll; rw [strs_slim ss] <;> rfl
theorem strs_depth : ∀ ss : List Str, PyData.depthAll (ss.map PyData.str) = 0
  | [] => rfl
  | s :: ss => by rw [List.map_cons]; unfold PyData.depthAll; rw [strs_depth ss] <;> rfl
theorem ints_slim : ∀ ss : List Int, slimAll 100000 (ss.map PyData.int) = true
  | [] => rfl
  | s :: ss => by rw [List.map_cons]; unfold slimAll; rw [ints_slim ss] <;> rfl
theorem ints_depth : ∀ ss : List Int, PyData.depthAll (ss.map PyData.int) = 0
  | [] => rfl
  | s :: ss => by rw [List.map_cons]; unfold PyData.depthAll; rw [ints_depth ss] <;> rfl
theorem dpAll_ints {H : Hp} : ∀ ss : List Int, DpAll K H (ss.map V.int) (ss.map PyData.int)
  | [] => .nil
  | s :: ss => .cons (.int s) (dpAll_ints ss)
theorem prs_slim : ∀ L : List Pr, slimAll 100000 (L.map pqD) = true
  | [] => rfl
  | e :: L => by
    rw [List.map_cons]
    unfold slimAll
    rw [prs_slim L, Bool.and_true]
    simp [pqD, slimD, slimAll]
theorem prs_depth : ∀ L : List Pr, PyData.depthAll (L.map pqD) ≤ 1
  | [] => Nat.zero_le _
  | e :: L => by
    rw [List.map_cons]
    unfold PyData.depthAll
    have z := prs_depth L
    have y : (pqD e).depth = 1 := by simp [pqD, PyData.depth, PyData.depthAll]
    omega
theorem srtS_len (l : List Str) : (srtS l).length ≤ l.length := by
  unfold srtS
  rw [List.length_mergeSort]
  exact Nat.le_trans (onceG_len l []) (by rw [List.length_nil]; omega)
theorem ints_dep (cs : List Int) : (PyData.tuple (cs.map PyData.int)).depth < 4 := by
  have z := ints_depth cs
  unfold PyData.depth
  omega
theorem ints_sli {cs : List Int} (h : cs.length ≤ 100000) : slimD 100000 (.tuple (cs.map PyData.int)) = true := by
  simp only [slimD, List.length_map, ints_slim, Bool.and_true, decide_eq_true_eq]
  exact h
theorem dpT {H : Hp} {a : Addr} {cs : List Int} (h : H a = some (.tup (cs.map V.int))) : Dp K H (.ref a) (.tuple (cs.map PyData.int)) := .tup (.inl (.inl h)) (dpAll_ints _)
theorem atI_last (ys : List V) (v : V) : atI (ys ++ [v]) (-1) = some v := by
  unfold atI ixN
  rw [if_neg (by decide), List.length_append, List.length_singleton]
  rw [if_pos (by omega)]
  show (ys ++ [v])[((-1 : Int) + ((ys.length + 1 : Nat) : Int)).toNat]? = some v
  rw [show ((-1 : Int) + ((ys.length + 1 : Nat) : Int)).toNat = ys.length by omega, List.getElem?_append_right (Nat.le_refl _), Nat.sub_self] <;> rfl
theorem ints_shaped (cs : List Int) : SeqAt.shaped (.tuple (cs.map PyData.int)) = true := by
  have k : PyData.canLayAll0 (cs.map PyData.int) = true := by
    induction cs with
    | nil => rfl
    | cons c cs ih => rw [List.map_cons]; simp [PyData.canLayAll0, PyData.canLay0, ih]
  have z := ints_depth cs
  unfold SeqAt.shaped
  rw [show (PyData.tuple (cs.map PyData.int)).canLay0 = PyData.canLayAll0 (cs.map PyData.int) by rw [PyData.canLay0], k, Bool.true_and, decide_eq_true_eq]
  unfold PyData.depth
  omega
theorem eqv_nil (cs : List Int) : (!PyData.eqv (.tuple (cs.map PyData.int)) (.tuple [])) = decide (cs ≠ []) := by
  cases cs with
  | nil => rfl
  | cons c cs => simp [PyData.eqv, PyData.eqvAll]
theorem pickI {α : Type} (xs : List α) (f : α → V) {r : Int} (h0 : 0 ≤ r) (h1 : r < xs.length) : ∃ x ∈ xs, atI (xs.map f) r = some (f x) := by
  have lt : r.toNat < xs.length := by omega
  refine ⟨xs[r.toNat], List.getElem_mem lt, ?_⟩
  have e : r = ((r.toNat : Nat) : Int) := by omega
  generalize hj : r.toNat = j at lt e
  subst e
  exact atI_nat (by rw [List.getElem?_map, List.getElem?_eq_getElem (by omega)] <;> simp [hj])
section
variable {C pa : Addr} {φ : Addr → Prop} {x : Addr} {n : Int} {E : List Ed} {H H' : Hp}
theorem sys_but {ys : List V} (S : SysAt K φ C H x n E) (b : But pa H H') (hp : H pa = some (.lst ys)) (nf : ¬ φ pa) : SysAt K φ C H' x n E :=
  S.stay (Kp.ofBut b hp) (fun c c' d fs h => (b c _ (ne_of h hp (fun z => nomatch z)) h).trans h.symm) (fun c kvs h => (b c _ (ne_of h hp (fun z => nomatch z)) h).trans h.symm) fun c xs h z => ⟨(b c _ (fun e => nf (by rw [← e]; exact z)) h).trans h.symm, z⟩
end
end
end LW

set_option Elab.async false
set_option linter.all false
set_option maxRecDepth 100000
set_option maxHeartbeats 400000
namespace LW
open PySem PySem.Spec PyProof.Rows L2 LamX NdefX VB VM VP VE VX VDN
section
variable {P : Program} {w : World} {K : PySem.W.Frag} {mg : Str → Option Value} {base : Heap}
/-- lists of so many numbers -/
def MksL (H : Hp) (n : Nat) (Ms : List (Addr × List Int)) : Prop := ∀ p ∈ Ms, H p.1 = some (.lst (p.2.map V.int)) ∧ p.2.length = n ∧ ∀ m ∈ p.2, 0 ≤ m ∧ m < 1000
theorem MksL.same {H H' : Hp} {n : Nat} {Ms : List (Addr × List Int)} (h : MksL H n Ms) (s : Same H H') : MksL H' n Ms := fun p hp => ⟨s _ _ (h p hp).1, (h p hp).2⟩
def spRounds (K : PySem.W.Frag) : Sp := fun vs H Q _ => ∃ (q0 m0 : Addr) (n : Int) (E : List Ed) (rows : List Addr) (ms : List Int), vs = [.ref q0, .ref m0] ∧ RwAt K H q0 n E rows ∧ MksL H n.toNat [(m0, ms)] ∧ 1 ≤ n ∧ n ≤ 60 ∧ (∀ x ∈ E, okE n x) ∧ E.length ≤ 1000 ∧
  ∀ (q : Addr) (H' : Hp) (Ms : List (Addr × List Int)), Same H H' → H' q = some (.lst (refs Ms)) → MksL H' n.toNat Ms → Ms ≠ [] → Ms.length ≤ 100 → Q (.ref q) H'
theorem pre_map {α β : Type} {g : α → β} {L : List α} : ∀ {L' : List β}, (∀ x ∈ L', x ∈ L.map g) → ∃ M : List α, L' = M.map g ∧ ∀ y ∈ M, y ∈ L
  | [], _ => ⟨[], rfl, fun y h => absurd h List.not_mem_nil⟩
  | x :: t, h => by
    obtain ⟨y, hy, e⟩ := List.mem_map.mp (h x List.mem_cons_self)
    obtain ⟨M, e2, h2⟩ := pre_map (L' := t) fun z hz => h z (List.mem_cons_of_mem _ hz)
    refine ⟨y :: M, by rw [List.map_cons, e, e2], fun z hz => ?_⟩
    rcases List.mem_cons.mp hz with w | w
    · rw [w]; exact hy
    · exact h2 z w
theorem last_refs {α : Type} {L : List (Addr × α)} (h : L ≠ []) : ∃ p ∈ L, atI (refs L) (-1) = some (.ref p.1) := by
  obtain ⟨M, p, rfl⟩ : ∃ M p, L = M ++ [p] := ⟨L.dropLast, L.getLast h, (List.dropLast_concat_getLast h).symm⟩
  refine ⟨p, List.mem_append_right _ List.mem_cons_self, ?_⟩
  rw [refs_snoc]
  exact atI_last _ _
def intRows (ms : List Int) : List DRow := ms.map fun m => (V.int m, PyData.int m)
def prRows (L : List (Addr × Pr)) : List DRow := L.map fun p => (V.ref p.1, pqD p.2)
theorem intRows_V (ms : List Int) : (intRows ms).map (·.1) = ms.map V.int := by unfold intRows; rw [List.map_map] <;> rfl
theorem prRows_V (L : List (Addr × Pr)) : (prRows L).map (·.1) = refs L := by unfold prRows; rw [List.map_map] <;> rfl
def pairKeys (L : List (Addr × Pr)) : List NestedKey := L.map fun x => NestedKey.tup [.text x.2.1, .num x.2.2]
def pairKey (m : Int) (L : List (Addr × Pr)) : NestedKey := .tup [.num m, .tup (pairKeys L)]
theorem nks_pairs {K : PySem.W.Frag} {H : Hp} {L : List (Addr × Pr)} (h : Pqs K H L) : NKs K H (pairKeys L) (refs L) := by
  induction L with
  | nil => exact .nil
  | cons x L ih => exact .cons (.tup (h x List.mem_cons_self) (.cons (.str _) (.cons (.int _) .nil))) (ih fun y hy => h y (List.mem_cons_of_mem _ hy))
theorem pairKey_depth (m : Int) (L : List (Addr × Pr)) : (pairKey m L).depth ≤ 8 := by
  have h : NestedKey.depthAll (pairKeys L) ≤ 2 := by
    induction L with
    | nil => exact Nat.zero_le _
    | cons x L ih =>
      show NestedKey.depthAll (NestedKey.tup [.text x.2.1, .num x.2.2] :: pairKeys L) ≤ 2
      simp only [NestedKey.depthAll, NestedKey.depth]
      omega
  unfold pairKey
  simp only [NestedKey.depthAll, NestedKey.depth]
  omega
theorem actsOk : ∀ x ∈ acts, PyData.strOk x = true := by decide +kernel
end
end LW

set_option Elab.async false
set_option linter.all false
set_option maxRecDepth 100000
set_option maxHeartbeats 400000
namespace LW
open PySem PySem.Spec PyProof.Rows L2 LamX NdefX VB VM VP VE VX VDN
abbrev s__law_folded : Stmt := top 42
theorem sc__law_folded : FnScope ["labels", "moves", "marks", "action", "target", "k", "turn", "order", "nodes", "place", "row"] ["labels", "moves"] (defScope s__law_folded) := ⟨rfl, rfl, rfl, by decide +kernel, rfl, by decide +kernel, by decide +kernel⟩
section
variable {P : Program} {w : World} {K : PySem.W.Frag} {mg : Str → Option Value} {base : Heap}
/-- a label: offers, and whether it is lost -/
abbrev LabR := Addr × (Addr × List (Addr × List Str) × Bool)
structure LabAt (K : PySem.W.Frag) (H : Hp) (x : LabR) : Prop where
  n : SqT K H x.1 [.ref x.2.1, .bl x.2.2.2]
  o : SqT K H x.2.1 (refs x.2.2.1)
  oe : ∀ y ∈ x.2.2.1, SqT K H y.1 (y.2.map V.str)
abbrev MvR := Addr × List (Addr × Pr)
/-- a label and its actions as a key -/
def labKey (O : List (Addr × List Str)) (b : Bool) (as : List Str) : NestedKey := .tup [.tup [.tup (O.map fun o => NestedKey.tup (o.2.map NestedKey.text)), .num (if b = true then 1 else 0)], .tup (as.map NestedKey.text)]
theorem nks_texts {H : Hp} : ∀ ss : List Str, NKs K H (ss.map NestedKey.text) (ss.map V.str)
  | [] => .nil
  | x :: ss => .cons (.str x) (nks_texts ss)
theorem nks_offers {H : Hp} : ∀ (O : List (Addr × List Str)), (∀ y ∈ O, SqT K H y.1 (y.2.map V.str)) → NKs K H (O.map fun o => NestedKey.tup (o.2.map NestedKey.text)) (refs O)
  | [], _ => .nil
  | x :: O, h => .cons (.tup (h x List.mem_cons_self) (nks_texts x.2)) (nks_offers O fun y hy => h y (List.mem_cons_of_mem _ hy))
theorem texts_dep (ss : List Str) : NestedKey.depthAll (ss.map NestedKey.text) ≤ 1 := by
  induction ss with
  | nil => simp [NestedKey.depthAll]
  | cons x ss ih =>
    simp only [List.map_cons, NestedKey.depthAll, NestedKey.depth]
    omega
theorem offers_dep (O : List (Addr × List Str)) : NestedKey.depthAll (O.map fun o => NestedKey.tup (o.2.map NestedKey.text)) ≤ 3 := by
  induction O with
  | nil => simp [NestedKey.depthAll]
  | cons x O ih =>
    have := texts_dep x.2
    simp only [List.map_cons, NestedKey.depthAll, NestedKey.depth]
    omega
theorem labKey_dep (O : List (Addr × List Str)) (b : Bool) (as : List Str) : (labKey O b as).depth ≤ 8 := by
  have h1 := offers_dep O
  have h2 := texts_dep as
  unfold labKey
  simp only [NestedKey.depthAll, NestedKey.depth]
  omega
theorem flatI3 (o : List Int) : (o.map V.int).all flatV = true := by
  rw [List.all_eq_true]
  intro v hv
  obtain ⟨x, _, rfl⟩ := List.mem_map.mp hv
  rfl
theorem ix_first : ∀ (ms : List Int) {o : Int}, o ∈ ms → ∃ j, ms[j]? = some o ∧ ∀ (m : Nat) (z : Int), m < j → ms[m]? = some z → z ≠ o
  | [], _, h => absurd h List.not_mem_nil
  | x :: ms, o, h => by
    by_cases e : x = o
    · exact ⟨0, by rw [e] <;> rfl, fun m z lt => absurd lt (Nat.not_lt_zero _)⟩
    · obtain ⟨j, h1, h2⟩ := ix_first ms ((List.mem_cons.mp h).resolve_left fun y => e y.symm)
      refine ⟨j + 1, h1, fun m z lt hz => ?_⟩
      cases m with
      | zero => injection hz with hz; rw [← hz]; exact e
      | succ m => exact h2 m z (by omega) hz
theorem ixF {ms : List Int} {o : Int} (ho : o ∈ ms) : ∃ j, ms[j]? = some o ∧ (ms.map V.int)[j]? = some (V.int o) ∧ eqV (.int o) (.int o) = true ∧ ∀ (m : Nat) (z' : V), m < j → (ms.map V.int)[m]? = some z' → eqV z' (.int o) = false := by
  obtain ⟨j, h1, h2⟩ := ix_first ms ho
  refine ⟨j, h1, by rw [List.getElem?_map, h1] <;> rfl, by simp [eqV], fun m z lt hz => ?_⟩
  rw [List.getElem?_map] at hz
  obtain ⟨y, hy, rfl⟩ := Option.map_eq_some_iff.mp hz
  have := h2 m y lt hy
  simp [eqV, this]
def spFold (K : PySem.W.Frag) : Sp := fun vs H Q _ => ∃ (la ma : Addr) (LB : List LabR) (MV : List MvR), vs = [.ref la, .ref ma] ∧ SqL K H la (refs LB) ∧ (∀ x ∈ LB, LabAt K H x) ∧ SqL K H ma (refs MV) ∧ (∀ x ∈ MV, SqL K H x.1 (refs x.2) ∧ Pqs K H x.2 ∧ x.2.length ≤ 100 ∧ ∀ y ∈ x.2, 0 ≤ y.2.2 ∧ y.2.2 < (LB.length : Nat)) ∧ MV.length = LB.length ∧ 1 ≤ LB.length ∧ LB.length ≤ 100 ∧
  ∀ (q fa : Addr) (NL : List NR) (H' : Hp), Same H H' → H' q = some (.lst [.ref fa, .int (LB.length : Nat)]) → H' fa = some (.tup (refs NL)) → NdAll K H' NL → 1 ≤ NL.length → NL.length ≤ LB.length →
    (∀ x ∈ NL, (∃ y ∈ LB, x.2.2.2.2.1 = y.2.2.1 ∧ x.2.2.2.2.2 = y.2.2.2) ∧ (∃ z ∈ MV, x.2.2.2.1.map (·.2.1) = z.2.map (·.2.1)) ∧ ∀ m ∈ x.2.2.2.1, 0 ≤ m.2.2 ∧ m.2.2 < (NL.length : Nat)) → Q (.ref q) H'
theorem c_fold (D : Df K mg "_law_folded" s__law_folded) (z_range : mg "range" = none) (z_len : mg "len" = none) (z_tuple : mg "tuple" = none) (c__law_marks : C8.Cal P w K mg base 1 "_law_marks" (spMarks K) []) : C8.Cal P w K mg base 2 "_law_folded" (spFold K) [] := by
  refine D.cal sc__law_folded (fun _ _ _ _ _ _ us hl => match us, hl with | [_, _], _ => rfl) (fun vs H Q E h => ?_) (fun f cdv A outer s0 H vs Q E hr h => ?_)
  · obtain ⟨_, _, _, _, rfl, _⟩ := h
    rfl
  obtain ⟨la, ma, LB, MV, rfl, hla, hLB, hma, hMV, lMV, l1, l100, q⟩ := h
  refine ⟨_, (pss_cons (ps_set (i := 2) sc__law_folded.nd rfl (Or.inr rfl) (C8.pe_c c__law_marks hr (by first | decide | omega) rfl (pa_cons (pe_lc (own := [("k", 5)]) (tt := tYes) rfl sc__law_folded.nd (pi_range1 rfl z_range (pa_cons (pe_callB (VK.lenQ (K := K) rfl) (by rfl) z_len PySem.boot_len (pa_cons (pv 0) pa_nil)) pa_nil)) (blkOk_by (N := ["labels", "moves", "marks", "action", "target", "k", "turn", "order", "nodes", "place", "row"]) (sc := defScope s__law_folded) (by decide +kernel)) (fun _ _ _ _ _ => (pg_name (i := 5) sc__law_folded.nd rfl (Or.inl rfl) (hf := Or.inr rfl))) (fun _ _ _ _ _ => pts_nil) (fun _ _ _ _ _ => (pe_tup (pa_cons (pe_ix (VK.ixL (K := K) rfl) (pv 0) (pv 5) (fun _ _ => rfl)) (pa_cons (pe_callTy (VK.tupQ (K := K) rfl) (by rfl) z_tuple (by decide +kernel) (pa_cons (pe_lc (own := [("action", 3), ("target", 4)]) (g := gTup K 2 (gCons (gName 3) (gCons (gName 4) gNil))) (tt := tYes) rfl sc__law_folded.nd (VD.piL (K := K) rfl (pe_ix (VK.ixL (K := K) rfl) (pv 1) (pv 5) (fun _ _ => rfl))) (blkOk_by (N := ["labels", "moves", "marks", "action", "target", "k", "turn", "order", "nodes", "place", "row"]) (by rfl)) (fun _ _ _ _ _ => (pg_tup rfl (pgs_cons (pg_name (i := 3) sc__law_folded.nd rfl (Or.inl rfl) (hf := Or.inr rfl)) (pgs_cons (pg_name (i := 4) sc__law_folded.nd rfl (Or.inl rfl) (hf := Or.inr rfl)) pgs_nil)))) (fun _ _ _ _ _ => pts_nil) (fun _ _ _ _ _ => (pv 3))) pa_nil)) pa_nil))))) pa_nil)))
    (pss_cons (ps_for PassesOwn.never rfl (pi_range1 rfl z_range (pa_cons (pe_callB (VK.lenQ (K := K) rfl) (by rfl) z_len PySem.boot_len (pa_cons (pv 0) pa_nil)) pa_nil)) (pg_name (i := 6) sc__law_folded.nd rfl (Or.inl rfl))
      (pss_one (ps_set (i := 2) sc__law_folded.nd rfl (Or.inr rfl) (C8.pe_c c__law_marks hr (by first | decide | omega) rfl (pa_cons (pe_lc (own := [("k", 5)]) (tt := tYes) rfl sc__law_folded.nd (pi_range1 rfl z_range (pa_cons (pe_callB (VK.lenQ (K := K) rfl) (by rfl) z_len PySem.boot_len (pa_cons (pv 0) pa_nil)) pa_nil)) (blkOk_by (N := ["labels", "moves", "marks", "action", "target", "k", "turn", "order", "nodes", "place", "row"]) (sc := defScope s__law_folded) (by decide +kernel)) (fun _ _ _ _ _ => (pg_name (i := 5) sc__law_folded.nd rfl (Or.inl rfl) (hf := Or.inr rfl))) (fun _ _ _ _ _ => pts_nil) (fun _ _ _ _ _ => (pe_tup (pa_cons (pe_ix (VK.ixL (K := K) rfl) (pv 2) (pv 5) (fun _ _ => rfl)) (pa_cons (pe_callTy (VK.tupQ (K := K) rfl) (by rfl) z_tuple (by decide +kernel) (pa_cons (pe_lc (own := [("action", 3), ("target", 4)]) (g := gTup K 2 (gCons (gName 3) (gCons (gName 4) gNil))) (tt := tYes) rfl sc__law_folded.nd (VD.piL (K := K) rfl (pe_ix (VK.ixL (K := K) rfl) (pv 1) (pv 5) (fun _ _ => rfl))) (blkOk_by (N := ["labels", "moves", "marks", "action", "target", "k", "turn", "order", "nodes", "place", "row"]) (by rfl)) (fun _ _ _ _ _ => (pg_tup rfl (pgs_cons (pg_name (i := 3) sc__law_folded.nd rfl (Or.inl rfl) (hf := Or.inr rfl)) (pgs_cons (pg_name (i := 4) sc__law_folded.nd rfl (Or.inl rfl) (hf := Or.inr rfl)) pgs_nil)))) (fun _ _ _ _ _ => pts_nil) (fun _ _ _ _ _ => (pe_tup (pa_cons (pv 3) (pa_cons (pe_ix (VK.ixL (K := K) rfl) (pv 2) (pv 4) (fun _ _ => rfl)) pa_nil))))) pa_nil)) pa_nil))))) pa_nil)))))
    (pss_cons (ps_set (i := 7) sc__law_folded.nd rfl (Or.inl rfl) (pe_lst (pa_cons (pe_ix (VK.ixL (K := K) rfl) (pv 2) pe_int (fun _ _ => rfl)) pa_nil)))
    (pss_cons (ps_set (i := 8) sc__law_folded.nd rfl (Or.inl rfl) (pe_lst pa_nil))
    (pss_cons (ps_for PassesOwn.never rfl (pi_range1 rfl z_range (pa_cons (pe_callB (VK.lenQ (K := K) rfl) (by rfl) z_len PySem.boot_len (pa_cons (pv 0) pa_nil)) pa_nil)) (pg_name (i := 5) sc__law_folded.nd rfl (Or.inl rfl))
      (pss_one (ps_if (pt_cmpR op_lt (pv 5) (pe_callB (VK.lenQ (K := K) rfl) (by rfl) z_len PySem.boot_len (pa_cons (pv 7) pa_nil)) (nomark _))
        (pss_cons (ps_set (i := 9) sc__law_folded.nd rfl (Or.inl rfl) (pe_bm PySem.F.plainAttrs_list PySem.F.slot_list_index PySem.F.type_list_index mt_index (pv 2) (pa_cons (pe_ix (VK.ixL (K := K) rfl) (pv 7) (pv 5) (fun _ _ => rfl)) pa_nil)))
        (pss_cons (ps_set (i := 10) sc__law_folded.nd rfl (Or.inl rfl) (pe_lst pa_nil))
        (pss_cons (ps_for PassesOwn.never rfl (pi_list (pe_ix (VK.ixL (K := K) rfl) (pv 1) (pv 9) (fun _ _ => rfl))) (pg_tup rfl (pgs_cons (pg_name (i := 3) sc__law_folded.nd rfl (Or.inl rfl)) (pgs_cons (pg_name (i := 4) sc__law_folded.nd rfl (Or.inl rfl)) pgs_nil)))
          (pss_cons (ps_if (pt_cmpR (VK.notInQ (K := K) rfl) (pe_ix (VK.ixL (K := K) rfl) (pv 2) (pv 4) (fun _ _ => rfl)) (pv 7) rfl)
            (pss_one (ps_expr (pe_bm PySem.F.plainAttrs_list PySem.F.slot_list_append PySem.F.type_list_append mt_append (pv 7) (pa_cons (pe_ix (VK.ixL (K := K) rfl) (pv 2) (pv 4) (fun _ _ => rfl)) pa_nil))))
            pss_nil)
          (pss_one (ps_expr (pe_bm PySem.F.plainAttrs_list PySem.F.slot_list_append PySem.F.type_list_append mt_append (pv 10) (pa_cons (pe_tup (pa_cons (pv 3) (pa_cons (pe_bm PySem.F.plainAttrs_list PySem.F.slot_list_index PySem.F.type_list_index mt_index (pv 7) (pa_cons (pe_ix (VK.ixL (K := K) rfl) (pv 2) (pv 4) (fun _ _ => rfl)) pa_nil)) pa_nil))) pa_nil))))))
        (pss_one (ps_expr (pe_bm PySem.F.plainAttrs_list PySem.F.slot_list_append PySem.F.type_list_append mt_append (pv 8) (pa_cons (pe_tup (pa_cons (pe_callTy (VK.tupQ (K := K) rfl) (by rfl) z_tuple (by decide +kernel) (pa_cons (pv 10) pa_nil)) (pa_cons (pe_ix (VK.ixT (K := K) rfl) (pe_ix (VK.ixL (K := K) rfl) (pv 0) (pv 9) (fun _ _ => rfl)) pe_int (fun _ _ => rfl)) (pa_cons (pe_ix (VK.ixT (K := K) rfl) (pe_ix (VK.ixL (K := K) rfl) (pv 0) (pv 9) (fun _ _ => rfl)) pe_int (fun _ _ => rfl)) pa_nil)))) pa_nil)))))))
        pss_nil)))
    (pss_one (ps_ret (pe_lst (pa_cons (pe_callTy (VK.tupQ (K := K) rfl) (by rfl) z_tuple (by decide +kernel) (pa_cons (pv 8) pa_nil)) (pa_cons (pe_callB (VK.lenQ (K := K) rfl) (by rfl) z_len PySem.boot_len (pa_cons (pv 0) pa_nil)) pa_nil)))))))))), ?_⟩
  have zl := sizeLine_eq
  have atM : ∀ (k : Nat), k < LB.length → ∃ z, MV[k]? = some z := fun k hk => ⟨_, List.getElem?_eq_getElem (by omega)⟩
  refine ⟨_, rfl, la, _, rfl, .inl hla, (LB.length : Nat), by rw [refs_len], by omega, by omega, fun D1 nD => lc_range (lo := 0) (n := LB.length) (fun j H' => ∃ L : List KRow, Same H H' ∧ H' D1 = some (.lst (refs L)) ∧ KeysL K H' L ∧ L.length = j)
    ⟨[], same_upd nD _, upd_same, fun z hz => absurd hz List.not_mem_nil, rfl⟩ ?_ ?_⟩
  · rintro j H2 hj ⟨L, s2, hD, hL, lL⟩
    obtain ⟨lab, hlab⟩ : ∃ z, LB[j]? = some z := ⟨_, List.getElem?_eq_getElem hj⟩
    obtain ⟨mv, hmv⟩ := atM j hj
    have hatL : atI (refs LB) ((0 : Int) + (j : Nat)) = some (.ref lab.1) := by
      rw [Int.zero_add]; exact atI_nat (by unfold refs; rw [List.getElem?_map, hlab] <;> rfl)
    have hatM : atI (refs MV) ((0 : Int) + (j : Nat)) = some (.ref mv.1) := by
      rw [Int.zero_add]; exact atI_nat (by unfold refs; rw [List.getElem?_map, hmv] <;> rfl)
    obtain ⟨m1, m2, m3, m4⟩ := hMV mv (List.mem_of_getElem? hmv)
    have LA := hLB lab (List.mem_of_getElem? hlab)
    refine VJ.nm ⟨rfl, ?_⟩
    unfold tYes
    refine iteT ?_
    refine ⟨_, rfl, _, rfl, la, _, _, _, rfl, rfl, s2.seq hla, hatL, _, rfl, _, rfl, ma, _, _, _, rfl, rfl, s2.seq hma, hatM, ?_⟩
    refine ⟨mv.1, rfl, ⟨_, s2.seq m1⟩, fun D2 nD2 => ?_⟩
    refine lc_list (K := K) (g := gTup K 2 (gCons (gName 3) (gCons (gName 4) gNil))) (tt := tYes) (te := tVar 3) (vs := [3, 4]) (a := mv.1) (xs := refs mv.2) (fun i H' => Same H2 H' ∧ H' D2 = some (.lst (((mv.2.map (·.2.1)).take i).map V.str)))
      ⟨same_upd nD2 _, upd_same⟩ (fun i H4 _ z => (s2.trans z.1).seq m1) ?_ ?_
    · rintro i v H3 hv ⟨s3, hD2⟩
      obtain ⟨y, hy, rfl⟩ := refs_at hv
      have ltj : i < mv.2.length := (List.getElem?_eq_some_iff.mp hy).1
      have tk : (mv.2.map (·.2.1)).take (i + 1) = (mv.2.map (·.2.1)).take i ++ [y.2.1] := by rw [List.take_succ, List.getElem?_map, hy] <;> rfl
      refine ⟨y.1, _, rfl, m2.kp (Kp.of (s2.trans s3)) y (List.mem_of_getElem? hy), rfl, .str y.2.1, _, rfl, .int y.2.2, _, rfl, rfl, ?_⟩
      refine ⟨rfl, ?_⟩
      unfold tYes
      refine iteT ?_
      refine ⟨_, rfl, _, hD2, by rw [List.length_map, List.length_take, List.length_map]; omega, sameIn s3 nD2, ?_⟩
      rw [upd_same, tk, List.map_append] <;> rfl
    rintro H3 ⟨s3, hD2⟩
    rw [refs_len, List.take_of_length_le (by rw [List.length_map]; exact Nat.le_refl _)] at hD2
    refine ⟨D2, _, rfl, .inl ⟨SqL.of hD2, fun ta nta => ?_⟩⟩
    have s4 := same_upd nta (.tup ((mv.2.map (·.2.1)).map V.str))
    refine ⟨(by show 2 ≤ sizeLine; omega), fun kp nkp => ?_⟩
    have s5 := same_upd nkp (.tup [.ref lab.1, .ref ta])
    have hkp : upd (upd H3 ta (.tup ((mv.2.map (·.2.1)).map V.str))) kp (.tup [.ref lab.1, .ref ta]) kp = some (.tup [.ref lab.1, .ref ta]) := upd_same
    have hta : upd (upd H3 ta (.tup ((mv.2.map (·.2.1)).map V.str))) kp (.tup [.ref lab.1, .ref ta]) ta = some (.tup ((mv.2.map (·.2.1)).map V.str)) := s5 _ _ upd_same
    have s35 := s3.trans (s4.trans s5)
    generalize upd (upd H3 ta (.tup ((mv.2.map (·.2.1)).map V.str))) kp (.tup [.ref lab.1, .ref ta]) = H5 at s35 hkp hta ⊢
    have hD5 := s35 _ _ hD
    have s25 := s2.trans s35
    have k6 := (Kp.of s35).trans (Kp.updL hD5 (.lst (refs L ++ [.ref kp])))
    have k7 := Kp.updL hD5 (.lst (refs L ++ [.ref kp]))
    refine ⟨_, hD5, by rw [refs_len]; omega, L ++ [(kp, labKey lab.2.2.1 lab.2.2.2 (mv.2.map (·.2.1)))], sameIn s25 nD, by rw [upd_same, refs_snoc], fun u hu => ?_, by rw [List.length_append, lL] <;> rfl⟩
    rcases List.mem_append.mp hu with z | z
    · exact (hL.kp k6) u z
    · rw [List.mem_singleton.mp z]
      refine ⟨NK.kp k7 (.tup (.inl (.inl hkp)) (.cons (.tup (VB.Same.sqT s25 LA.n) (.cons (.tup (VB.Same.sqT s25 LA.o) (nks_offers _ fun y hy => VB.Same.sqT s25 (LA.oe y hy))) (.cons (.bl _) .nil))) (.cons (.tup (.inl (.inl hta)) (nks_texts _)) .nil))), labKey_dep _ _ _⟩
  rintro H1 ⟨L, s1, hD1, hL, lL⟩
  refine ⟨D1, L, rfl, SqL.of hD1, hL, by omega, fun mq H2 ms s2 nmq hms lms bms => ?_⟩
  refine VJ.nmS ?_
  have atI_ms : ∀ (ms : List Int) (t : Int), ms.length = LB.length → 0 ≤ t → t < (LB.length : Nat) → ∃ m, ms[t.toNat]? = some m ∧ atI (ms.map V.int) t = some (.int m) := fun ms t lm h0 h1 => by
    obtain ⟨m, hm⟩ : ∃ m, ms[t.toNat]? = some m := ⟨_, List.getElem?_eq_getElem (by omega)⟩
    refine ⟨m, hm, ?_⟩
    have z := atI_nat (xs := ms.map V.int) (j := t.toNat) (v := .int m) (by rw [List.getElem?_map, hm] <;> rfl)
    rwa [Int.toNat_of_nonneg h0] at z
  have s12 := s1.trans s2
  refine ⟨_, rfl, la, _, rfl, .inl (s12.seq hla), (LB.length : Nat), by rw [refs_len], by omega, by omega, for_range (lo := 0) (n := LB.length)
    (fun i σ H' => ∃ (mq : Addr) (ms : List Int) (r6 : Option V), σ = [some (.ref la), some (.ref ma), some (.ref mq), none, none, none, r6, none, none, none, none] ∧ Same H H' ∧ H' mq = some (.lst (ms.map V.int)) ∧ ms.length = LB.length ∧ ∀ m ∈ ms, 0 ≤ m ∧ m < 1000)
    ⟨mq, ms, none, rfl, s12, hms, by omega, bms⟩ ?_ ?_⟩
  · clear hms lms bms nmq s12 s2 s1 hD1 hL lL H2 nD mq ms L D1 H1
    rintro i σ H1 hi ⟨mq, ms, r6, rfl, s1, hms, lms, bms⟩
    refine VJ.nm ?_
    refine ⟨_, rfl, la, _, rfl, .inl (s1.seq hla), (LB.length : Nat), by rw [refs_len], by omega, by omega, fun D1 nD => lc_range (lo := 0) (n := LB.length) (fun j H' => ∃ L : List KRow, Same H1 H' ∧ H' D1 = some (.lst (refs L)) ∧ KeysL K H' L ∧ L.length = j)
      ⟨[], same_upd nD _, upd_same, fun z hz => absurd hz List.not_mem_nil, rfl⟩ ?_ ?_⟩
    · rintro j H2 hj ⟨L, s2, hD, hL, lL⟩
      obtain ⟨mv, hmv⟩ := atM j hj
      have hatM : atI (refs MV) ((0 : Int) + (j : Nat)) = some (.ref mv.1) := by
        rw [Int.zero_add]; exact atI_nat (by unfold refs; rw [List.getElem?_map, hmv] <;> rfl)
      obtain ⟨m1, m2, m3, m4⟩ := hMV mv (List.mem_of_getElem? hmv)
      obtain ⟨mk, _, hmk⟩ := atI_ms ms (0 + (j : Nat)) lms (by omega) (by omega)
      have s02 := s1.trans s2
      refine VJ.nm ⟨rfl, ?_⟩
      unfold tYes
      refine iteT ?_
      refine ⟨_, rfl, _, rfl, mq, _, _, _, rfl, rfl, SqL.of (s2 _ _ hms), hmk, _, rfl, _, rfl, ma, _, _, _, rfl, rfl, s02.seq hma, hatM, ?_⟩
      refine ⟨mv.1, rfl, ⟨_, s02.seq m1⟩, fun D2 nD2 => ?_⟩
      refine lc_list (K := K) (g := gTup K 2 (gCons (gName 3) (gCons (gName 4) gNil))) (tt := tYes) (te := tTup (tCons (tVar 3) (tCons (tOp (rIxL K) (tVar 2) (tVar 4)) tNil))) (vs := [3, 4]) (a := mv.1) (xs := refs mv.2) (fun i H' => ∃ PL : List (Addr × Pr), Same H2 H' ∧ H' D2 = some (.lst (refs PL)) ∧ Pqs K H' PL ∧ PL.length = i)
        ⟨[], same_upd nD2 _, upd_same, fun z hz => absurd hz List.not_mem_nil, rfl⟩ (fun i H4 _ ⟨_, z, _⟩ => (s02.trans z).seq m1) ?_ ?_
      · rintro i v H3 hv ⟨PL, s3, hD2, hP, lP⟩
        obtain ⟨y, hy, rfl⟩ := refs_at hv
        have yin := List.mem_of_getElem? hy
        have ltj : i < mv.2.length := (List.getElem?_eq_some_iff.mp hy).1
        obtain ⟨my, _, hmy⟩ := atI_ms ms y.2.2 lms (m4 y yin).1 (m4 y yin).2
        refine ⟨y.1, _, rfl, m2.kp (Kp.of (s02.trans s3)) y yin, rfl, .str y.2.1, _, rfl, .int y.2.2, _, rfl, rfl, ?_⟩
        refine ⟨rfl, ?_⟩
        unfold tYes
        refine iteT ?_
        refine ⟨_, rfl, _, rfl, _, rfl, mq, _, _, _, rfl, rfl, SqL.of ((s2.trans s3) _ _ hms), hmy, (by show 2 ≤ sizeLine; omega), fun tp ntp => ?_⟩
        have s6 := same_upd ntp (.tup [.str y.2.1, .int my])
        have hD6 := s6 _ _ hD2
        have tpD : tp ≠ D2 := fun z => by rw [z, hD2] at ntp; cases ntp
        refine ⟨_, hD6, by rw [refs_len]; omega, PL ++ [(tp, (y.2.1, my))], sameIn (s3.trans s6) nD2, by rw [upd_same, refs_snoc], fun u hu => ?_, by rw [List.length_append, lP] <;> rfl⟩
        rcases List.mem_append.mp hu with z | z
        · exact (hP.kp ((Kp.of s6).trans (Kp.updL hD6 _))) u z
        · rw [List.mem_singleton.mp z]
          exact .inl (.inl (by rw [upd_ne tpD]; exact upd_same))
      rintro H3 ⟨PL, s3, hD2, hP, lP⟩
      rw [refs_len] at lP
      refine ⟨D2, _, rfl, .inl ⟨SqL.of hD2, fun ta nta => ?_⟩⟩
      have s4 := same_upd nta (.tup (refs PL))
      refine ⟨(by show 2 ≤ sizeLine; omega), fun kp nkp => ?_⟩
      have s5 := same_upd nkp (.tup [.int mk, .ref ta])
      have hkp : upd (upd H3 ta (.tup (refs PL))) kp (.tup [.int mk, .ref ta]) kp = some (.tup [.int mk, .ref ta]) := upd_same
      have hta : upd (upd H3 ta (.tup (refs PL))) kp (.tup [.int mk, .ref ta]) ta = some (.tup (refs PL)) := s5 _ _ upd_same
      have s35 := s3.trans (s4.trans s5)
      have hP5 := hP.kp (Kp.of (s4.trans s5))
      generalize upd (upd H3 ta (.tup (refs PL))) kp (.tup [.int mk, .ref ta]) = H5 at s35 hkp hta hP5 ⊢
      have hD5 := s35 _ _ hD
      have k6 := (Kp.of s35).trans (Kp.updL hD5 (.lst (refs L ++ [.ref kp])))
      have k7 := Kp.updL hD5 (.lst (refs L ++ [.ref kp]))
      refine ⟨_, hD5, by rw [refs_len]; omega, L ++ [(kp, pairKey mk PL)], sameIn (s2.trans s35) nD, by rw [upd_same, refs_snoc], fun u hu => ?_, by rw [List.length_append, lL] <;> rfl⟩
      rcases List.mem_append.mp hu with z | z
      · exact (hL.kp k6) u z
      · rw [List.mem_singleton.mp z]
        exact ⟨NK.kp k7 (.tup (.inl (.inl hkp)) (.cons (.int _) (.cons (.tup (.inl (.inl hta)) (nks_pairs hP5)) .nil))), pairKey_depth _ _⟩
    rintro H2 ⟨L, s2, hD1, hL, lL⟩
    refine ⟨D1, L, rfl, SqL.of hD1, hL, by omega, fun mq' H3 ms' s3 _ hms' lms' bms' => ?_⟩
    exact VJ.nm ⟨mq', ms', _, rfl, s1.trans (s2.trans s3), hms', by omega, bms'⟩
  clear hms lms bms nmq s12 s2 s1 hD1 hL lL H2 nD mq ms L D1 H1
  rintro σ H1 ⟨mq, ms, r6, rfl, s1, hms, lms, bms⟩
  refine VJ.nx ?_
  obtain ⟨o0, ho0, hat0⟩ := atI_ms ms 0 lms (by omega) (by omega)
  refine ⟨_, rfl, mq, _, _, _, rfl, rfl, SqL.of hms, hat0, (by show 1 ≤ sizeLine; omega), fun ol nol => ?_⟩
  have u1 := same_upd nol (.lst [.int o0])
  have hol : upd H1 ol (.lst [.int o0]) ol = some (.lst (([o0] : List Int).map V.int)) := upd_same
  have olH : H ol = none := s1.free nol
  have mol : mq ≠ ol := ne_of_none hms nol
  have hms2 := u1 _ _ hms
  have s2 := s1.trans u1
  generalize upd H1 ol (.lst [.int o0]) = H2 at s2 hol hms2 ⊢
  refine VJ.nmS ?_
  refine ⟨Nat.zero_le _, fun nl nnl => ?_⟩
  have u2 := same_upd nnl (.lst [])
  have hnl : upd H2 nl (.lst []) nl = some (.lst (refs ([] : List NR))) := upd_same
  have nlH : H nl = none := s2.free nnl
  have mnl : mq ≠ nl := ne_of_none hms2 nnl
  have onl : ol ≠ nl := ne_of_none hol nnl
  have hms3 := u2 _ _ hms2
  have hol3 := u2 _ _ hol
  have s3 := s2.trans u2
  generalize upd H2 nl (.lst []) = H3 at s3 hol3 hms3 hnl ⊢
  refine VJ.nmS ?_
  clear u1 u2 nol nnl hol hms2 hms s2 s1
  have o0in : o0 ∈ ms := List.mem_of_getElem? ho0
  have few : ∀ OL : List Int, OL.Nodup → (∀ o ∈ OL, o ∈ ms) → OL.length ≤ LB.length := fun OL nd sub => by
    have z := VT.nodup_le OL ms nd sub
    omega
  refine ⟨_, rfl, la, _, rfl, .inl (s3.seq hla), (LB.length : Nat), by rw [refs_len], by omega, by omega, for_range (lo := 0) (n := LB.length)
    (fun k σ H' => ∃ (OL : List Int) (NL : List NR) (r3 r4 r5 r9 r10 : Option V), σ = [some (.ref la), some (.ref ma), some (.ref mq), r3, r4, r5, r6, some (.ref ol), some (.ref nl), r9, r10] ∧ Same H H' ∧ H' mq = some (.lst (ms.map V.int)) ∧ H' ol = some (.lst (OL.map V.int)) ∧ H' nl = some (.lst (refs NL)) ∧ NdAll K H' NL ∧ OL.Nodup ∧ (∀ o ∈ OL, o ∈ ms) ∧ 1 ≤ OL.length ∧ NL.length ≤ OL.length ∧ NL.length ≤ k ∧ (NL.length = k ∨ NL.length = OL.length) ∧
      ∀ x ∈ NL, (∃ y ∈ LB, x.2.2.2.2.1 = y.2.2.1 ∧ x.2.2.2.2.2 = y.2.2.2) ∧ (∃ z ∈ MV, x.2.2.2.1.map (·.2.1) = z.2.map (·.2.1)) ∧ ∀ m ∈ x.2.2.2.1, 0 ≤ m.2.2 ∧ m.2.2 < (OL.length : Nat))
    ⟨[o0], [], none, none, none, none, none, rfl, s3, hms3, hol3, hnl, fun x hx => absurd hx List.not_mem_nil, by simp, fun o ho => by rw [List.mem_singleton.mp ho]; exact o0in, Nat.le_refl _, Nat.zero_le _, Nat.zero_le _, .inl rfl, fun x hx => absurd hx List.not_mem_nil⟩ ?_ ?_⟩
  · clear hms3 hol3 hnl s3 H3 H2 H1
    rintro k σ H1 hk ⟨OL, NL, r3, r4, r5, r9, r10, rfl, s1, hms, hol, hnl, hN, nd, sub, o1, lNO, lNk, lNe, pr⟩
    refine VJ.nm ?_
    refine ⟨_, rfl, _, rfl, ol, _, rfl, .inl (SqL.of hol), _, _, rfl, rfl, _, rfl, ?_⟩
    rw [List.length_map]
    refine ite2 (fun c => ?_) (fun c => ?_)
    · have lk : k < OL.length := by have := of_decide_eq_true c; omega
      have lNk2 : NL.length = k := by omega
      obtain ⟨o, ho⟩ : ∃ o, OL[k]? = some o := ⟨_, List.getElem?_eq_getElem lk⟩
      have hato : atI (OL.map V.int) ((0 : Int) + (k : Nat)) = some (.int o) := by
        rw [Int.zero_add]; exact atI_nat (by rw [List.getElem?_map, ho] <;> rfl)
      obtain ⟨j, hj, j1, j2, j3⟩ := ixF (sub o (List.mem_of_getElem? ho))
      refine ⟨_, rfl, .inl ⟨rfl, _, SqL.of hms⟩, _, rfl, _, rfl, ol, _, _, .int o, rfl, rfl, SqL.of hol, hato, mq, ms.map V.int, .int o, j, .int o, rfl, rfl, SqL.of hms, rfl, flatI3 ms, j1, j2, j3, ?_⟩
      have lj : j < LB.length := by have := (List.getElem?_eq_some_iff.mp hj).1; omega
      obtain ⟨mv, hmv⟩ := atM j lj
      obtain ⟨lab, hlab⟩ : ∃ z, LB[j]? = some z := ⟨_, List.getElem?_eq_getElem lj⟩
      have hatM : atI (refs MV) ((j : Nat) : Int) = some (.ref mv.1) := atI_nat (by unfold refs; rw [List.getElem?_map, hmv] <;> rfl)
      have hatL : atI (refs LB) ((j : Nat) : Int) = some (.ref lab.1) := atI_nat (by unfold refs; rw [List.getElem?_map, hlab] <;> rfl)
      obtain ⟨m1, m2, m3, m4⟩ := hMV mv (List.mem_of_getElem? hmv)
      have LA := hLB lab (List.mem_of_getElem? hlab)
      refine VJ.nmS ?_
      refine ⟨Nat.zero_le _, fun rl nrl => ?_⟩
      have u1 := same_upd nrl (.lst [])
      have hrl : upd H1 rl (.lst []) rl = some (.lst (refs ([] : List (Addr × Pr)))) := upd_same
      have rlH : H rl = none := s1.free nrl
      have mrl : mq ≠ rl := ne_of_none hms nrl
      have orl : ol ≠ rl := ne_of_none hol nrl
      have nrl2 : nl ≠ rl := ne_of_none hnl nrl
      have s2 := s1.trans u1
      have hms2 := u1 _ _ hms
      have hol2 := u1 _ _ hol
      have hnl2 := u1 _ _ hnl
      have hN2 : NdAll K (upd H1 rl (.lst [])) NL := fun x hx => (hN x hx).same u1
      generalize upd H1 rl (.lst []) = H2 at s2 hrl hms2 hol2 hnl2 hN2 ⊢
      clear u1 nrl hms hol hnl hN s1 H1
      refine VJ.nmS ?_
      refine ⟨_, rfl, _, rfl, ma, _, _, _, rfl, rfl, s2.seq hma, hatM, mv.1, rfl, ⟨_, s2.seq m1⟩, for_list (K := K) (a := mv.1) (xs := refs mv.2)
        (fun i σ H' => ∃ (OL' : List Int) (RW : List (Addr × Pr)) (r3 r4 : Option V), σ = [some (.ref la), some (.ref ma), some (.ref mq), r3, r4, some (.int ((0 : Int) + (k : Nat))), r6, some (.ref ol), some (.ref nl), some (.int (j : Nat)), some (.ref rl)] ∧ Same H H' ∧ H' mq = some (.lst (ms.map V.int)) ∧ H' ol = some (.lst (OL'.map V.int)) ∧ H' nl = some (.lst (refs NL)) ∧ H' rl = some (.lst (refs RW)) ∧ (∀ x ∈ NL, NodeAt K H' x.1 x.2.1 x.2.2.1 x.2.2.2.1 x.2.2.2.2.1 x.2.2.2.2.2) ∧ Pqs K H' RW ∧ OL'.Nodup ∧ (∀ o ∈ OL', o ∈ ms) ∧ OL.length ≤ OL'.length ∧ RW.map (·.2.1) = (mv.2.map (·.2.1)).take i ∧ ∀ m ∈ RW, 0 ≤ m.2.2 ∧ m.2.2 < (OL'.length : Nat))
        ⟨OL, [], r3, r4, rfl, s2, hms2, hol2, hnl2, hrl, hN2, fun x hx => absurd hx List.not_mem_nil, nd, sub, Nat.le_refl _, rfl, fun x hx => absurd hx List.not_mem_nil⟩ (fun i σ H' _ ⟨_, _, _, _, _, z, _⟩ => z.seq m1) ?_ ?_⟩
      · clear hms2 hol2 hnl2 hrl hN2 s2 H2 r3 r4
        rintro i v σ H2 hv ⟨OL', RW, r3, r4, rfl, s2, hms, hol, hnl, hrl, hN, hR, nd', sub', le', eR, bR⟩
        obtain ⟨y, hy, rfl⟩ := refs_at hv
        have yin := List.mem_of_getElem? hy
        have lti : i < mv.2.length := (List.getElem?_eq_some_iff.mp hy).1
        obtain ⟨my, hmy, hamy⟩ := atI_ms ms y.2.2 lms (m4 y yin).1 (m4 y yin).2
        have myin : my ∈ ms := List.mem_of_getElem? hmy
        have lO' := few OL' nd' sub'
        have lRW : RW.length ≤ i := by
          have z := congrArg List.length eR
          rw [List.length_map, List.length_take] at z
          omega
        refine ⟨y.1, _, rfl, m2.kp (Kp.of s2) y yin, rfl, .str y.2.1, _, rfl, .int y.2.2, _, rfl, rfl, ?_⟩
        refine VJ.seqJ (fun σ H' => ∃ (OL2 : List Int), σ = [some (.ref la), some (.ref ma), some (.ref mq), some (.str y.2.1), some (.int y.2.2), some (.int ((0 : Int) + (k : Nat))), r6, some (.ref ol), some (.ref nl), some (.int (j : Nat)), some (.ref rl)] ∧ Same H H' ∧ H' mq = some (.lst (ms.map V.int)) ∧ H' ol = some (.lst (OL2.map V.int)) ∧ H' nl = some (.lst (refs NL)) ∧ H' rl = some (.lst (refs RW)) ∧ (∀ x ∈ NL, NodeAt K H' x.1 x.2.1 x.2.2.1 x.2.2.2.1 x.2.2.2.2.1 x.2.2.2.2.2) ∧ Pqs K H' RW ∧ OL2.Nodup ∧ (∀ o ∈ OL2, o ∈ ms) ∧ OL'.length ≤ OL2.length ∧ my ∈ OL2) (fun N' hN' => ?_) ?_
        · refine ⟨_, rfl, _, rfl, mq, _, _, .int my, rfl, rfl, SqL.of hms, hamy, _, rfl, ol, _, rfl, .inl (SqL.of hol), rfl, flatI3 OL', _, rfl, ?_⟩
          rw [inV_ints, if_pos rfl]
          by_cases e : my ∈ OL'
          · refine iteFe (by rw [decide_eq_true e] <;> rfl) ?_
            exact hN' _ _ ⟨OL', rfl, s2, hms, hol, hnl, hrl, hN, hR, nd', sub', Nat.le_refl _, e⟩
          · refine iteTe (by rw [decide_eq_false e] <;> rfl) ?_
            refine ⟨_, rfl, .inl ⟨rfl, _, SqL.of hol⟩, _, rfl, _, rfl, mq, _, _, .int my, rfl, rfl, SqL.of hms, hamy, ol, _, _, rfl, rfl, hol, by rw [List.length_map]; omega, ?_⟩
            have k7 := Kp.updL hol (.lst (OL'.map V.int ++ [.int my]))
            refine hN' _ _ ⟨OL' ++ [my], rfl, sameIn s2 olH, by rw [upd_ne mol]; exact hms, by rw [upd_same, List.map_append] <;> rfl, by rw [upd_ne onl.symm]; exact hnl, by rw [upd_ne orl.symm]; exact hrl, fun x hx => ?_, hR.kp k7, ?_, fun o ho => ?_, by rw [List.length_append]; omega, List.mem_append_right _ (List.mem_singleton.mpr rfl)⟩
            · have N := hN x hx
              exact ⟨k7.sqT N.n, k7.sqT N.m, N.me.kp k7, k7.sqT N.o, fun u hu => k7.sqT (N.oe u hu)⟩
            · refine List.nodup_append.mpr ⟨nd', by simp, fun a ha b hb => ?_⟩
              rw [List.mem_singleton.mp hb]
              exact fun z => e (by rw [← z]; exact ha)
            · rcases List.mem_append.mp ho with z | z
              · exact sub' o z
              · rw [List.mem_singleton.mp z]; exact myin
        clear hms hol hnl hrl hN hR s2 H2
        rintro σ H2 ⟨OL2, rfl, s2, hms, hol, hnl, hrl, hN, hR, nd2, sub2, le2, inn⟩
        obtain ⟨q2, hq2, i1, i2, i3⟩ := ixF inn
        have lq2 := (List.getElem?_eq_some_iff.mp hq2).1
        refine ⟨_, rfl, .inl ⟨rfl, _, SqL.of hrl⟩, _, rfl, _, rfl, .inl ⟨rfl, _, SqL.of hol⟩, _, rfl, _, rfl, mq, _, _, .int my, rfl, rfl, SqL.of hms, hamy, ol, OL2.map V.int, .int my, q2, .int my, rfl, rfl, SqL.of hol, rfl, flatI3 OL2, i1, i2, i3, (by show 2 ≤ sizeLine; omega), fun tp ntp => ?_⟩
        have s6 := same_upd ntp (.tup [.str y.2.1, .int (q2 : Nat)])
        have hD6 := s6 _ _ hrl
        have tpD : tp ≠ rl := fun z => by rw [z, hrl] at ntp; cases ntp
        refine ⟨rl, _, _, rfl, rfl, hD6, by rw [refs_len]; omega, ?_⟩
        have k7 := (Kp.of s6).trans (Kp.updL hD6 (.lst (refs RW ++ [.ref tp])))
        refine ⟨OL2, RW ++ [(tp, (y.2.1, ((q2 : Nat) : Int)))], _, _, rfl, sameIn (s2.trans s6) rlH, by rw [upd_ne mrl]; exact s6 _ _ hms, by rw [upd_ne orl]; exact s6 _ _ hol, by rw [upd_ne nrl2]; exact s6 _ _ hnl, by rw [upd_same, refs_snoc], fun x hx => ?_, fun u hu => ?_, nd2, sub2, by omega, ?_, fun u hu => ?_⟩
        · have N := hN x hx
          exact ⟨k7.sqT N.n, k7.sqT N.m, N.me.kp k7, k7.sqT N.o, fun u hu => k7.sqT (N.oe u hu)⟩
        · rcases List.mem_append.mp hu with z | z
          · exact (hR.kp k7) u z
          · rw [List.mem_singleton.mp z]
            exact .inl (.inl (by rw [upd_ne tpD]; exact upd_same))
        · rw [List.map_append, eR, List.take_succ, List.getElem?_map, hy] <;> rfl
        · rcases List.mem_append.mp hu with z | z
          · have := bR u z
            exact ⟨this.1, by omega⟩
          · rw [List.mem_singleton.mp z]
            exact ⟨by show (0 : Int) ≤ (q2 : Nat); omega, by show ((q2 : Nat) : Int) < _; omega⟩
      · clear hms2 hol2 hnl2 hrl hN2 s2 H2 r3 r4
        rintro σ H2 ⟨OL', RW, r3, r4, rfl, s2, hms, hol, hnl, hrl, hN, hR, nd', sub', le', eR, bR⟩
        rw [refs_len, List.take_of_length_le (by rw [List.length_map]; exact Nat.le_refl _)] at eR
        have lO' := few OL' nd' sub'
        refine VJ.nx ?_
        refine ⟨_, rfl, .inl ⟨rfl, _, SqL.of hnl⟩, _, rfl, rl, _, rfl, .inl ⟨SqL.of hrl, fun ta nta => ?_⟩⟩
        have u1 := same_upd nta (.tup (refs RW))
        have hta : upd H2 ta (.tup (refs RW)) ta = some (.tup (refs RW)) := upd_same
        have s3 := s2.trans u1
        have hms3 := u1 _ _ hms
        have hol3 := u1 _ _ hol
        have hnl3 := u1 _ _ hnl
        have hR3 := hR.kp (Kp.of u1)
        have hN3 : ∀ x ∈ NL, NodeAt K (upd H2 ta (.tup (refs RW))) x.1 x.2.1 x.2.2.1 x.2.2.2.1 x.2.2.2.2.1 x.2.2.2.2.2 := fun x hx => (hN x hx).same u1
        generalize upd H2 ta (.tup (refs RW)) = H3 at s3 hta hms3 hol3 hnl3 hR3 hN3 ⊢
        clear u1 nta hms hol hnl hrl hN hR s2
        have LA3 : LabAt K H3 lab := ⟨VB.Same.sqT s3 LA.n, VB.Same.sqT s3 LA.o, fun y hy => VB.Same.sqT s3 (LA.oe y hy)⟩
        refine ⟨_, rfl, _, rfl, la, _, _, .ref lab.1, rfl, rfl, s3.seq hla, hatL, lab.1, _, _, .ref lab.2.1, rfl, rfl, LA3.n, rfl, _, rfl, _, rfl, la, _, _, .ref lab.1, rfl, rfl, s3.seq hla, hatL, lab.1, _, _, .bl lab.2.2.2, rfl, rfl, LA3.n, rfl, (by show 3 ≤ sizeLine; omega), fun na nna => ?_⟩
        have s4 := same_upd nna (.tup [.ref ta, .ref lab.2.1, .bl lab.2.2.2])
        have hna : upd H3 na (.tup [.ref ta, .ref lab.2.1, .bl lab.2.2.2]) na = some (.tup [.ref ta, .ref lab.2.1, .bl lab.2.2.2]) := upd_same
        have hnl4 := s4 _ _ hnl3
        refine ⟨nl, _, _, rfl, rfl, hnl4, by rw [refs_len]; omega, ?_⟩
        have k6 := Kp.updL hnl4 (.lst (refs NL ++ [.ref na]))
        have k7 := (Kp.of s4).trans k6
        refine ⟨OL', NL ++ [((na, ta, lab.2.1, RW, lab.2.2.1, lab.2.2.2) : NR)], _, _, _, _, _, rfl, sameIn (s3.trans s4) nlH, by rw [upd_ne mnl]; exact s4 _ _ hms3, by rw [upd_ne onl]; exact s4 _ _ hol3, by rw [upd_same, refs_snoc], fun x hx => ?_, nd', sub', by omega, by rw [List.length_append, List.length_singleton]; omega, by rw [List.length_append, List.length_singleton]; omega, .inl (by rw [List.length_append, List.length_singleton]; omega), fun x hx => ?_⟩
        · rcases List.mem_append.mp hx with z | z
          · have N := hN3 x z
            exact ⟨k7.sqT N.n, k7.sqT N.m, N.me.kp k7, k7.sqT N.o, fun u hu => k7.sqT (N.oe u hu)⟩
          · rw [List.mem_singleton.mp z]
            exact ⟨k6.sqT (.inl (.inl hna)), k7.sqT (.inl (.inl hta)), hR3.kp k7, k7.sqT LA3.o, fun u hu => k7.sqT (LA3.oe u hu)⟩
        · rcases List.mem_append.mp hx with z | z
          · obtain ⟨p1, p2, p3⟩ := pr x z
            exact ⟨p1, p2, fun m hm => ⟨(p3 m hm).1, by have := (p3 m hm).2; omega⟩⟩
          · rw [List.mem_singleton.mp z]
            exact ⟨⟨lab, List.mem_of_getElem? hlab, rfl, rfl⟩, ⟨mv, List.mem_of_getElem? hmv, eR⟩, bR⟩
    · refine ⟨OL, NL, _, _, _, _, _, rfl, s1, hms, hol, hnl, hN, nd, sub, o1, lNO, by omega, ?_, pr⟩
      have ge : OL.length ≤ k := Nat.le_of_not_lt fun z => c (decide_eq_true (by omega))
      exact .inr (by omega)
  · clear hms3 hol3 hnl s3 H3 H2 H1
    rintro σ H1 ⟨OL, NL, r3, r4, r5, r9, r10, rfl, s1, hms, hol, hnl, hN, nd, sub, o1, lNO, lNk, lNe, pr⟩
    have lO := few OL nd sub
    have lNO2 : NL.length = OL.length := by omega
    refine VJ.nx ?_
    refine ⟨_, rfl, nl, _, rfl, .inl ⟨SqL.of hnl, fun fa nfa => ?_⟩⟩
    have u1 := same_upd nfa (.tup (refs NL))
    refine ⟨_, rfl, la, _, rfl, .inl ((s1.trans u1).seq hla), (by show 2 ≤ sizeLine; omega), fun qq nqq => ?_⟩
    rw [refs_len]
    have u2 := same_upd nqq (.lst [.ref fa, .int (LB.length : Nat)])
    refine q qq fa NL _ (s1.trans (u1.trans u2)) upd_same (u2 _ _ upd_same) (fun x hx => (hN x hx).same (u1.trans u2)) (by omega) (by omega) fun x hx => ?_
    rw [lNO2]
    exact pr x hx
end
end LW

set_option Elab.async false
set_option linter.all false
set_option maxRecDepth 100000
set_option maxHeartbeats 400000
namespace LW
open PySem PySem.Spec PyProof.Rows L2 LamX NdefX VB VM VP VE VX VQ VZ
section
variable {P : Program} {w : World} {K : PySem.W.Frag} {mg : Str → Option Value} {base : Heap}
def spQDoA (K : PySem.W.Frag) : Sp := fun vs H Q _ => ∃ (q b : Addr) (n : Int) (E : List Ed) (ss : List Int) (A : List Str), vs = [.ref q, .ref b] ∧ QAt K H q n E ∧ SqT K H b (ss.map V.int) ∧ (∀ x ∈ ss, 0 ≤ x ∧ x < n) ∧ ss.length ≤ 60 ∧ (∀ (s : Int) (x : Str), x ∈ acs E s → x ∈ A) ∧ A.length ≤ 10 ∧
  ∀ (p : Addr) (H' : Hp) (ys : List Str), Same H H' → H' p = some (.lst (ys.map V.str)) → (∀ x ∈ ys, x ∈ A) → ys.Nodup → ys.length ≤ A.length → Q (.ref p) H'
theorem c_qdoA (D : Df K mg "_law_does" s__law_does) (z_sorted : mg "sorted" = none) : C8.Cal P w K mg base 1 "_law_does" (spQDoA K) [] := by
  refine D.cal sc__law_does (fun _ _ _ _ _ _ us hl => match us, hl with | [_, _], _ => rfl) (fun vs H Q E h => ?_) (fun f cdv A outer s0 H vs Q E hr h => ?_)
  · obtain ⟨q, b, n, E0, ss, A, rfl, _⟩ := h
    rfl
  obtain ⟨q, b, n, E0, ss, A, rfl, QA, hT, hss, lens, hA, lA, k⟩ := h
  refine ⟨_, (pss_cons (ps_set (i := 2) sc__law_does.nd rfl (Or.inr rfl) (pe_lst pa_nil))
    (pss_cons (ps_for PassesOwn.never rfl (pi_tup (pv 1)) (pg_name (i := 3) sc__law_does.nd rfl (Or.inl rfl))
      (pss_one (ps_set (i := 2) sc__law_does.nd rfl (Or.inr rfl) (pe_op op_cat (pv 2) (pe_lc (own := [("action", 4)]) rfl sc__law_does.nd (pi_tup (pe_dget (hu_of hr) (pe_dget (hu_of hr) (pv 0) pe_str (fun _ _ => rfl)) (pv 3) (fun _ _ => rfl))) (blkOk_by (N := ["q", "states", "found", "state", "action"]) (sc := defScope s__law_does) (by decide +kernel)) (fun _ _ _ _ _ => (pg_name (i := 4) sc__law_does.nd rfl (Or.inl rfl) (hf := Or.inr rfl))) (fun _ _ _ _ _ => (pts_one (pt_cmpR (VK.notInQ (K := K) rfl) (pv 4) (pv 2) rfl))) (fun _ _ _ _ _ => (pv 4)))))))
    (pss_one (ps_ret (pe_callB (VK.sortedS (K := K) rfl hr) (by rfl) z_sorted (by decide +kernel) (pa_cons (pv 2) pa_nil)))))), ?_⟩
  have zl := sizeLine_eq
  have ten : ∀ l : List Str, l.Nodup → (∀ x ∈ l, x ∈ A) → l.length ≤ 10 := fun l nd h => Nat.le_trans (nd_le l A nd h) lA
  refine ⟨Nat.zero_le _, fun f0 nf0 => ?_⟩
  have s1 := same_upd nf0 (.lst [])
  refine ⟨_, rfl, b, rfl, ⟨_, VB.Same.sqT s1 hT⟩, for_tup (K := K) (a := b) (xs := ss.map V.int)
    (fun i σ H' => ∃ (fq : Addr) (fl : List Str) (r3 r4 : Option V), σ = [some (.ref q), some (.ref b), some (.ref fq), r3, r4] ∧ Same H H' ∧ H' fq = some (.lst (fl.map V.str)) ∧ fl.Nodup ∧ ∀ x ∈ fl, x ∈ A)
    ⟨f0, [], none, none, rfl, s1, upd_same, List.nodup_nil, fun x hx => absurd hx List.not_mem_nil⟩ (fun i σ H' _ ⟨_, _, _, _, _, s, _⟩ => VB.Same.sqT s hT) ?_ ?_⟩
  · rintro i v σ H2 hv ⟨fq, fl, r3, r4, rfl, s2, hf2, nd, sub⟩
    rw [List.getElem?_map] at hv
    obtain ⟨s, hs, rfl⟩ := Option.map_eq_some_iff.mp hv
    have rs := hss s (List.mem_of_getElem? hs)
    have lf := ten fl nd sub
    obtain ⟨dO, o1, o2⟩ := (QA.same s2).offers
    obtain ⟨v, o3, c, rfl, hc⟩ := o2.at_ rs.1 rs.2
    have ndo := srtS_ndq (acs E0 s)
    have sbo : ∀ x ∈ srtS (acs E0 s), x ∈ A := fun x hx => hA s x (srtS_mem.mp hx)
    have lo := ten _ ndo sbo
    generalize srtS (acs E0 s) = os at hc ndo sbo lo
    refine ⟨_, rfl, _, rfl, q, _, rfl, o1, _, rfl, dO, _, rfl, o3, c, rfl, ⟨_, hc⟩, fun D1 nD => ?_⟩
    refine lc_tup (K := K) (a := c) (xs := os.map V.str) (fun j H3 => Same H2 H3 ∧ H3 D1 = some (.lst (((os.take j).filter fun x => decide (¬ x ∈ fl)).map V.str))) ⟨same_upd nD _, upd_same⟩ (fun j H3 _ z => VB.Same.sqT z.1 hc) ?_ ?_
    · rintro j v H3 hv2 ⟨s3, hD⟩
      rw [List.getElem?_map] at hv2
      obtain ⟨y, hy, rfl⟩ := Option.map_eq_some_iff.mp hv2
      have tk : os.take (j + 1) = os.take j ++ [y] := by rw [List.take_add_one, hy, Option.toList_some]
      have ltj := (List.getElem?_eq_some_iff.mp hy).1
      refine ⟨rfl, ?_⟩
      refine ⟨_, rfl, _, rfl, fq, _, rfl, .inl (SqL.of (s3 _ _ hf2)), rfl, all_strs _, _, rfl, ?_⟩
      rw [inV_strs]
      refine iteMem (p := y ∈ fl) (fun h => ?_) (fun h => ?_)
      · refine ⟨s3, ?_⟩
        rw [hD, tk, List.filter_append, List.filter_cons_of_neg (by simpa using h), List.filter_nil, List.append_nil]
      · refine ⟨_, rfl, _, hD, ?_, sameIn s3 nD, ?_⟩
        · rw [List.length_map]
          have z := List.length_filter_le (fun x => decide (¬ x ∈ fl)) (os.take j)
          have z2 := List.length_take_le j os
          omega
        · rw [upd_same, tk, List.filter_append, List.filter_cons_of_pos (by simpa using h), List.filter_nil, List.map_append] <;> rfl
    · rintro H3 ⟨s3, hD⟩
      rw [List.length_map, List.take_length] at hD
      have lfo := List.length_filter_le (fun x => decide (¬ x ∈ fl)) os
      refine ⟨fq, D1, _, _, rfl, rfl, s3 _ _ hf2, hD, by rw [List.length_map, List.length_map]; omega, fun g ng => ?_⟩
      refine ⟨g, fl ++ os.filter fun x => decide (¬ x ∈ fl), _, _, rfl, (s2.trans s3).trans (same_upd ng _), by rw [upd_same, List.map_append], ?_, fun x hx => ?_⟩
      · rw [List.nodup_append]
        refine ⟨nd, List.Nodup.sublist List.filter_sublist ndo, fun a ha b hb e => ?_⟩
        have z := of_decide_eq_true (List.mem_filter.mp hb).2
        exact z (by rw [← e]; exact ha)
      · rcases List.mem_append.mp hx with z | z
        · exact sub x z
        · exact sbo x (List.mem_filter.mp z).1
  · rintro σ H2 ⟨fq, fl, r3, r4, rfl, s2, hf2, nd, sub⟩
    refine ⟨_, rfl, fq, fl, rfl, SqL.of hf2, fun p np => k p _ (fl.mergeSort VS.leS) (s2.trans (same_upd np _)) upd_same (fun x hx => sub x (List.mem_mergeSort.mp hx)) ((List.mergeSort_perm fl VS.leS).nodup_iff.mpr nd) (by rw [List.length_mergeSort]; exact nd_le fl A nd sub)⟩
end
end LW

set_option Elab.async false
set_option linter.all false
set_option maxRecDepth 100000
set_option maxHeartbeats 400000
/-! tuples of numbers as data; rows of them -/
namespace LW
open PySem PySem.Spec PyProof.Rows L2 LamX NdefX VB VM VP VE VX
section
variable {K : PySem.W.Frag}
def itD (ss : List Int) : PyData := .tuple (ss.map PyData.int)
theorem it_all {H : Hp} : ∀ ss : List Int, DpAll K H (ss.map V.int) (ss.map PyData.int)
  | [] => .nil
  | x :: ss => .cons (.int x) (it_all ss)
theorem itDp {H : Hp} {a : Addr} {ss : List Int} (h : SqT K H a (ss.map V.int)) : Dp K H (.ref a) (itD ss) := .tup h (it_all ss)
theorem it_can (ss : List Int) : PyData.canLayAll0 (ss.map PyData.int) = true := by
  induction ss with
  | nil => rfl
  | cons x ss ih => rw [List.map_cons]; simp [PyData.canLayAll0, PyData.canLay0, ih]
theorem it_dep (ss : List Int) : PyData.depthAll (ss.map PyData.int) ≤ 8 := by
  induction ss with
  | nil => exact Nat.zero_le _
  | cons x ss ih =>
    rw [List.map_cons]
    unfold PyData.depthAll
    unfold PyData.depth
    omega
theorem itCan (ss : List Int) : (itD ss).canLay0 = true := by
  unfold itD
  rw [PyData.canLay0, it_can]
theorem itDepth (ss : List Int) : (itD ss).depth ≤ 10 := by
  have := it_dep ss
  unfold itD PyData.depth
  omega
theorem itShaped (ss : List Int) : SeqAt.shaped (itD ss) = true := by
  unfold SeqAt.shaped
  rw [itCan, Bool.true_and, decide_eq_true_eq]
  have := itDepth ss
  omega
theorem it_eqv : ∀ (p q : List Int), PyData.eqvAll (p.map PyData.int) (q.map PyData.int) = true ↔ p = q
  | [], [] => by simp [PyData.eqvAll]
  | [], _ :: _ => by simp [PyData.eqvAll]
  | _ :: _, [] => by simp [PyData.eqvAll]
  | x :: p, y :: q => by
    rw [List.map_cons, List.map_cons]
    simp [PyData.eqvAll, PyData.eqv, it_eqv p q]
theorem itEqv (p q : List Int) : PyData.eqv (itD p) (itD q) = true ↔ p = q := by
  unfold itD
  rw [PyData.eqv, it_eqv]
abbrev IR0 := Addr × List Int
def itRows (L : List IR0) : List DRow := L.map fun p => (V.ref p.1, itD p.2)
theorem itRows_V (L : List IR0) : (itRows L).map (·.1) = refs L := by unfold itRows; rw [List.map_map] <;> rfl
def Its (K : PySem.W.Frag) (H : Hp) (L : List IR0) : Prop := ∀ p ∈ L, SqT K H p.1 (p.2.map V.int)
theorem Its.kp {H H' : Hp} {L : List IR0} (h : Its K H L) (x : Kp H H') : Its K H' L := fun p hp => x.sqT (h p hp)
theorem itsDp {H : Hp} {a : Addr} {L : List IR0} (h : SqL K H a (refs L)) (n : Its K H L) : Dp K H (.ref a) (.list ((itRows L).map (·.2))) :=
  .lst (by rw [← itRows_V] at h; exact h) (dpAll_of fun r hr => by
    obtain ⟨x, hx, rfl⟩ := List.mem_map.mp hr
    exact itDp (n x hx))
theorem itsShaped (L : List IR0) : SeqAt.shaped (.list ((itRows L).map (·.2))) = true := datas_shaped fun r hr => by
  obtain ⟨x, _, rfl⟩ := List.mem_map.mp hr
  exact ⟨itCan x.2, itDepth x.2⟩
theorem itsAny (L : List IR0) (p : List Int) : (((itRows L).map (·.2)).any fun z => PyData.eqv z (itD p)) = decide (p ∈ L.map (·.2)) := by
  rw [Bool.eq_iff_iff, List.any_eq_true, decide_eq_true_eq]
  constructor
  · rintro ⟨z, hz, h⟩
    obtain ⟨r, hr, rfl⟩ := List.mem_map.mp hz
    obtain ⟨x, hx, rfl⟩ := List.mem_map.mp hr
    exact List.mem_map.mpr ⟨x, hx, (itEqv _ _).mp h⟩
  · intro h
    obtain ⟨x, hx, rfl⟩ := List.mem_map.mp h
    exact ⟨itD x.2, List.mem_map.mpr ⟨_, List.mem_map.mpr ⟨x, hx, rfl⟩, rfl⟩, (itEqv _ _).mpr rfl⟩
theorem itsAt {L : List IR0} {j : Nat} {p : List Int} (h : (L.map (·.2))[j]? = some p) : ((itRows L).map (·.2))[j]? = some (itD p) := by
  rw [List.getElem?_map] at h
  obtain ⟨y, hy, rfl⟩ := Option.map_eq_some_iff.mp h
  unfold itRows
  rw [List.map_map, List.getElem?_map, hy] <;> rfl
theorem itsNot {L : List IR0} (nd : (L.map (·.2)).Nodup) {j : Nat} {p : List Int} (h : (L.map (·.2))[j]? = some p) (m : Nat) (z : PyData) (lt : m < j) (hz : ((itRows L).map (·.2))[m]? = some z) : PyData.eqv z (itD p) = false := by
  unfold itRows at hz
  rw [List.map_map, List.getElem?_map] at hz
  obtain ⟨y, hy, rfl⟩ := Option.map_eq_some_iff.mp hz
  rw [Bool.eq_false_iff]
  intro e
  have e : y.2 = p := (itEqv _ _).mp e
  have hm : (L.map (·.2))[m]? = some p := by rw [List.getElem?_map, hy, ← e] <;> rfl
  obtain ⟨l1, e1⟩ := List.getElem?_eq_some_iff.mp h
  obtain ⟨l2, e2⟩ := List.getElem?_eq_some_iff.mp hm
  have := (List.getElem_inj nd).mp (e2.trans e1.symm)
  omega
end
end LW

set_option Elab.async false
set_option linter.all false
namespace VSub
/-! ascending lists of small numbers: there are few -/
def subs : Nat → List (List Int)
  | 0 => [[]]
  | k + 1 => subs k ++ (subs k).map fun l => l ++ [((k : Nat) : Int)]
theorem subs_len : ∀ k, (subs k).length = 2 ^ k
  | 0 => rfl
  | k + 1 => by
    unfold subs
    rw [List.length_append, List.length_map, subs_len k, Nat.pow_succ]
    omega
theorem subs_mem : ∀ (k : Nat) (l : List Int), l.Pairwise (· < ·) → (∀ x ∈ l, 0 ≤ x ∧ x < (k : Nat)) → l ∈ subs k
  | 0, l, _, h => by
    match l, h with
    | [], _ => exact List.mem_singleton.mpr rfl
    | x :: l, h => have := h x List.mem_cons_self; omega
  | k + 1, l, p, h => by
    unfold subs
    by_cases e : ((k : Nat) : Int) ∈ l
    · refine List.mem_append_right _ (List.mem_map.mpr ?_)
      obtain ⟨a, b, rfl⟩ := List.append_of_mem e
      have pb := (List.pairwise_append.mp p).2.1
      have hb : b = [] := by
        match b, pb, h with
        | [], _, _ => rfl
        | y :: b, pb, h =>
          have y1 := (List.pairwise_cons.mp pb).1 y List.mem_cons_self
          have y2 := h y (List.mem_append_right _ (List.mem_cons_of_mem _ List.mem_cons_self))
          omega
      subst hb
      refine ⟨a, subs_mem k a (List.pairwise_append.mp p).1 fun x hx => ?_, rfl⟩
      have x1 := (List.pairwise_append.mp p).2.2 x hx _ (List.mem_singleton.mpr rfl)
      have x2 := h x (List.mem_append_left _ hx)
      omega
    · refine List.mem_append_left _ (subs_mem k l p fun x hx => ?_)
      have x2 := h x hx
      have ne : x ≠ ((k : Nat) : Int) := fun z => e (by rw [← z]; exact hx)
      omega
/-- rows of such lists that differ -/
theorem few_subs {k : Nat} {L : List (List Int)} (nd : L.Nodup) (h : ∀ l ∈ L, l.Pairwise (· < ·) ∧ ∀ x ∈ l, 0 ≤ x ∧ x < (k : Nat)) : L.length ≤ 2 ^ k := by
  have key : ∀ (L M : List (List Int)), L.Nodup → (∀ l ∈ L, l ∈ M) → L.length ≤ M.length := by
    intro L
    induction L with
    | nil => exact fun M _ _ => Nat.zero_le _
    | cons x L ih =>
      intro M nd sub
      obtain ⟨nx, nd'⟩ := List.nodup_cons.mp nd
      have xin := sub x List.mem_cons_self
      have z := ih (M.erase x) nd' fun l hl => (List.mem_erase_of_ne (fun e => nx (by rw [← e]; exact hl))).mpr (sub l (List.mem_cons_of_mem _ hl))
      rw [List.length_erase_of_mem xin] at z
      have := List.length_pos_of_mem xin
      rw [List.length_cons]
      omega
  rw [← subs_len]
  exact key L (subs k) nd fun l hl => subs_mem k l (h l hl).1 (h l hl).2
end VSub

set_option Elab.async false
set_option linter.all false
set_option maxRecDepth 100000
set_option maxHeartbeats 400000
namespace LW
open PySem PySem.Spec PyProof.Rows L2 LamX NdefX VB VM VP VE VX
abbrev s__law_form : Stmt := top 40
theorem sc__law_form : FnScope ["parts", "model", "q", "order", "labels", "moves", "k", "states", "row", "label", "action", "behind"] ["parts", "model"] (defScope s__law_form) := ⟨rfl, rfl, rfl, by decide +kernel, rfl, by decide +kernel, by decide +kernel⟩
section
variable {P : Program} {w : World} {K : PySem.W.Frag} {mg : Str → Option Value} {base : Heap}
def spNForm (K : PySem.W.Frag) : Sp := fun vs H Q _ => ∃ (t l : Addr) (n : Int) (L : List (Addr × Ed)) (md : Str), vs = [.ref t, .str md] ∧ SqT K H t [.int n, .ref l] ∧ SqL K H l (refs L) ∧ Eds K H L ∧ L.length ≤ 20 ∧ (∀ x ∈ L, okE n x.2) ∧ (∀ x ∈ L, x.2.2.1 ∈ acts0) ∧ 1 ≤ n ∧ n ≤ 5 ∧ md ∈ MODS ∧
  ∀ (q fa : Addr) (N : Int) (NL : List NR) (H' : Hp), Same H H' → H' q = some (.lst [.ref fa, .int N]) → H' fa = some (.tup (refs NL)) → NdAll K H' NL → 1 ≤ NL.length → NL.length ≤ 32 → FormOk (NL.map ndV) → (∀ x ∈ NL, x.2.2.2.1.length ≤ 4 ∧ x.2.2.2.2.1.length ≤ 5 ∧ (x.2.2.2.2.2 = true ∨ md = "traces" → x.2.2.2.2.1 = [])) → Q (.ref q) H'
theorem c_nform (D : Df K mg "_law_form" s__law_form) (z_range : mg "range" = none) (z_len : mg "len" = none) (c__law_quick : C8.Cal P w K mg base 2 "_law_quick" (spQuick K) []) (c__law_starts : C8.Cal P w K mg base 1 "_law_starts" (spQSt K) []) (c__law_open : C8.Cal P w K mg base 2 "_law_open" (spOpen K) []) (c__law_shown : C8.Cal P w K mg base 2 "_law_shown" (spQSh K) [])
    (c__law_least : C8.Cal P w K mg base 2 "_law_least" (spLeast K) []) (c__law_does : C8.Cal P w K mg base 1 "_law_does" (spQDoA K) []) (c__law_go : C8.Cal P w K mg base 1 "_law_go" (spQGo K) []) (c__law_folded : C8.Cal P w K mg base 2 "_law_folded" (spFold K) []) : C8.Cal P w K mg base 3 "_law_form" (spNForm K) [] := by
  refine D.cal sc__law_form (fun _ _ _ _ _ _ us hl => match us, hl with | [_, _], _ => rfl) (fun vs H Q E h => ?_) (fun f cdv A outer s0 H vs Q E hr h => ?_)
  · obtain ⟨_, _, _, _, _, rfl, _⟩ := h
    rfl
  obtain ⟨t, l, n, L, md, rfl, hT, hS, hE, len, ok, ac, n1, n5, hmd, q⟩ := h
  refine ⟨_, (pss_cons (ps_set (i := 2) sc__law_form.nd rfl (Or.inl rfl) (C8.pe_c c__law_quick hr (by first | decide | omega) rfl (pa_cons (pv 0) pa_nil)))
    (pss_cons (ps_set (i := 3) sc__law_form.nd rfl (Or.inl rfl) (pe_lst (pa_cons (C8.pe_c c__law_starts hr (by first | decide | omega) rfl (pa_cons (pv 2) pa_nil)) pa_nil)))
    (pss_cons (ps_set (i := 4) sc__law_form.nd rfl (Or.inl rfl) (pe_lst pa_nil))
    (pss_cons (ps_set (i := 5) sc__law_form.nd rfl (Or.inl rfl) (pe_lst pa_nil))
    (pss_cons (ps_for PassesOwn.never rfl (pi_range1 rfl z_range (pa_cons pe_int pa_nil)) (pg_name (i := 6) sc__law_form.nd rfl (Or.inl rfl))
      (pss_one (ps_if (pt_cmpR op_lt (pv 6) (pe_callB (VK.lenQ (K := K) rfl) (by rfl) z_len PySem.boot_len (pa_cons (pv 3) pa_nil)) (nomark _))
        (pss_cons (ps_set (i := 7) sc__law_form.nd rfl (Or.inl rfl) (pe_ix (VK.ixL (K := K) rfl) (pv 3) (pv 6) (fun _ _ => rfl)))
        (pss_cons (ps_set (i := 8) sc__law_form.nd rfl (Or.inl rfl) (pe_lst pa_nil))
        (pss_cons (ps_set (i := 9) sc__law_form.nd rfl (Or.inl rfl) (pe_tup (pa_cons (pe_tup pa_nil) (pa_cons pe_bl pa_nil))))
        (pss_cons (ps_if (pt_val (C8.pe_c c__law_open hr (by first | decide | omega) rfl (pa_cons (pv 2) (pa_cons (pv 1) (pa_cons (pv 7) pa_nil)))))
          (pss_one (ps_set (i := 9) sc__law_form.nd rfl (Or.inl rfl) (pe_tup (pa_cons (pe_tup pa_nil) (pa_cons pe_bl pa_nil)))))
          (pss_cons (ps_if (pt_cmpR op_ne (pv 1) pe_str (nomark _))
            (pss_one (ps_set (i := 9) sc__law_form.nd rfl (Or.inl rfl) (pe_tup (pa_cons (C8.pe_c c__law_least hr (by first | decide | omega) rfl (pa_cons (C8.pe_c c__law_shown hr (by first | decide | omega) rfl (pa_cons (pv 2) (pa_cons (pv 7) pa_nil))) pa_nil)) (pa_cons pe_bl pa_nil)))))
            pss_nil)
          (pss_one (ps_for PassesOwn.never rfl (pi_list (C8.pe_c c__law_does hr (by first | decide | omega) rfl (pa_cons (pv 2) (pa_cons (pv 7) pa_nil)))) (pg_name (i := 10) sc__law_form.nd rfl (Or.inl rfl))
            (pss_cons (ps_set (i := 11) sc__law_form.nd rfl (Or.inl rfl) (C8.pe_c c__law_go hr (by first | decide | omega) rfl (pa_cons (pv 2) (pa_cons (pv 7) (pa_cons (pv 10) pa_nil)))))
            (pss_cons (ps_if (pt_cmpR (VP.notInD (K := K) rfl (VP.un65 hr)) (pv 11) (pv 3) rfl)
              (pss_one (ps_expr (pe_bm PySem.F.plainAttrs_list PySem.F.slot_list_append PySem.F.type_list_append mt_append (pv 3) (pa_cons (pv 11) pa_nil))))
              pss_nil)
            (pss_one (ps_expr (pe_bm PySem.F.plainAttrs_list PySem.F.slot_list_append PySem.F.type_list_append mt_append (pv 8) (pa_cons (pe_tup (pa_cons (pv 10) (pa_cons (VUt.pe_bmK (K := K) rfl PySem.F.plainAttrs_list PySem.F.slot_list_index PySem.F.type_list_index (VUt.ixD (K := K) rfl (VP.un65 hr)) (pv 3) (pa_cons (pv 11) pa_nil)) pa_nil))) pa_nil))))))))))
        (pss_cons (ps_expr (pe_bm PySem.F.plainAttrs_list PySem.F.slot_list_append PySem.F.type_list_append mt_append (pv 4) (pa_cons (pv 9) pa_nil)))
        (pss_one (ps_expr (pe_bm PySem.F.plainAttrs_list PySem.F.slot_list_append PySem.F.type_list_append mt_append (pv 5) (pa_cons (pv 8) pa_nil)))))))))
        pss_nil)))
    (pss_one (ps_ret (C8.pe_c c__law_folded hr (by first | decide | omega) rfl (pa_cons (pv 4) (pa_cons (pv 5) pa_nil)))))))))), ?_⟩
  have zl := sizeLine_eq
  refine ⟨_, rfl, t, l, n, L, rfl, hT, hS, hE, by omega, ok, n1, by omega, fun q0 HQ sQ QA1 => ?_⟩
  refine VJ.nmS ?_
  obtain ⟨E0, eE⟩ : ∃ E0, E0 = L.map (·.2) := ⟨_, rfl⟩
  rw [← eE] at QA1
  refine ⟨_, rfl, q0, n, E0, rfl, QA1, fun a0 H2 c0 s2 ha0 hc0 bc0 lc0 => ?_⟩
  have QA2 := QA1.same s2
  refine ⟨(by show 1 ≤ sizeLine; omega), fun ol nol => ?_⟩
  have u1 := same_upd nol (.lst [.ref a0])
  have hol : upd H2 ol (.lst [.ref a0]) ol = some (.lst (refs [((a0, c0) : IR0)])) := upd_same
  have ha02 := u1 _ _ ha0
  have olH : HQ ol = none := s2.free nol
  have s3 := s2.trans u1
  have QA3 := QA2.same u1
  generalize upd H2 ol (.lst [.ref a0]) = H3 at s3 hol ha02 QA3 ⊢
  refine VJ.nmS ?_
  refine ⟨Nat.zero_le _, fun ll nll => ?_⟩
  have u2 := same_upd nll (.lst [])
  have hll : upd H3 ll (.lst []) ll = some (.lst (refs ([] : List LabR))) := upd_same
  have llH : HQ ll = none := s3.free nll
  have oll : ol ≠ ll := ne_of_none hol nll
  have hol4 := u2 _ _ hol
  have ha04 := u2 _ _ ha02
  have s4 := s3.trans u2
  have QA4 := QA3.same u2
  generalize upd H3 ll (.lst []) = H4 at s4 hol4 hll ha04 QA4 ⊢
  refine VJ.nmS ?_
  refine ⟨Nat.zero_le _, fun ml nml => ?_⟩
  have u3 := same_upd nml (.lst [])
  have hml : upd H4 ml (.lst []) ml = some (.lst (refs ([] : List MvR))) := upd_same
  have mlH : HQ ml = none := s4.free nml
  have oml : ol ≠ ml := ne_of_none hol4 nml
  have lml : ll ≠ ml := ne_of_none hll nml
  have hol5 := u3 _ _ hol4
  have hll5 := u3 _ _ hll
  have ha05 := u3 _ _ ha04
  have s5 := s4.trans u3
  have QA5 := QA4.same u3
  generalize upd H4 ml (.lst []) = H5 at s5 hol5 hll5 hml ha05 QA5 ⊢
  refine VJ.nmS ?_
  clear u1 u2 u3 nol nll nml hol hol4 hll ha0 ha02 ha04 QA2 QA3 QA4 QA5 s2 s3 s4
  have few : ∀ OL : List IR0, (OL.map (·.2)).Nodup → (∀ x ∈ OL, x.2.Pairwise (· < ·) ∧ ∀ y ∈ x.2, 0 ≤ y ∧ y < n) → OL.length ≤ 32 := fun OL nd h => by
    have z := VSub.few_subs (k := 5) nd (fun c hc => by
      obtain ⟨x, hx, rfl⟩ := List.mem_map.mp hc
      exact ⟨(h x hx).1, fun y hy => by have := (h x hx).2 y hy; omega⟩)
    rw [List.length_map] at z
    exact z
  refine ⟨300, rfl, by decide, by decide, for_range (lo := 0) (n := 300)
    (fun k σ H' => ∃ (OL : List IR0) (LB : List LabR) (MV : List MvR) (r6 r7 r8 r9 r10 r11 : Option V), σ = [some (.ref t), some (.str md), some (.ref q0), some (.ref ol), some (.ref ll), some (.ref ml), r6, r7, r8, r9, r10, r11] ∧ Same HQ H' ∧ H' ol = some (.lst (refs OL)) ∧ Its K H' OL ∧ (OL.map (·.2)).Nodup ∧ (∀ x ∈ OL, x.2.Pairwise (· < ·) ∧ (∀ y ∈ x.2, 0 ≤ y ∧ y < n) ∧ x.2.length ≤ 60) ∧ 1 ≤ OL.length ∧
      H' ll = some (.lst (refs LB)) ∧ (∀ x ∈ LB, LabAt K H' x ∧ x.2.2.1.length ≤ 5 ∧ (x.2.2.2 = true ∨ md = "traces" → x.2.2.1 = [])) ∧ H' ml = some (.lst (refs MV)) ∧ (∀ x ∈ MV, H' x.1 = some (.lst (refs x.2)) ∧ (x.1 ≠ ol ∧ x.1 ≠ ll ∧ x.1 ≠ ml) ∧ Pqs K H' x.2 ∧ x.2.length ≤ 4 ∧ ∀ y ∈ x.2, y.2.1 ∈ acts ∧ 0 ≤ y.2.2 ∧ y.2.2 < (OL.length : Nat)) ∧
      MV.length = LB.length ∧ LB.length ≤ OL.length ∧ LB.length ≤ k ∧ (LB.length = k ∨ LB.length = OL.length))
    ⟨[((a0, c0) : IR0)], [], [], none, none, none, none, none, none, rfl, s5, hol5, fun x hx => by rw [List.mem_singleton.mp hx]; exact .inl (.inl ha05), by simp, fun x hx => by rw [List.mem_singleton.mp hx]; exact ⟨hc0.asc, bc0, lc0⟩, Nat.le_refl _, hll5, fun x hx => absurd hx List.not_mem_nil, hml, fun x hx => absurd hx List.not_mem_nil, rfl, Nat.zero_le _, Nat.zero_le _, .inl rfl⟩ ?_ ?_⟩
  · rintro k σ H1 hk ⟨OL, LB, MV, r6, r7, r8, r9, r10, r11, rfl, s1, hol, hO, nd, bO, o1, hll, hLB, hml, hMV, lMV, lLO, lLk, lLe⟩
    have lO := few OL nd fun x hx => ⟨(bO x hx).1, (bO x hx).2.1⟩
    refine VJ.nm ?_
    refine ⟨_, rfl, _, rfl, ol, _, rfl, .inl (SqL.of hol), _, _, rfl, rfl, _, rfl, ?_⟩
    rw [refs_len]
    refine ite2 (fun c => ?_) (fun c => ?_)
    · have lk : k < OL.length := by have := of_decide_eq_true c; omega
      have lLk2 : LB.length = k := by omega
      obtain ⟨x, hx⟩ : ∃ x, OL[k]? = some x := ⟨_, List.getElem?_eq_getElem lk⟩
      have xin := List.mem_of_getElem? hx
      have hat : atI (refs OL) ((0 : Int) + (k : Nat)) = some (.ref x.1) := by
        rw [Int.zero_add]; exact atI_nat (by unfold refs; rw [List.getElem?_map, hx] <;> rfl)
      refine ⟨_, rfl, _, rfl, ol, _, _, .ref x.1, rfl, rfl, SqL.of hol, hat, ?_⟩
      refine VJ.nmS ?_
      refine ⟨Nat.zero_le _, fun rl nrl => ?_⟩
      have u1 := same_upd nrl (.lst [])
      have hrl1 : upd H1 rl (.lst []) rl = some (.lst (refs ([] : List (Addr × Pr)))) := upd_same
      have rlQ : HQ rl = none := s1.free nrl
      have orl : ol ≠ rl := ne_of_none hol nrl
      have lrl : ll ≠ rl := ne_of_none hll nrl
      have mrl : ml ≠ rl := ne_of_none hml nrl
      have vrl : ∀ y ∈ MV, y.1 ≠ rl := fun y hy => ne_of_none (hMV y hy).1 nrl
      generalize upd H1 rl (.lst []) = H2 at u1 hrl1 ⊢
      refine VJ.nmS ?_
      refine ⟨Nat.zero_le _, fun e1 ne1 => ⟨(by show 2 ≤ sizeLine; omega), fun lb nlb => ?_⟩⟩
      have u2 := same_upd ne1 (.tup [])
      have u3 := same_upd nlb (.tup [.ref e1, .bl false])
      have he1 : upd (upd H2 e1 (.tup [])) lb (.tup [.ref e1, .bl false]) e1 = some (.tup []) := u3 _ _ upd_same
      have hlb : upd (upd H2 e1 (.tup [])) lb (.tup [.ref e1, .bl false]) lb = some (.tup [.ref e1, .bl false]) := upd_same
      have u4 := u1.trans (u2.trans u3)
      have hrl := (u2.trans u3) _ _ hrl1
      generalize upd (upd H2 e1 (.tup [])) lb (.tup [.ref e1, .bl false]) = H3 at u4 he1 hlb hrl ⊢
      refine VJ.nmS ?_
      have s3 := s1.trans u4
      clear u1 u2 u3 nrl ne1 nlb hrl1
      refine VJ.seqJ (fun σ H' => ∃ (OL' : List IR0) (RW : List (Addr × Pr)) (lab : LabR) (r10 r11 : Option V), σ = [some (.ref t), some (.str md), some (.ref q0), some (.ref ol), some (.ref ll), some (.ref ml), some (.int ((0 : Int) + (k : Nat))), some (.ref x.1), some (.ref rl), some (.ref lab.1), r10, r11] ∧ Same HQ H' ∧ H' ol = some (.lst (refs OL')) ∧ Its K H' OL' ∧ (OL'.map (·.2)).Nodup ∧ (∀ x ∈ OL', x.2.Pairwise (· < ·) ∧ (∀ y ∈ x.2, 0 ≤ y ∧ y < n) ∧ x.2.length ≤ 60) ∧ OL.length ≤ OL'.length ∧
        H' ll = some (.lst (refs LB)) ∧ (∀ x ∈ LB, LabAt K H' x) ∧ H' ml = some (.lst (refs MV)) ∧ (∀ x ∈ MV, H' x.1 = some (.lst (refs x.2)) ∧ Pqs K H' x.2) ∧ LabAt K H' lab ∧ lab.2.2.1.length ≤ 5 ∧ (lab.2.2.2 = true ∨ md = "traces" → lab.2.2.1 = []) ∧ H' rl = some (.lst (refs RW)) ∧ Pqs K H' RW ∧ RW.length ≤ 4 ∧ ∀ y ∈ RW, y.2.1 ∈ acts ∧ 0 ≤ y.2.2 ∧ y.2.2 < (OL'.length : Nat)) (fun N' hN' => ?_) ?_
      · obtain ⟨bx1, bx2, bx3⟩ := bO x xin
        have hx3 := VB.Same.sqT u4 (hO x xin)
        refine ⟨_, rfl, _, rfl, _, rfl, q0, x.1, md, n, E0, x.2, rfl, QA1.same s3, hx3, bx2, bx3, fun b H4 s4 hb => ⟨_, rfl, ?_⟩⟩
        have s34 := s3.trans s4
        have u14 := u4.trans s4
        have hrl4 := s4 _ _ hrl
        have hlb4 := s4 _ _ hlb
        have he14 := s4 _ _ he1
        have hx4 := VB.Same.sqT s4 hx3
        refine VUt.ite2b (fun eb => ?_) (fun eb => ?_)
        · refine ⟨Nat.zero_le _, fun e2 ne2 => ⟨(by show 2 ≤ sizeLine; omega), fun l2 nl2 => ?_⟩⟩
          have w1 := same_upd ne2 (.tup [])
          have w2 := same_upd nl2 (.tup [.ref e2, .bl true])
          have w := u14.trans (w1.trans w2)
          exact VJ.nm (hN' _ _ ⟨OL, [], ((l2, e2, [], true) : LabR), _, _, rfl, s1.trans w, w _ _ hol, hO.kp (Kp.of w), nd, bO, Nat.le_refl _, w _ _ hll, fun y hy => ⟨VB.Same.sqT w (hLB y hy).1.n, VB.Same.sqT w (hLB y hy).1.o, fun u hu => VB.Same.sqT w ((hLB y hy).1.oe u hu)⟩, w _ _ hml, fun y hy => ⟨w _ _ (hMV y hy).1, (hMV y hy).2.2.1.kp (Kp.of w)⟩, ⟨.inl (.inl upd_same), .inl (.inl (w2 _ _ upd_same)), fun u hu => absurd hu List.not_mem_nil⟩, Nat.zero_le _, fun _ => rfl, (w1.trans w2) _ _ hrl4, fun y hy => absurd hy List.not_mem_nil, Nat.zero_le _, fun y hy => absurd hy List.not_mem_nil⟩)
        -- not lost
        refine VJ.seqJ (fun σ H' => ∃ (lab : LabR), σ = [some (.ref t), some (.str md), some (.ref q0), some (.ref ol), some (.ref ll), some (.ref ml), some (.int ((0 : Int) + (k : Nat))), some (.ref x.1), some (.ref rl), some (.ref lab.1), r10, r11] ∧ Same H4 H' ∧ LabAt K H' lab ∧ lab.2.2.1.length ≤ 5 ∧ (lab.2.2.2 = true ∨ md = "traces" → lab.2.2.1 = [])) (fun N2 hN2 => ?_) ?_
        · refine ⟨_, rfl, rfl, _, rfl, VUt.ite2b (fun c2 => ?_) (fun c2 => ?_)⟩
          · have c2 : md ≠ "traces" := by simpa using c2
            refine ⟨_, rfl, _, rfl, q0, x.1, n, E0, x.2, rfl, QA1.same s34, hx4, bx2, bx3, fun p H5 RL s5 hp hRL asc mRL lRL => ?_⟩
            have rows5 : RL.length ≤ 5 := by
              have z := nd_le (RL.map (·.2)) (x.2.map fun s => srtS (acs E0 s)) (List.nodup_iff_pairwise_ne.mpr (asc.imp fun {a b} h e => by rw [e] at h; exact ltR_irrefl _ h)) fun y hy => by
                obtain ⟨s, hs, _, e⟩ := (mRL y).mp hy
                exact List.mem_map.mpr ⟨s, hs, e.symm⟩
              rw [List.length_map, List.length_map] at z
              have z2 := nd_le x.2 [0, 1, 2, 3, 4] (List.nodup_iff_pairwise_ne.mpr (bx1.imp fun {a b} h e => by omega)) fun y hy => by
                have b := bx2 y hy
                have k : y = 0 ∨ y = 1 ∨ y = 2 ∨ y = 3 ∨ y = 4 := by omega
                rcases k with rfl | rfl | rfl | rfl | rfl <;> decide
              have z3 : x.2.length ≤ 5 := z2
              omega
            refine ⟨p, RL, rfl, SqL.of hp, hRL, by omega, fun y hy => ?_, fun q' O' H6 s6 hq' subO lO' => ⟨(by show 2 ≤ sizeLine; omega), fun l2 nl2 => ?_⟩⟩
            · obtain ⟨s, hs, _, e⟩ := (mRL y.2).mp (List.mem_map_of_mem hy)
              rw [e]
              exact ⟨Nat.le_trans (nd_le _ acts (srtS_ndq _) fun u hu => off_acts QA1.ok hu) (by decide), fun u hu => off_acts QA1.ok hu⟩
            · have w := same_upd nl2 (.tup [.ref q', .bl false])
              have s56 := s5.trans s6
              refine VJ.nm (hN2 _ _ ⟨((l2, q', O', false) : LabR), rfl, s56.trans w, ⟨.inl (.inl upd_same), .inl (.inl (w _ _ hq')), fun u hu => VB.Same.sqT (s6.trans w) (hRL u (subO u hu))⟩, by show O'.length ≤ 5; omega, fun z => z.elim (fun y => by cases y) fun y => absurd y c2⟩)
          · exact VJ.nxT (hN2 _ _ ⟨((lb, e1, [], false) : LabR), rfl, Same.refl _, ⟨.inl (.inl hlb4), .inl (.inl he14), fun u hu => absurd hu List.not_mem_nil⟩, Nat.zero_le _, fun _ => rfl⟩)
        rintro σ H5 ⟨lab, rfl, s5, LA, lLA, cLA⟩
        have w5 := u14.trans s5
        have s35 := s34.trans s5
        have hA : ∀ (s : Int) (y : Str), y ∈ acs E0 s → y ∈ (["a", "b", "c", "tick"] : List Str) := fun s y hy => by
          obtain ⟨e, he, e1⟩ := acs_mem hy
          have nt : ¬ y = ("tau" : Str) := by
            unfold acs at hy
            obtain ⟨p, hp, rfl⟩ := List.mem_map.mp hy
            exact of_decide_eq_true (List.mem_filter.mp hp).2
          rw [eE] at he
          obtain ⟨z, hz, rfl⟩ := List.mem_map.mp he
          have h0 := ac z hz
          rw [show z.2.2.1 = y from e1] at h0
          have key : ∀ y ∈ acts0, ¬ y = ("tau" : Str) → y ∈ (["a", "b", "c", "tick"] : List Str) := by decide +kernel
          exact key y h0 nt
        have sub4 : ∀ y ∈ (["a", "b", "c", "tick"] : List Str), y ∈ acts := by decide +kernel
        refine ⟨_, rfl, _, rfl, q0, x.1, n, E0, x.2, ["a", "b", "c", "tick"], rfl, QA1.same s35, VB.Same.sqT s5 hx4, bx2, bx3, hA, by decide, fun yq H6 ys s6 hyq yA _ lys => ?_⟩
        have lys4 : ys.length ≤ 4 := lys
        have w6 := w5.trans s6
        have olQ : HQ ol = none := olH
        refine ⟨yq, rfl, ⟨_, SqL.of hyq⟩, for_list (K := K) (a := yq) (xs := ys.map V.str)
          (fun i σ H' => ∃ (OL' : List IR0) (RW : List (Addr × Pr)) (r10 r11 : Option V), σ = [some (.ref t), some (.str md), some (.ref q0), some (.ref ol), some (.ref ll), some (.ref ml), some (.int ((0 : Int) + (k : Nat))), some (.ref x.1), some (.ref rl), some (.ref lab.1), r10, r11] ∧ Same HQ H' ∧ H' yq = some (.lst (ys.map V.str)) ∧ H' ol = some (.lst (refs OL')) ∧ Its K H' OL' ∧ (OL'.map (·.2)).Nodup ∧ (∀ x ∈ OL', x.2.Pairwise (· < ·) ∧ (∀ y ∈ x.2, 0 ≤ y ∧ y < n) ∧ x.2.length ≤ 60) ∧ OL.length ≤ OL'.length ∧ SqT K H' x.1 (x.2.map V.int) ∧
            H' ll = some (.lst (refs LB)) ∧ (∀ x ∈ LB, LabAt K H' x) ∧ H' ml = some (.lst (refs MV)) ∧ (∀ x ∈ MV, H' x.1 = some (.lst (refs x.2)) ∧ Pqs K H' x.2) ∧ LabAt K H' lab ∧ H' rl = some (.lst (refs RW)) ∧ Pqs K H' RW ∧ RW.length ≤ i ∧ ∀ y ∈ RW, y.2.1 ∈ acts ∧ 0 ≤ y.2.2 ∧ y.2.2 < (OL'.length : Nat))
          ⟨OL, [], _, _, rfl, s35.trans s6, hyq, w6 _ _ hol, hO.kp (Kp.of w6), nd, bO, Nat.le_refl _, VB.Same.sqT (s5.trans s6) hx4, w6 _ _ hll, fun y hy => ⟨VB.Same.sqT w6 (hLB y hy).1.n, VB.Same.sqT w6 (hLB y hy).1.o, fun u hu => VB.Same.sqT w6 ((hLB y hy).1.oe u hu)⟩, w6 _ _ hml, fun y hy => ⟨w6 _ _ (hMV y hy).1, (hMV y hy).2.2.1.kp (Kp.of w6)⟩, ⟨VB.Same.sqT s6 LA.n, VB.Same.sqT s6 LA.o, fun u hu => VB.Same.sqT s6 (LA.oe u hu)⟩, (s5.trans s6) _ _ hrl4, fun y hy => absurd hy List.not_mem_nil, Nat.le_refl _, fun y hy => absurd hy List.not_mem_nil⟩ (fun i σ H' _ ⟨_, _, _, _, _, _, z, _⟩ => SqL.of z) ?_ ?_⟩
        · rintro i v σ H7 hv ⟨OL', RW, r10, r11, rfl, s7, hyq, hol2, hO2, nd2, bO2, le2, hx7, hll2, hLB2, hml2, hMV2, LA2, hrl2, hRW, lRW, bRW⟩
          rw [List.getElem?_map] at hv
          obtain ⟨y, hy, rfl⟩ := Option.map_eq_some_iff.mp hv
          have lti : i < ys.length := (List.getElem?_eq_some_iff.mp hy).1
          have yac := sub4 y (yA y (List.mem_of_getElem? hy))
          have lO2 := few OL' nd2 fun x hx => ⟨(bO2 x hx).1, (bO2 x hx).2.1⟩
          refine VJ.nm ?_
          refine ⟨_, rfl, _, rfl, _, rfl, q0, x.1, n, E0, x.2, y, rfl, QA1.same s7, hx7, bx2, bx3, fun ba H8 cs s8 hba clo bcs lcs => ?_⟩
          refine VJ.nmS ?_
          have s78 := s7.trans s8
          have yo : yq ≠ ol := fun z => by
            rw [z, hol2] at hyq
            injection hyq with h
            injection h with h
            match OL', ys, h, lti, le2 with
            | [], _, _, _, le2 => have : OL.length ≤ 0 := le2; omega
            | _ :: _, [], h, _, _ => cases h
            | _ :: _, _ :: _, h, _, _ => injection h with h _; cases h
          have yr : yq ≠ rl := fun z => by
            rw [z, hrl2] at hyq
            injection hyq with h
            injection h with h
            match RW, ys, h, lti with
            | _, [], _, lti => exact absurd lti (Nat.not_lt_zero _)
            | [], _ :: _, h, _ => cases h
            | _ :: _, _ :: _, h, _ => injection h with h _; cases h
          refine VJ.seqJ (fun σ H' => ∃ (OL2 : List IR0) (j : Nat), σ = [some (.ref t), some (.str md), some (.ref q0), some (.ref ol), some (.ref ll), some (.ref ml), some (.int ((0 : Int) + (k : Nat))), some (.ref x.1), some (.ref rl), some (.ref lab.1), some (.str y), some (.ref ba)] ∧ Same HQ H' ∧ H' yq = some (.lst (ys.map V.str)) ∧ H' ol = some (.lst (refs OL2)) ∧ Its K H' OL2 ∧ (OL2.map (·.2)).Nodup ∧ (∀ x ∈ OL2, x.2.Pairwise (· < ·) ∧ (∀ y ∈ x.2, 0 ≤ y ∧ y < n) ∧ x.2.length ≤ 60) ∧ OL'.length ≤ OL2.length ∧ SqT K H' x.1 (x.2.map V.int) ∧
            H' ll = some (.lst (refs LB)) ∧ (∀ x ∈ LB, LabAt K H' x) ∧ H' ml = some (.lst (refs MV)) ∧ (∀ x ∈ MV, H' x.1 = some (.lst (refs x.2)) ∧ Pqs K H' x.2) ∧ LabAt K H' lab ∧ H' rl = some (.lst (refs RW)) ∧ Pqs K H' RW ∧ SqT K H' ba (cs.map V.int) ∧ (OL2.map (·.2))[j]? = some cs) (fun N3 hN3 => ?_) ?_
          · have hO8 := hO2.kp (Kp.of s8)
            have hLB8 : ∀ x ∈ LB, LabAt K H8 x := fun u hu => ⟨VB.Same.sqT s8 (hLB2 u hu).n, VB.Same.sqT s8 (hLB2 u hu).o, fun z hz => VB.Same.sqT s8 ((hLB2 u hu).oe z hz)⟩
            have LA8 : LabAt K H8 lab := ⟨VB.Same.sqT s8 LA2.n, VB.Same.sqT s8 LA2.o, fun z hz => VB.Same.sqT s8 (LA2.oe z hz)⟩
            have hol8 := s8 _ _ hol2
            refine ⟨_, rfl, _, rfl, itD cs, (itRows OL').map (·.2), itDp (.inl (.inl hba)), itsDp (SqL.of hol8) hO8, itShaped _, itsShaped OL', _, rfl, ?_⟩
            rw [itsAny]
            by_cases hq : cs ∈ OL'.map (·.2)
            · obtain ⟨j, hj⟩ := List.getElem?_of_mem hq
              refine iteFe (by rw [decide_eq_true hq] <;> rfl) ?_
              exact hN3 _ _ ⟨OL', j, rfl, s78, s8 _ _ hyq, hol8, hO8, nd2, bO2, Nat.le_refl _, VB.Same.sqT s8 hx7, s8 _ _ hll2, hLB8, s8 _ _ hml2, fun u hu => ⟨s8 _ _ (hMV2 u hu).1, (hMV2 u hu).2.kp (Kp.of s8)⟩, LA8, s8 _ _ hrl2, hRW.kp (Kp.of s8), .inl (.inl hba), hj⟩
            · refine iteTe (by rw [decide_eq_false hq] <;> rfl) ?_
              refine ⟨_, rfl, .inl ⟨rfl, _, SqL.of hol8⟩, _, rfl, ol, _, _, rfl, rfl, hol8, by rw [refs_len]; omega, ?_⟩
              have k9 := Kp.updL hol8 (.lst (refs OL' ++ [.ref ba]))
              refine hN3 _ _ ⟨OL' ++ [((ba, cs) : IR0)], OL'.length, rfl, sameIn s78 olH, by rw [upd_ne yo]; exact s8 _ _ hyq, by rw [upd_same, refs_snoc], fun u hu => ?_, ?_, fun u hu => ?_, by rw [List.length_append]; omega, k9.sqT (VB.Same.sqT s8 hx7), by rw [upd_ne oll.symm]; exact s8 _ _ hll2, fun u hu => ⟨k9.sqT (hLB8 u hu).n, k9.sqT (hLB8 u hu).o, fun z hz => k9.sqT ((hLB8 u hu).oe z hz)⟩, by rw [upd_ne oml.symm]; exact s8 _ _ hml2, fun u hu => ⟨by rw [upd_ne (hMV u hu).2.1.1]; exact s8 _ _ (hMV2 u hu).1, ((hMV2 u hu).2.kp (Kp.of s8)).kp k9⟩, ⟨k9.sqT LA8.n, k9.sqT LA8.o, fun z hz => k9.sqT (LA8.oe z hz)⟩, by rw [upd_ne orl.symm]; exact s8 _ _ hrl2, (hRW.kp (Kp.of s8)).kp k9, k9.sqT (.inl (.inl hba)), by rw [List.map_append, List.getElem?_append_right (by rw [List.length_map]; exact Nat.le_refl _), List.length_map, Nat.sub_self] <;> rfl⟩
              · rcases List.mem_append.mp hu with z | z
                · exact (hO8.kp k9) u z
                · rw [List.mem_singleton.mp z]
                  exact k9.sqT (.inl (.inl hba))
              · rw [List.map_append]
                refine List.nodup_append.mpr ⟨nd2, by simp, fun a ha b hb => ?_⟩
                rw [List.mem_singleton.mp hb]
                intro z
                have e : a = cs := z
                exact hq (by rw [← e]; exact ha)
              · rcases List.mem_append.mp hu with z | z
                · exact bO2 u z
                · rw [List.mem_singleton.mp z]
                  exact ⟨clo.asc, bcs, lcs⟩
          rintro σ H9 ⟨OL2, j, rfl, s9, hyq9, hol9, hO9, nd9, bO9, le9, hx9, hll9, hLB9, hml9, hMV9, LA9, hrl9, hRW9, hba9, hj⟩
          have lj := (List.getElem?_eq_some_iff.mp hj).1
          rw [List.length_map] at lj
          refine ⟨_, rfl, .inl ⟨rfl, _, SqL.of hrl9⟩, _, rfl, _, rfl, .inl ⟨rfl, _, SqL.of hol9⟩, _, rfl, ol, _, itD cs, (itRows OL2).map (·.2), j, itD cs, rfl, rfl, itsDp (SqL.of hol9) hO9, itDp hba9, itsShaped OL2, itShaped _, itsAt hj, (itEqv _ _).mpr rfl, itsNot nd9 hj, (by show 2 ≤ sizeLine; omega), fun tp ntp => ?_⟩
          have w1 := same_upd ntp (.tup [.str y, .int (j : Nat)])
          have hrl10 := w1 _ _ hrl9
          have tpr : tp ≠ rl := fun z => by rw [z, hrl9] at ntp; cases ntp
          refine ⟨rl, _, _, rfl, rfl, hrl10, by rw [refs_len]; omega, ?_⟩
          have k10 := (Kp.of w1).trans (Kp.updL hrl10 (.lst (refs RW ++ [.ref tp])))
          refine ⟨OL2, RW ++ [(tp, (y, ((j : Nat) : Int)))], _, _, rfl, sameIn (s9.trans w1) rlQ, by rw [upd_ne yr]; exact w1 _ _ hyq9, by rw [upd_ne orl]; exact w1 _ _ hol9, hO9.kp k10, nd9, bO9, by omega, k10.sqT hx9, by rw [upd_ne lrl]; exact w1 _ _ hll9, fun u hu => ⟨k10.sqT (hLB9 u hu).n, k10.sqT (hLB9 u hu).o, fun z hz => k10.sqT ((hLB9 u hu).oe z hz)⟩, by rw [upd_ne mrl]; exact w1 _ _ hml9, fun u hu => ⟨by rw [upd_ne (vrl u hu)]; exact w1 _ _ (hMV9 u hu).1, (hMV9 u hu).2.kp k10⟩, ⟨k10.sqT LA9.n, k10.sqT LA9.o, fun z hz => k10.sqT (LA9.oe z hz)⟩, by rw [upd_same, refs_snoc], fun u hu => ?_, by rw [List.length_append, List.length_singleton]; omega, fun u hu => ?_⟩
          · rcases List.mem_append.mp hu with z | z
            · exact (hRW9.kp k10) u z
            · rw [List.mem_singleton.mp z]
              exact .inl (.inl (by rw [upd_ne tpr]; exact upd_same))
          · rcases List.mem_append.mp hu with z | z
            · have := bRW u z
              exact ⟨this.1, this.2.1, by omega⟩
            · rw [List.mem_singleton.mp z]
              exact ⟨yac, by show (0 : Int) ≤ (j : Nat); omega, by show ((j : Nat) : Int) < _; omega⟩
        · rintro σ H7 ⟨OL', RW, r10, r11, rfl, s7, _, hol2, hO2, nd2, bO2, le2, _, hll2, hLB2, hml2, hMV2, LA2, hrl2, hRW, lRW, bRW⟩
          rw [List.length_map] at lRW
          exact hN' _ _ ⟨OL', RW, lab, _, _, rfl, s7, hol2, hO2, nd2, bO2, le2, hll2, hLB2, hml2, hMV2, LA2, lLA, cLA, hrl2, hRW, by omega, bRW⟩
      clear hrl hlb he1 u4 s3 H3 H2
      rintro σ H2 ⟨OL', RW, lab, r10, r11, rfl, s2, hol2, hO2, nd2, bO2, le2, hll2, hLB2, hml2, hMV2, LA, lLA, cLA, hrl, hRW, lRW, bRW⟩
      refine ⟨_, rfl, .inl ⟨rfl, _, SqL.of hll2⟩, _, rfl, ll, _, _, rfl, rfl, hll2, by rw [refs_len]; omega, ?_⟩
      have k3 := Kp.updL hll2 (.lst (refs LB ++ [.ref lab.1]))
      have ml3 : upd H2 ll (.lst (refs LB ++ [.ref lab.1])) ml = some (.lst (refs MV)) := by rw [upd_ne lml.symm]; exact hml2
      refine ⟨_, rfl, .inl ⟨rfl, _, SqL.of ml3⟩, _, rfl, ml, _, _, rfl, rfl, ml3, by rw [refs_len]; omega, ?_⟩
      have k4 := k3.trans (Kp.updL ml3 (.lst (refs MV ++ [.ref rl])))
      have pt : ∀ {b : Addr} {o : HO}, b ≠ ll → b ≠ ml → H2 b = some o → upd (upd H2 ll (.lst (refs LB ++ [.ref lab.1]))) ml (.lst (refs MV ++ [.ref rl])) b = some o := fun h1 h2 h => by rw [upd_ne h2, upd_ne h1]; exact h
      refine ⟨OL', LB ++ [lab], MV ++ [(rl, RW)], _, _, _, _, _, _, rfl, sameIn (sameIn s2 llH) mlH, pt oll oml hol2, hO2.kp k4, nd2, bO2, by omega, by rw [upd_ne lml, upd_same, refs_snoc], fun y hy => ?_, by rw [upd_same, refs_snoc], fun y hy => ?_, by rw [List.length_append, List.length_append, lMV] <;> rfl, by rw [List.length_append, List.length_singleton]; omega, by rw [List.length_append, List.length_singleton]; omega, .inl (by rw [List.length_append, List.length_singleton]; omega)⟩
      · rcases List.mem_append.mp hy with z | z
        · have N := hLB2 y z
          exact ⟨⟨k4.sqT N.n, k4.sqT N.o, fun u hu => k4.sqT (N.oe u hu)⟩, (hLB y z).2⟩
        · rw [List.mem_singleton.mp z]
          exact ⟨⟨k4.sqT LA.n, k4.sqT LA.o, fun u hu => k4.sqT (LA.oe u hu)⟩, lLA, cLA⟩
      · rcases List.mem_append.mp hy with z | z
        · obtain ⟨g1, g2, g3, g4, g5⟩ := hMV y z
          exact ⟨pt g2.2.1 g2.2.2 (hMV2 y z).1, g2, (hMV2 y z).2.kp k4, g4, fun u hu => ⟨(g5 u hu).1, (g5 u hu).2.1, by have := (g5 u hu).2.2; omega⟩⟩
        · rw [List.mem_singleton.mp z]
          exact ⟨pt lrl.symm mrl.symm hrl, ⟨orl.symm, lrl.symm, mrl.symm⟩, hRW.kp k4, lRW, bRW⟩
    · refine ⟨OL, LB, MV, _, _, _, _, _, _, rfl, s1, hol, hO, nd, bO, o1, hll, hLB, hml, hMV, lMV, lLO, by omega, ?_⟩
      have ge : OL.length ≤ k := Nat.le_of_not_lt fun z => c (decide_eq_true (by omega))
      exact .inr (by omega)
  · rintro σ H1 ⟨OL, LB, MV, r6, r7, r8, r9, r10, r11, rfl, s1, hol, hO, nd, bO, o1, hll, hLB, hml, hMV, lMV, lLO, lLk, lLe⟩
    have lO := few OL nd fun x hx => ⟨(bO x hx).1, (bO x hx).2.1⟩
    have lL : LB.length = OL.length := by omega
    refine VJ.nx ?_
    refine ⟨_, rfl, _, rfl, ll, ml, LB, MV, rfl, SqL.of hll, fun x hx => (hLB x hx).1, SqL.of hml, fun x hx => ?_, lMV, by omega, by omega, fun qq fa NL H2 s2 hqq hfa hN n1' n2' pr => ?_⟩
    · obtain ⟨g1, _, g2, g3, g4⟩ := hMV x hx
      exact ⟨SqL.of g1, g2, by omega, fun y hy => ⟨(g4 y hy).2.1, by rw [lL]; exact (g4 y hy).2.2⟩⟩
    · refine q qq fa _ NL H2 (sQ.trans (s1.trans s2)) hqq hfa hN n1' (by omega) ⟨fun x hx m hm => ?_⟩ fun x hx => ?_
      · obtain ⟨z, hz, rfl⟩ := List.mem_map.mp hx
        obtain ⟨_, ⟨mv, hmv, e⟩, p3⟩ := pr z hz
        obtain ⟨y, hy, rfl⟩ := List.mem_map.mp hm
        have b := p3 y hy
        refine ⟨b.1, by rw [List.length_map]; exact b.2, ?_⟩
        have w : y.2.1 ∈ mv.2.map (·.2.1) := by rw [← e]; exact List.mem_map_of_mem (f := fun y : Addr × Pr => y.2.1) hy
        obtain ⟨y2, hy2, e2⟩ := List.mem_map.mp w
        rw [← e2]
        exact ((hMV mv hmv).2.2.2.2 y2 hy2).1
      · obtain ⟨⟨lab, hlab, e1, e2⟩, ⟨mv, hmv, e⟩, p3⟩ := pr x hx
        have z := congrArg List.length e
        rw [List.length_map, List.length_map] at z
        rw [e1, e2, z]
        exact ⟨(hMV mv hmv).2.2.2.1, (hLB lab hlab).2.1, (hLB lab hlab).2.2⟩
end
end LW

set_option Elab.async false
set_option linter.all false
set_option maxRecDepth 100000
set_option maxHeartbeats 4000000
namespace VDT
open PySem PySem.Spec PyProof.Rows L2 LamX NdefX VB VM
/-! dict comprehensions, whatever the keys are: what a new dict is, and what a store does, are told apart -/
/-- a kind of dicts: the new one, what a store leaves -/
structure DK (P : Program) (w : World) (K : PySem.W.Frag) (u : Nat) where
  new : Addr → HO
  put : Hp → Addr → V → V → Hp → Prop
  fresh : ∀ (H : Hp) (h : Heap), sysModules < h.objs.size → ObjOk P w H (h.push { cls := .type "dict", data := .dict #[] }) h.objs.size (new h.objs.size)
  store : ∀ {X : Cx} {pn : List (Addr × Obj)} {σ : L2.St} {H H' : Hp} {s : Shared} {E : Value → Shared → Prop} {D : Addr} {y z : V} {uy uz : Value} {Q : Unit → Shared → Prop}, X.prog = P → X.w = w → X.K = K → X.A.units + u < cLine → Inv X pn σ H s → put H D y z H' → RelV y uy → RelV z uz →
    (∀ s', Inv X pn σ H' s' → Q () s') → wpAny (model X.prog X.w) X.A (dictSet D uy uz) Q E s
/-- keys that are tuples of ints and texts -/
def tups (P : Program) (w : World) (K : PySem.W.Frag) : DK P w K 1 where
  new := fun _ => .dT []
  put := fun H D y z H' => ∃ kvs k b, y = .ref b ∧ H b = some (.tup (k.map kV)) ∧ H D = some (.dT kvs) ∧ kvs.length < sizeLine ∧ H' = upd H D (.dT (putK kvs k z))
  fresh := fun H h hb => dt_empty h hb
  store := by
    intro X pn σ H H' s E D y z uy uz Q hP hw hK hu I hp ry rz fin
    subst hP hw hK
    obtain ⟨kvs, k, b, rfl, hb, hD, few, rfl⟩ := hp
    cases (show uy = Value.ref b from ry)
    obtain ⟨len, low, xs, kt, dh⟩ := dt_of I.hok hD
    have l1 : xs.length ≤ sizeLine := by rw [← Paired.length kt]; exact len
    have l2 : (putK kvs k z).length ≤ sizeLine := by have := length_putK kvs k z; omega
    refine wpAny_dictSet_heap (hsz := l1) (show X.A.units < cLine by omega) (key_of I.hok hb) dh fun h' dh' sb => fin _ ?_
    · obtain ⟨q, es, ep, hq, g1, g2, g3, _, g4⟩ := dh'
      refine d_write I (by rw [hD]; exact True.intro) sb ⟨q, hq⟩ ⟨l2, low, _, (kt.put k hb rz).keeps fun c ys ec => ?_, q, es, ep, hq, g1, g2, g3, g4⟩
      rw [upd_ne (ne_of ec hD (fun z => nomatch z))]
      exact ec
/-- keys that are nested tuples -/
def nests (P : Program) (w : World) (K : PySem.W.Frag) : DK P w K 60 where
  new := fun a => VDN.NdO P w a []
  put := VDN.NPut P w K
  fresh := fun H h hb => VDN.nd_empty P w h hb
  store := by
    intro X pn σ H H' s E D y z uy uz Q hP hw hK hu I hp ry rz fin
    subst hP hw hK
    obtain ⟨rows, k, b, e, kk, rfl, hk, dk, lr, rfl⟩ := hp
    cases (show uy = Value.ref b from ry)
    obtain ⟨len, low, xs, rel, dd⟩ := VDN.nd_at I e kk
    have l1 : xs.length ≤ sizeLine := by rw [← rel.length]; exact len
    have l2 : (VDN.putN rows k b z).length ≤ sizeLine := by have := VDN.putN_len rows k b z; omega
    refine wpAny_dictSet_heap (knd := nestedKind X.prog X.w) (hsz := l1) (by show X.A.units + _ < cLine; omega) ⟨VDN.nk_is I hk rfl, dk⟩ dd fun h' dd' sb => fin _ ?_
    obtain ⟨q, es, ep, hq, g1, g2, g3, _, g4⟩ := dd'
    exact d_write I (by rw [e]; exact True.intro) sb ⟨q, hq⟩ (VDN.nd_ok ⟨l2, low, _, VDN.rel_put rel k b rz, q, es, ep, hq, g1, g2, g3, g4⟩)
/-- the reading: {k: v for target in walked if ..} -/
def tDcG (o0 : Addr → HO) (Put : Hp → Addr → V → V → Hp → Prop) (ti : TI) (tg : TG) (tc : TT) (ty tz : TE) (own : List Nat) : TE := fun σ H Q => ti σ H fun J H1 => ∀ D, H1 D = none →
  ∃ W : Nat → Nat → Hp → Prop, (∃ m, W 0 m (upd H1 D (o0 D))) ∧ ∀ i m H', W i m H' → (J.stop i H' ∧ Q (.ref D) H') ∨ (J.go i H' ∧ ∃ Nx : Hp → Prop, (∀ G, Nx G → ∃ m', m' < m ∧ W (i + 1) m' G) ∧
    ∀ x G, J.yld i H' x G → tg x (wipe σ own) G fun τ G2 => wipe τ own = wipe σ own ∧ tc τ G2 fun b G3 => if b = true then ty τ G3 fun y G4 => tz τ G4 fun z G5 => ∃ G6, Put G5 D y z G6 ∧ Nx G6 else Nx G3)
section
variable {X : Cx} {P : Program} {w : World} {K : PySem.W.Frag} {u : Nat}
abbrev Blk (X : Cx) (sc : Scope) (r : Cx → Prop) : Prop := ∀ (s : Shared) (H : Hp) (C : Addr) (cl : List (Str × Addr)) (fp : List Addr), r (X.blk s H sc (compEnvC sc cl C X.env) fp)
theorem core (M : DK P w K u) (hP : X.prog = P) (hw : X.w = w) (hK : X.K = K) (hu : X.A.units + u < cLine) {pn : List (Addr × Obj)} {s : Shared} {σ : L2.St} {H : Hp} {Q : VK} {ek ev et ei : Expr} {cs : List Expr} {sc : Scope} {own : List (Str × Nat)} {pos pos' : Pos} {ti : TI} {tg : TG} {tc : TT} {ty tz : TE}
    {use : Option (Value → Sem Unit)} {R : Value → Shared → Prop} (calm : X.calm = true) (nd : X.N.Nodup) (I : Inv X pn σ H s) (pi : PI X et ei ti) (bk : BlkOk X.N X.env.scope sc own) (pg : Blk X sc fun Y => PG Y et tg) (pc : Blk X sc fun Y => PTs Y cs tc) (pk : Blk X sc fun Y => PE Y ek ty) (pv : Blk X sc fun Y => PE Y ev tz)
    (hs : ∀ x, foldedSetIterable ei X.env x = pure x) (h : tDcG M.new M.put ti tg tc ty tz (own.map (·.2)) σ H Q)
    (fin : ∀ D C s' m H', Inv X pn σ H' s' → Q (.ref D) H' → s'.heap.Ns C m → FpOk X pn H' C → compPost (model X.prog X.w) X.A X.xe use R (.ref D) C (.ok .next) s') :
    wpAny (model X.prog X.w) X.A (comprehension (.DictComp ek ev [⟨et, ei, cs, 0⟩] sc pos) sc X.env pos' newDict false (eval ei X.env) use) R X.xe s := by
  have free : ∀ q ∈ sc.names, q.2 = .free → ∃ c, X.env.cells.lookup q.1 = some c := fun q hq e => by
    rcases bk.free q hq e with z | z <;> exact I.ok.has _ (by first | exact .inl z | exact .inr z)
  refine wpAny_comprehension_free (use := use) rfl hs (closure_ok free) bk.kind (fun q hq e => by rw [bk.uniq q hq, e]) (thn (pi.run pn s σ H _ I h) fun xv s1 hx => thn hx fun itv s2 h2 => ?_)
  obtain ⟨it, fp, tn, J, H2, rfl, I2, T, st2, f2, q⟩ := h2
  refine wpAny_newObj_type (newEnv_comp ?_)
  generalize eD : s2.heap.objs.size = D
  have nD : H2 D = none := I2.hok.fresh (Nat.le_of_eq eD)
  obtain ⟨W, ⟨m0, w0⟩, turn⟩ := q D nD
  generalize e3 : ({ s2 with heap := s2.heap.push { cls := .type "dict", data := .dict #[] } } : Shared) = s3
  have I3 : Inv X pn σ (upd H2 D (M.new D)) s3 := by
    subst e3 eD
    refine I2.laid (t' := s2.toks) (fun b o e => Heap.get?_push_of_some _ e) (Nat.le_refl _) ?_
    rw [hP, hw]
    exact M.fresh _ s2.heap I2.big
  have h3 : s3.heap = s2.heap.push { cls := .type "dict", data := .dict #[] } := by rw [← e3]
  have f3 : ∀ b ∈ fp, FpOk X pn (upd H2 D (M.new D)) b ∧ b < s3.heap.objs.size := fun b hb => by
    obtain ⟨o, e, _⟩ := T.obj _ _ st2 b hb
    have lt := Heap.lt_size e
    refine ⟨⟨?_, (f2 b hb).2⟩, by rw [h3, Heap.size_push]; exact Nat.lt_succ_of_lt lt⟩
    rw [upd_ne (by rw [← eD]; exact Nat.ne_of_lt lt)]
    exact (f2 b hb).1
  have st3 : tn 0 s3.heap := T.keep _ _ _ st2 fun b _ o e => by rw [h3]; exact Heap.get?_push_of_some _ e
  have I4 := block_start I3 bk nd f3
  have pg := pg s3 (upd H2 D (M.new D)) s3.heap.objs.size (cellsFrom (s3.heap.objs.size + 1) sc.names (cloFrom X.env.cells sc.names [])) fp
  have pc := pc s3 (upd H2 D (M.new D)) s3.heap.objs.size (cellsFrom (s3.heap.objs.size + 1) sc.names (cloFrom X.env.cells sc.names [])) fp
  have pk := pk s3 (upd H2 D (M.new D)) s3.heap.objs.size (cellsFrom (s3.heap.objs.size + 1) sc.names (cloFrom X.env.cells sc.names [])) fp
  have pv := pv s3 (upd H2 D (M.new D)) s3.heap.objs.size (cellsFrom (s3.heap.objs.size + 1) sc.names (cloFrom X.env.cells sc.names [])) fp
  show codeAny _ _ (.compStart (.DictComp ek ev [⟨et, ei, cs, 0⟩] sc pos) 0 (.ref it) (.ref D) (compEnvC sc (cellsFrom (s3.heap.objs.size + 1) sc.names (cloFrom X.env.cells sc.names [])) s3.heap.objs.size X.env)) (compPost (model X.prog X.w) X.A X.xe use R (.ref D) s3.heap.objs.size) { s3 with heap := pushCells (s3.heap.push { cls := .type "dict", data := .dict #[] }) sc.names }
  have nfp : ∀ b ∈ fp, (upd H2 D (M.new D)) b = none := fun b hb => (f3 b hb).1.1
  generalize ece : compEnvC sc (cellsFrom (s3.heap.objs.size + 1) sc.names (cloFrom X.env.cells sc.names [])) s3.heap.objs.size X.env = ce at I4 pg pc pk pv ⊢
  have cL : ce.locals = s3.heap.objs.size := by subst ece; rfl
  generalize upd H2 D (M.new D) = H3 at I3 I4 pg pc pk pv w0 nfp f3
  generalize e4 : ({ s3 with heap := pushCells (s3.heap.push { cls := .type "dict", data := .dict #[] }) sc.names } : Shared) = s4 at I4 ⊢
  have st4 : tn 0 s4.heap := T.keep _ _ _ st3 fun b _ o e => by rw [← e4]; exact pushCells_keeps _ _ _ _ (Heap.get?_push_of_some _ e)
  have own3 : ∀ {τ : L2.St} {G : Hp} {s' : Shared}, Inv (X.blk s3 H3 sc ce fp) [] τ G s' → (∀ b ∈ fp, G b = none) → ∀ b ∈ fp, FpOk (X.blk s3 H3 sc ce fp) [] G b := fun {τ G s'} J' hn b hb =>
    ⟨hn b hb, (J'.ok.exf b hb).1, J'.ok.exfs b hb, .inl hb, fun x c e => (J'.ok.exf b hb).2 x c e, fun p hp => absurd (show p ∈ ([] : List (Addr × Obj)) ++ [] from hp) (by simp)⟩
  have loop : codeAny (model X.prog X.w) X.A (.compLoop (.DictComp ek ev [⟨et, ei, cs, 0⟩] sc pos) 0 (.ref it) (.ref D) ce) (compPost (model X.prog X.w) X.A X.xe use R (.ref D) s3.heap.objs.size) s4 := by
    refine compLoop_anyD (fun n s' => ∃ i G, Inv (X.blk s3 H3 sc ce fp) [] (wipe σ (own.map (·.2))) G s' ∧ tn i s'.heap ∧ (∀ b ∈ fp, G b = none) ∧ W i n G) ?_ m0 ⟨0, H3, I4, st4, nfp, w0⟩
    rintro n s5 ⟨i, H5, I5, st5, n5, w5⟩
    rcases turn i n H5 w5 with ⟨stop, qq⟩ | ⟨go, Nx, hNx, step⟩
    · refine thnF (T.done (X.blk s3 H3 sc ce fp) rfl rfl rfl calm i [] s5 _ H5 (fun _ _ => False) I5 (own3 I5 n5) st5 stop) fun r s6 ⟨hr, I6⟩ => ?_
      subst hr
      have I7 : Inv X pn σ H5 s6 := I3.call' (ch := fp) I6.os I6.base I6.hok I6.bare fun b hb => ⟨(f3 b hb).1.2.2.2.1, (f3 b hb).1.2.1, (f3 b hb).1.2.2.2.2.1, (f3 b hb).1.2.2.2.2.2⟩
      have nC : H5 s3.heap.objs.size = none := by rw [← cL]; exact I6.free
      obtain ⟨m, hn, _⟩ := I6.loc
      have hn : s6.heap.Ns ce.locals m := hn
      rw [cL] at hn
      exact fin D s3.heap.objs.size s6 m H5 I7 qq hn (I3.fpOk (Nat.le_refl _) nC)
    · refine thnF (T.item (X.blk s3 H3 sc ce fp) rfl rfl rfl calm i [] s5 _ H5 (fun _ _ => False) I5 (own3 I5 n5) st5 go) fun r s6 ⟨v, hr, h6⟩ => ?_
      subst hr
      refine thnF h6 fun _ s7 ⟨x, H7, I7, r7, y7, st7, n7⟩ => ?_
      refine thnF (pg.run _ s7 _ H7 x v _ (I7.pinned (own3 I7 n7) (T.obj _ _ st7)) r7 (step x H7 y7)) fun _ s8 ⟨τ, H8, I8, w8, q8⟩ => ?_
      refine thnF (pc.run _ s8 τ H8 _ I8 q8) fun b s9 ⟨H9, I9, q9⟩ => ?_
      have go1 : ∀ {s' : Shared} {G : Hp}, Inv (X.blk s3 H3 sc ce fp) ([] ++ pinsAt fp s7.heap) τ G s' → Nx G → ∃ m, m < n ∧ ∃ i G, Inv (X.blk s3 H3 sc ce fp) [] (wipe σ (own.map (·.2))) G s' ∧ tn i s'.heap ∧ (∀ b ∈ fp, G b = none) ∧ W i m G := fun {s' G} J' nx => by
        obtain ⟨m', lt, w'⟩ := hNx G nx
        have pin : ∀ b ∈ fp, ∀ o, s7.heap.get? b = some o → s'.heap.get? b = some o ∧ G b = none := fun b hb o e => ⟨(J'.pin (b, o) (List.mem_append_right _ (List.mem_append_right _ (mem_pinsAt hb e)))).1, (J'.pin (b, o) (List.mem_append_right _ (List.mem_append_right _ (mem_pinsAt hb e)))).2.1⟩
        refine ⟨m', lt, i + 1, G, (J'.unpinned (pins := [])).weak (by rw [← w8, wipe_length]) (fun j v e => ?_), T.keep _ _ _ st7 fun b hb o e => (pin b hb o e).1, fun b hb => ?_, w'⟩
        · rw [← w8] at e
          exact (wipe_some e).1
        · obtain ⟨o, e, _⟩ := T.obj _ _ st7 b hb
          exact (pin b hb o e).2
      cases b with
      | false =>
        simp only [Bool.false_eq_true, if_false] at q9 ⊢
        exact go1 I9 q9
      | true =>
        simp only [if_true] at q9 ⊢
        refine thnF (pk.run _ s9 τ H9 _ I9 q9) fun _ s10 ⟨yk, H10, I10, r10, q10⟩ => ?_
        refine thnF (pv.run _ s10 τ H10 _ I10 q10) fun _ s11 ⟨yv, H11, I11, r11, H12, hp, nx⟩ => ?_
        exact M.store (X := X.blk s3 H3 sc ce fp) hP hw hK hu I11 hp r10 r11 fun s12 I12 => go1 I12 nx
  exact codeAny_compStart_dict loop (T.self X.A 0 _ _ _ st4 loop)
theorem pe (M : DK P w K u) (hP : X.prog = P) (hw : X.w = w) (hK : X.K = K) (hu : X.A.units + u < cLine) {ek ev et ei : Expr} {cs : List Expr} {sc : Scope} {own : List (Str × Nat)} {pos : Pos} {ti : TI} {tg : TG} {tc : TT} {ty tz : TE} (calm : X.calm = true) (nd : X.N.Nodup) (pi : PI X et ei ti) (bk : BlkOk X.N X.env.scope sc own)
    (pg : Blk X sc fun Y => PG Y et tg) (pc : Blk X sc fun Y => PTs Y cs tc) (pk : Blk X sc fun Y => PE Y ek ty) (pv : Blk X sc fun Y => PE Y ev tz) (hs : ∀ x, foldedSetIterable ei X.env x = pure x := by intro _; rfl) :
    PE X (.DictComp ek ev [⟨et, ei, cs, 0⟩] sc pos) (tDcG M.new M.put ti tg tc ty tz (own.map (·.2))) := by
  refine ⟨fun pn s σ H Q I h => ?_⟩
  rw [arm_eval_DictComp]
  refine core M hP hw hK hu calm nd I pi bk pg pc pk pv hs h fun D C s' m H' I' q hn f => ⟨m, hn, fun h'' sb => ?_⟩
  obtain ⟨g0, g1, _, g3, g4, g5⟩ := f
  exact ⟨.ref D, H', I'.turned (t' := s'.toks) (fun b o hb e => (sb.2 b hb).trans e) g0 g1 g3 g4 g5, rfl, q⟩
end
section
variable {K : PySem.W.Frag} {a : Addr} {xs : List V} {tg : TG} {tc : TT} {ty tz : TE} {own : List Nat} {σ : L2.St} {H1 : Hp} {D : Addr} {Qd : Hp → Prop} {o0 : Addr → HO} {Put : Hp → Addr → V → V → Hp → Prop}
/-- over a tuple that stays -/
theorem tup (Pv : Nat → Hp → Prop) (h0 : Pv 0 (upd H1 D (o0 D))) (hl : ∀ i H, i ≤ xs.length → Pv i H → SqT K H a xs)
    (hs : ∀ i x H, xs[i]? = some x → Pv i H → tg x (wipe σ own) H fun τ G2 => wipe τ own = wipe σ own ∧ tc τ G2 fun b G3 => if b = true then ty τ G3 fun y G4 => tz τ G4 fun z G5 => ∃ G6, Put G5 D y z G6 ∧ Pv (i + 1) G6 else Pv (i + 1) G3) (hd : ∀ H, Pv xs.length H → Qd H) :
    ∃ W : Nat → Nat → Hp → Prop, (∃ m, W 0 m (upd H1 D (o0 D))) ∧ ∀ i m H', W i m H' → ((Itt K a).stop i H' ∧ Qd H') ∨ ((Itt K a).go i H' ∧ ∃ Nx : Hp → Prop, (∀ G, Nx G → ∃ m', m' < m ∧ W (i + 1) m' G) ∧
      ∀ x G, (Itt K a).yld i H' x G → tg x (wipe σ own) G fun τ G2 => wipe τ own = wipe σ own ∧ tc τ G2 fun b G3 => if b = true then ty τ G3 fun y G4 => tz τ G4 fun z G5 => ∃ G6, Put G5 D y z G6 ∧ Nx G6 else Nx G3) := by
  refine ⟨fun i m H => i + m = xs.length ∧ Pv i H, ⟨xs.length, Nat.zero_add _, h0⟩, ?_⟩
  rintro i m H ⟨e, p⟩
  have q := hl i H (by omega) p
  by_cases lt : i < xs.length
  · refine .inr ⟨⟨xs, xs[i], q, by simp [lt]⟩, Pv (i + 1), fun G p' => ⟨m - 1, by omega, by omega, p'⟩, fun x G y => ?_⟩
    obtain ⟨rfl, y⟩ := y
    exact hs i x _ (y xs q) p
  · obtain rfl : i = xs.length := by omega
    exact .inl ⟨⟨xs, q, Nat.le_refl _⟩, hd H p⟩
/-- over a list that stays -/
theorem lst (Pv : Nat → Hp → Prop) (h0 : Pv 0 (upd H1 D (o0 D))) (hl : ∀ i H, i ≤ xs.length → Pv i H → SqL K H a xs)
    (hs : ∀ i x H, xs[i]? = some x → Pv i H → tg x (wipe σ own) H fun τ G2 => wipe τ own = wipe σ own ∧ tc τ G2 fun b G3 => if b = true then ty τ G3 fun y G4 => tz τ G4 fun z G5 => ∃ G6, Put G5 D y z G6 ∧ Pv (i + 1) G6 else Pv (i + 1) G3) (hd : ∀ H, Pv xs.length H → Qd H) :
    ∃ W : Nat → Nat → Hp → Prop, (∃ m, W 0 m (upd H1 D (o0 D))) ∧ ∀ i m H', W i m H' → ((Itl K a).stop i H' ∧ Qd H') ∨ ((Itl K a).go i H' ∧ ∃ Nx : Hp → Prop, (∀ G, Nx G → ∃ m', m' < m ∧ W (i + 1) m' G) ∧
      ∀ x G, (Itl K a).yld i H' x G → tg x (wipe σ own) G fun τ G2 => wipe τ own = wipe σ own ∧ tc τ G2 fun b G3 => if b = true then ty τ G3 fun y G4 => tz τ G4 fun z G5 => ∃ G6, Put G5 D y z G6 ∧ Nx G6 else Nx G3) := by
  refine ⟨fun i m H => i + m = xs.length ∧ Pv i H, ⟨xs.length, Nat.zero_add _, h0⟩, ?_⟩
  rintro i m H ⟨e, p⟩
  have q := hl i H (by omega) p
  by_cases lt : i < xs.length
  · refine .inr ⟨⟨xs, xs[i], q, by simp [lt]⟩, Pv (i + 1), fun G p' => ⟨m - 1, by omega, by omega, p'⟩, fun x G y => ?_⟩
    obtain ⟨rfl, y⟩ := y
    exact hs i x _ (y xs q) p
  · obtain rfl : i = xs.length := by omega
    exact .inl ⟨⟨xs, q, Nat.le_refl _⟩, hd H p⟩
end
section
variable {X : Cx} {ek ev : Expr} {pos : Pos} {ty tz : TE}
/-- {k: v}, k a tuple of ints and texts -/
def tDisp1 (ty tz : TE) : TE := fun σ H Q => ∀ D, H D = none → ty σ (upd H D (.dT [])) fun y H1 => tz σ H1 fun z H2 => ∃ (k : List Key) (b : Addr), y = .ref b ∧ H2 b = some (.tup (k.map kV)) ∧ H2 D = some (.dT []) ∧ Q (.ref D) (upd H2 D (.dT [(k, z)]))
theorem pe_disp1 (hu : X.A.units + 1 < cLine) (hk : PE X ek ty) (hv : PE X ev tz) : PE X (.Dict [some ek] [ev] pos) (tDisp1 ty tz) := by
  refine ⟨fun pins s σ H Q I q => ?_⟩
  have hn := I.hok.fresh (Nat.le_refl s.heap.objs.size)
  have I1 := I.laid (a := s.heap.objs.size) (o := .dT []) (h' := s.heap.push { cls := .type "dict", data := .dict #[] }) (t' := s.toks) (fun _ _ q => Heap.get?_push_of_some _ q) (Nat.le_refl _) (dt_empty s.heap I.big)
  have shape : (evalEachOpt [some ek] X.env).zip ((evalEach [ev] X.env).map fun v => do let x ← v; standAt pos; pure x) = (pairTrees [some ek] [ev] X.env pos).map fun p => (some p.1, p.2) := rfl
  rw [arm_eval_Dict, shape, dictDisplay_pairs _ (by intro z; cases z) (by show 1 < 17; decide)]
  refine wpAny_bind (wpAny_standAt (wpAny_bind (wpAny_subDictH (knd := tupleKind (mixKind X.prog X.w)) (Q := fun d s' => wpAny (model X.prog X.w) X.A (pure (Value.ref d)) _ _ s') (show X.A.units < cLine by omega) (by show 1 ≤ 15; decide) ?_)))
  refine pairTrees_cons_walk (thn (hk.run pins _ σ _ _ I1 (q _ hn)) fun u s1 ⟨y, H1, I2, ry, q1⟩ => thn (hv.run pins s1 σ H1 _ I2 q1) fun v s2 ⟨z, H2, I3, rz, k, b, ey, hb, hD, q2⟩ => pairTrees_nil_walk ?_)
  subst ey
  obtain rfl : u = Value.ref b := ry
  obtain ⟨_, low, xs, kt, dh⟩ := dt_of I3.hok hD
  cases kt
  refine ⟨[(k, b, v)], ⟨rfl, rfl, key_of I3.hok hb, trivial⟩, dh, fun h' tk dk sb => wpAny_pure ?_⟩
  obtain ⟨o, es, ep, ho, hc, hd, he, his, hnd⟩ := dk
  have one : storedAllH [] [(k, b, v)] = [(k, b, v)] := rfl
  rw [one] at he hnd
  refine ⟨.ref s.heap.objs.size, _, d_write (ob := .dT [(k, z)]) I3 (by rw [hD]; exact True.intro) sb ⟨o, ho⟩ ⟨by show 1 ≤ sizeLine; rw [sizeLine_eq]; decide, low, [(k, b, v)], .cons ⟨rfl, ?_, rz⟩ .nil, o, es, ep, ho, hc, hd, he, hnd⟩, rfl, q2⟩
  show upd H2 s.heap.objs.size _ b = _
  rw [upd_ne (ne_of hb hD (fun z => nomatch z))]
  exact hb
end
end VDT

set_option Elab.async false
set_option linter.all false
namespace VKV
open PySem PySem.Spec PyProof.Rows L2
/-! dicts as lists of pairs: keys, places, stores -/
section
variable {κ : Type} [DecidableEq κ]
theorem valV_cons (a : κ × V) (r : List (κ × V)) (k : κ) : valV (a :: r) k = if a.1 = k then some a.2 else valV r k := by
  by_cases e : a.1 = k
  · rw [if_pos e, valV_pos e]
  · rw [if_neg e, valV_neg e]
theorem some_iff {kvs : List (κ × V)} {k : κ} : (∃ v, valV kvs k = some v) ↔ k ∈ kvs.map (·.1) := by
  induction kvs with
  | nil => exact ⟨fun ⟨_, z⟩ => (by cases z), fun z => absurd z List.not_mem_nil⟩
  | cons a r ih =>
    rw [List.map_cons, List.mem_cons, ← ih]
    constructor
    · rintro ⟨v, h⟩
      rw [valV_cons] at h
      by_cases e : a.1 = k
      · exact .inl e.symm
      · rw [if_neg e] at h; exact .inr ⟨v, h⟩
    · rintro h
      by_cases e : a.1 = k
      · exact ⟨a.2, by rw [valV_cons, if_pos e]⟩
      · obtain ⟨v, h⟩ := h.resolve_left fun z => e z.symm
        exact ⟨v, by rw [valV_cons, if_neg e]; exact h⟩
theorem isSome_iff {kvs : List (κ × V)} {k : κ} : (valV kvs k).isSome = true ↔ k ∈ kvs.map (·.1) := by
  rw [← some_iff, Option.isSome_iff_exists]
theorem none_iff {kvs : List (κ × V)} {k : κ} : valV kvs k = none ↔ k ∉ kvs.map (·.1) := by
  rw [← isSome_iff]
  cases valV kvs k <;> simp
theorem at_of {kvs : List (κ × V)} (nd : (kvs.map (·.1)).Nodup) {i : Nat} {k : κ} {v : V} (h : kvs[i]? = some (k, v)) : valV kvs k = some v := by
  induction kvs generalizing i with
  | nil => simp at h
  | cons a r ih =>
    rw [List.map_cons, List.nodup_cons] at nd
    cases i with
    | zero =>
      simp at h
      subst h
      rw [valV_cons, if_pos rfl]
    | succ i =>
      simp at h
      have m : k ∈ r.map (·.1) := List.mem_map.mpr ⟨(k, v), List.mem_of_getElem? h, rfl⟩
      rw [valV_cons, if_neg (fun e => nd.1 (by rw [e]; exact m))]
      exact ih nd.2 h
theorem mem_of {kvs : List (κ × V)} (nd : (kvs.map (·.1)).Nodup) {k : κ} {v : V} (h : (k, v) ∈ kvs) : valV kvs k = some v := by
  obtain ⟨i, hi⟩ := List.getElem?_of_mem h
  exact at_of nd hi
theorem of_val {kvs : List (κ × V)} {k : κ} {v : V} (h : valV kvs k = some v) : (k, v) ∈ kvs := by
  induction kvs with
  | nil => cases h
  | cons a r ih =>
    rw [valV_cons] at h
    by_cases e : a.1 = k
    · rw [if_pos e] at h
      cases h
      subst e
      exact List.mem_cons_self
    · rw [if_neg e] at h
      exact List.mem_cons_of_mem _ (ih h)
theorem put_keys {kvs : List (κ × V)} {k : κ} {v : V} : (putK kvs k v).map (·.1) = if k ∈ kvs.map (·.1) then kvs.map (·.1) else kvs.map (·.1) ++ [k] := by
  by_cases h : k ∈ kvs.map (·.1)
  · rw [if_pos h]
    unfold putK
    rw [if_pos (by rw [valV_any]; exact isSome_iff.mpr h), List.map_map]
    refine List.map_congr_left fun p _ => ?_
    show (if p.1 = k then (p.1, v) else p).1 = p.1
    split <;> rfl
  · rw [if_neg h, putK_new v (none_iff.mpr h), List.map_append] <;> rfl
theorem put_mem {kvs : List (κ × V)} {k j : κ} {v : V} : j ∈ (putK kvs k v).map (·.1) ↔ j ∈ kvs.map (·.1) ∨ j = k := by
  rw [put_keys]
  by_cases h : k ∈ kvs.map (·.1)
  · rw [if_pos h]
    exact ⟨Or.inl, fun z => z.elim id fun e => by rw [e]; exact h⟩
  · rw [if_neg h, List.mem_append, List.mem_singleton]
theorem put_nd {kvs : List (κ × V)} (nd : (kvs.map (·.1)).Nodup) (k : κ) (v : V) : ((putK kvs k v).map (·.1)).Nodup := by
  rw [put_keys]
  by_cases h : k ∈ kvs.map (·.1)
  · rw [if_pos h]; exact nd
  · rw [if_neg h]
    exact List.nodup_append.mpr ⟨nd, by simp, fun a ha b hb => by rw [List.mem_singleton.mp hb]; intro e; exact h (by rw [← e]; exact ha)⟩
end
end VKV
namespace VKV
open PySem PySem.Spec PyProof.Rows L2 LamX NdefX VB
/-- a def of which nothing is raised, its body told without what leaves it -/
theorem ok0 {P : Program} {w : World} {K : PySem.W.Frag} {mg : Str → Option Value} {base : Heap} {m qual : Str} {st : Stmt} {f : Addr} {fd : FuncData} {N ps : List Str} {k : Nat} {sp : Sp} (F : FunD K m qual (defArgs st) (defBody st) (defScope st) [] [] f fd) (S : FnScope N ps (defScope st))
    (len : ∀ vs H Q E, sp vs H Q E → vs.length = ps.length)
    (hbody : ∀ (cdv : Value) (A : Around) (outer : List Env) (s : Shared) (H : Hp) (vs : List V) (Q : VK) (E : XK),
      Room k (A.deeper (envOfC qual (defScope st) s.heap.objs.size f cdv)) → sp vs H Q E →
      ∃ t, PSs (cxOf CX0 P w K mg base N qual (defScope st) f cdv A outer s H E).nox (defBody st) t ∧ t { nx := fun _ H' => Q .non H', rt := Q } (start N vs) H) :
    FnOk P w K mg base CX0 (k + 1) f fd ps sp :=
  F.ok S len fun cdv A outer s H vs Q E hr h => by
    obtain ⟨t, a, b⟩ := hbody cdv A outer s H vs Q E hr h
    exact ⟨t, a.nox, b⟩
end VKV
namespace VKV
open PySem PySem.Spec PyProof.Rows L2 LamX NdefX VB
/-- what was locked for a walk is free again -/
theorem unlock {H H' : Hp} {g : Addr} {og : Obj} {u : HO} (s : Same (upd H g (.frz og u)) H') (h : H g = some u) : Same H (upd H' g u) := fun b o e => by
  by_cases z : b = g
  · subst z
    rw [upd_same, ← h]; exact e
  · rw [upd_ne z]
    exact s b o (by rw [upd_ne z]; exact e)
end VKV

set_option Elab.async false
set_option linter.all false
set_option maxRecDepth 100000
set_option maxHeartbeats 400000
namespace VIE
open PySem PySem.Spec PyProof.Rows L2 LamX NdefX VB
/-- isinstance(e, c) of the caught e, whose class is named in the reading -/
def rIsC (K : PySem.W.Frag) (D a : Addr) (cls : Value) (d : Option Addr) : List V → Hp → VK → Prop := fun xs H Q => cls = .ref D ∧ d = none ∧ rIsE K D a xs H Q
theorem isE {X : Cx} {K : PySem.W.Frag} {a D : Addr} {cls : Value} {d : Option Addr} {oe : Obj} {pn : List (Addr × Obj)} (hK : X.K = K) (C : ExcC K D) (zc : L2.Zc cls d oe) (hf : ∃ vs, oe.data = .fields vs) :
    CallR (X.suite a ((a, oe) :: pn)) (.builtin "isinstance") (rIsC K D a cls d) := by
  subst hK
  intro pins s σ H xs us Q I r h
  obtain ⟨e1, e2, h⟩ := h
  subst e1 e2
  exact call_isE C zc hf pins s σ H xs us Q I r h
theorem ifJ1 {c : TT} {t u : TS} {D : Ends} {σ : L2.St} {H : Hp} (F : Bool → Hp → Prop) (h : ∀ Q' : Bool → Hp → Prop, (∀ b H', F b H' → Q' b H') → c σ H Q') (r : ∀ b H', F b H' → if b = true then t D σ H' else u D σ H') : tIfS c t u D σ H := h _ r
end VIE

set_option Elab.async false
set_option linter.all false
set_option maxRecDepth 100000
set_option maxHeartbeats 1000000
namespace LW
open PySem PySem.Spec PyProof.Rows L2 LamX NdefX VB VM VP VE VX
abbrev s_law : Stmt := top 46
theorem sc_law : FnScope ["script", "k", "parts", "model", "form", "count", "edges", "made"] ["script"] (defScope s_law) := ⟨rfl, rfl, rfl, by decide +kernel, rfl, by decide +kernel, by decide +kernel⟩
section
variable {P : Program} {w : World} {K : PySem.W.Frag} {mg : Str → Option Value} {base : Heap}
theorem nodeE_len {md : Str} {first : Int} {fs : Int → Int} {x : ND} (h1 : x.1.length ≤ 4) (h2 : x.2.1.length ≤ 5) : (nodeE md first fs x).length ≤ 30 := by
  have z : ∀ k, k ≤ x.2.1.length → (offsE first fs x.1 x.2.1 k).length ≤ k * 5 := fun k => by
    induction k with
    | zero => intro _; exact Nat.le_refl _
    | succ k ih =>
      intro hk
      have y := ih (by omega)
      rw [offsE_succ (List.getElem?_eq_getElem (show k < x.2.1.length by omega)), List.length_append]
      unfold offE
      have w := List.length_filter_le (fun m : Pr => decide (m.1 ∈ x.2.1[k])) x.1
      rw [List.length_cons, List.length_map]
      omega
  have z2 := z _ (Nat.le_refl _)
  unfold nodeE
  rw [List.length_append, List.length_append, List.length_map]
  split <;> simp only [List.length_singleton, List.length_nil] <;> omega
theorem picE_len {md : Str} {xs : List ND} (h : ∀ x ∈ xs, x.1.length ≤ 4 ∧ x.2.1.length ≤ 5) : ∀ k, (picE md xs k).length ≤ k * 30 := fun k => by
  induction k with
  | zero => exact Nat.le_refl _
  | succ k ih =>
    unfold picE at ih ⊢
    rw [List.range_succ, List.flatMap_append, List.flatMap_singleton, List.length_append]
    cases hx : xs[k]? with
    | none => simp only [List.length_nil]; omega
    | some x =>
      have y := h x (List.mem_of_getElem? hx)
      have w := nodeE_len (md := md) (first := stI xs k) (fs := fsOf (firsts xs)) y.1 y.2
      show _ + (nodeE md (stI xs k) (fsOf (firsts xs)) x).length ≤ _
      omega
def spLaw (K : PySem.W.Frag) : Sp := fun vs H Q _ => ∃ (a : Addr) (ns : List Int), vs = [.ref a] ∧ SqL K H a (ns.map V.int) ∧ ∀ H', Q (.bl true) H'
theorem f_law {C CU f : Addr} {fd : FuncData} (TX : SysTxt K C) (F : FnP K "law" s_law f fd) (z_range : mg "range" = none) (z_tuple : mg "tuple" = none) (z_sorted : mg "sorted" = none)
    (c__law_cell : C8.Cal P w K mg base 1 "_law_cell" (spCell K) []) (c__law_like : C8.Cal P w K mg base 4 "_law_like" (spLike K 4) []) (c__law_system : C8.Cal P w K mg base 2 "_law_system" (spSys5 K) []) (c__law_once : C8.Cal P w K mg base 1 "_law_once" (spOnceM K) [])
    (c__law_form : C8.Cal P w K mg base 3 "_law_form" (spNForm K) []) (c__law_drawn : C8.Cal P w K mg base 2 "_law_drawn" (spDrawn K) []) (c_picture : C8.Cal P w K mg base 7 "picture" (calm (spPic K C CU)) []) (c__law_unknown : C8.Cal P w K mg base 9 "_law_unknown" (spUnkP K) []) :
    FnOk P w K mg base CX0 14 f fd ["script"] (spLaw K) := by
  refine VKV.ok0 F sc_law (fun vs H Q E h => ?_) (fun cdv A outer s0 H vs Q E0 hr h => ?_)
  · obtain ⟨a, ns, rfl, _⟩ := h
    rfl
  obtain ⟨sa, ns, rfl, hS, q⟩ := h
  refine ⟨_, (pss_cons (ps_for PassesOwn.never rfl (pi_range1 rfl z_range (pa_cons pe_int pa_nil)) (pg_name (i := 1) sc_law.nd rfl (Or.inl rfl))
      (pss_cons (ps_set (i := 2) sc_law.nd rfl (Or.inl rfl) (C8.pe_c c__law_system hr (by first | decide | omega) rfl (pa_cons (C8.pe_c c__law_cell hr (by first | decide | omega) rfl (pa_cons (pv 0) (pa_cons (pv 1) pa_nil))) (pa_cons pe_int pa_nil))))
      (pss_cons (ps_for PassesOwn.never rfl (pi_list (pe_lst (pa_cons pe_str (pa_cons pe_str (pa_cons pe_str pa_nil))))) (pg_name (i := 3) sc_law.nd rfl (Or.inl rfl))
        (pss_cons (ps_set (i := 4) sc_law.nd rfl (Or.inl rfl) (pe_ix (VK.ixL (K := K) rfl) (C8.pe_c c__law_form hr (by first | decide | omega) rfl (pa_cons (pv 2) (pa_cons (pv 3) pa_nil))) pe_int (fun _ _ => rfl)))
        (pss_cons (ps_asg (C8.pe_c c__law_drawn hr (by first | decide | omega) rfl (pa_cons (pv 4) (pa_cons (pv 3) pa_nil))) (pg_tup rfl (pgs_cons (pg_name (i := 5) sc_law.nd rfl (Or.inl rfl)) (pgs_cons (pg_name (i := 6) sc_law.nd rfl (Or.inl rfl)) pgs_nil))))
        (pss_cons (ps_set (i := 7) sc_law.nd rfl (Or.inl rfl) (C8.pe_c c_picture hr (by first | decide | omega) rfl (pa_cons (pv 4) (pa_cons (pv 3) pa_nil))))
        (pss_one (ps_if (PW.pt (pw_or (pt_not (pt_val (C8.pe_c c__law_like hr (by first | decide | omega) rfl (pa_cons (pe_fld (pv 7) rfl) (pa_cons (pv 5) pa_nil))))) (pw_or1 (pt_not (pt_val (C8.pe_c c__law_like hr (by first | decide | omega) rfl (pa_cons (pe_fld (pv 7) rfl) (pa_cons (pe_callTy (VK.tupQ (K := K) rfl) (by rfl) z_tuple (by decide +kernel) (pa_cons (pe_callB (VP.sortedE (K := K) rfl hr) (by rfl) z_sorted (by decide +kernel) (pa_cons (C8.pe_c c__law_once hr (by first | decide | omega) rfl (pa_cons (pv 6) pa_nil)) pa_nil)) pa_nil)) pa_nil))))))))
          (pss_one (ps_ret pe_bl))
          pss_nil))))))
      (pss_one (ps_if (pt_not (pt_val (C8.pe_c c__law_unknown hr (by first | decide | omega) rfl (pa_cons (pv 4) pa_nil))))
        (pss_one (ps_ret pe_bl))
        pss_nil)))))
    (pss_one (ps_ret pe_bl))), ?_⟩
  have zl := sizeLine_eq
  refine ⟨3, rfl, by decide, by decide, for_range (lo := 0) (n := 3)
    (fun i σ H' => ∃ r1 r2 r3 r4 r5 r6 r7 : Option V, σ = [some (.ref sa), r1, r2, r3, r4, r5, r6, r7] ∧ Same H H') ⟨none, none, none, none, none, none, none, rfl, Same.refl _⟩ ?_ ?_⟩
  · rintro k σ H1 hk ⟨r1, r2, r3, r4, r5, r6, r7, rfl, s1⟩
    refine ⟨_, rfl, _, rfl, sa, ns, (0 + (k : Int)), rfl, s1.seq hS, by omega, fun c0 _ => ⟨c0, 5, rfl, by decide, by decide, fun t1 l1 n L1 H2 s2 ht1 hl1 hE1 n1 n5 len1 ok1 ac1 => ?_⟩⟩
    refine VJ.nmS ?_
    have s12 := s1.trans s2
    refine ⟨(by show 3 ≤ sizeLine; omega), fun bl nbl => ?_⟩
    have s3 := same_upd nbl (.lst [.str "traces", .str "failures", .str "divergences"])
    have hbl : upd H2 bl (.lst [.str "traces", .str "failures", .str "divergences"]) bl = some (.lst (MODS.map V.str)) := upd_same
    have s13 := s12.trans s3
    have ht := s3 _ _ ht1
    have hl := s3 _ _ hl1
    have hE := hE1.kp (Kp.of s3)
    generalize upd H2 bl (.lst [.str "traces", .str "failures", .str "divergences"]) = H3 at s13 ht hl hE hbl ⊢
    clear s3 nbl ht1 hl1 hE1 s2 s1 s12
    refine ⟨bl, rfl, ⟨_, SqL.of hbl⟩, for_list (K := K) (a := bl) (xs := MODS.map V.str)
      (fun i σ H' => ∃ (r3 r4 r5 r6 r7 : Option V), σ = [some (.ref sa), some (.int (0 + (k : Int))), some (.ref t1), r3, r4, r5, r6, r7] ∧ Same H3 H' ∧ (0 < i → ∃ fv, r4 = some fv))
      ⟨_, _, _, _, _, rfl, Same.refl _, fun z => absurd z (Nat.lt_irrefl _)⟩ (fun i σ H' _ ⟨_, _, _, _, _, _, z, _⟩ => SqL.of (z _ _ hbl)) ?_ ?_⟩
    · rintro i v σ H4 hv ⟨r3, r4, r5, r6, r7, rfl, s4, _⟩
      rw [List.getElem?_map] at hv
      obtain ⟨md, hmd, rfl⟩ := Option.map_eq_some_iff.mp hv
      have mdin := List.mem_of_getElem? hmd
      refine VJ.nm ?_
      refine ⟨_, rfl, _, rfl, t1, l1, n, L1, md, rfl, .inl (.inl (s4 _ _ ht)), SqL.of (s4 _ _ hl), hE.kp (Kp.of s4), by omega, ok1, ac1, n1, n5, mdin, fun q0 fa N0 NL H5 s5 hq0 hfa hN l1' l32 FO bN => ?_⟩
      refine ⟨q0, _, _, .ref fa, rfl, rfl, SqL.of hq0, rfl, ?_⟩
      refine VJ.nmS ?_
      have lp : (picE md (NL.map ndV) NL.length).length ≤ 1000 := by
        have z := picE_len (md := md) (xs := NL.map ndV) (fun x hx => by
          obtain ⟨y, hy, rfl⟩ := List.mem_map.mp hx
          unfold ndV
          rw [List.length_map, List.length_map]
          exact ⟨(bN y hy).1, (bN y hy).2.1⟩) NL.length
        omega
      refine ⟨_, rfl, _, rfl, fa, NL, md, rfl, .inl (.inl hfa), hN, by omega, fun x hx => ⟨by have := (bN x hx).1; omega, by have := (bN x hx).2.1; omega⟩, FO, fun x hx z => (bN x hx).2.2 z, lp, fun q1 el G H6 s6 hq1 hel hG eG => ?_⟩
      refine ⟨q1, _, rfl, .inl (.inl hq1), rfl, .int _, _, rfl, .ref el, _, rfl, rfl, ?_⟩
      refine VJ.nmS ?_
      refine ⟨_, rfl, _, rfl, .inr ⟨fa, NL, md, rfl, mdin, VB.Same.sqT s6 (.inl (.inl hfa)), fun x hx => (hN x hx).same s6, l1', by omega, fun x hx => ⟨by have := (bN x hx).1; omega, by have := (bN x hx).2.1; omega⟩, FO, lp, fun ψ s E' H7 s7 SA mem => ?_⟩⟩
      refine VJ.nmS ?_
      have s37 := s4.trans (s5.trans (s6.trans s7))
      have hel7 := s7 _ _ hel
      have hG7 := hG.kp (Kp.of s7)
      have lG : G.length ≤ 1000 := by have z := congrArg List.length eG; rw [List.length_map] at z; omega
      have acG : ∀ x ∈ G, x.2.2.1 ∈ acts := fun x hx => by
        have z := picE_ok (md := md) FO x.2 (by rw [List.length_map, ← eG]; exact List.mem_map_of_mem hx)
        exact z.2.2.2.2
      have lE' : E'.length ≤ 1000 := by
        have z := nd_le E' (picE md (NL.map ndV) NL.length) (List.nodup_iff_pairwise_ne.mpr (SA.asc.imp fun h e => by rw [e] at h; exact ltE_irrefl _ h)) fun e he => (mem e).1 he
        omega
      refine VIE.ifJ1 (fun b H' => b = false ∧ Same H7 H') (fun Q' fin => ?_) (fun b H8 ⟨eb, s8⟩ => ?_)
      · obtain ⟨⟨dx1, te1, ll1, td1, LE1, rows1, kvs1, S1⟩, _, ok1'⟩ := id SA
        refine ⟨_, rfl, s, C, dx1, _, _, rfl, S1.hp, TX.cl, TX.n0, fl_count _ te1 ll1 td1, _, rfl, .int _, .int _, .int _, rfl, .int _, .int _, (by show 0 < 4; decide), rfl, fun H12 s12 => ?_⟩
        refine ⟨_, rfl, iteFe rfl ?_⟩
        have SA2 := SA.same s12
        clear S1
        obtain ⟨⟨dx2, te2, ll2, td2, LE2, rows2, kvs2, S2⟩, _, ok2'⟩ := id SA2
        have hM11 := hG7.kp (Kp.of s12)
        refine ⟨_, rfl, s, C, dx2, _, _, rfl, S2.hp, TX.cl, TX.n1, fl_edges _ te2 ll2 td2, _, rfl, el, G, rfl, SqL.of (s12 _ _ hel7), hM11, by omega, acG, fun c' L' nc subL eL => ?_⟩
        have s13 := same_upd nc (.lst (refs L'))
        have hL2 : Eds K (upd H12 c' (.lst (refs L'))) L' := fun x hx => (hM11.kp (Kp.of s13)) x (subL x hx)
        refine ⟨c', L', rfl, SqL.of upd_same, fun z hz => edDp (hL2 z hz), alikeE L', sortableE L', fun z _ => depthE z, fun q4 nq4 => ?_⟩
        have s14 := same_upd nq4 (.lst (refs (L'.mergeSort (PySem.W.dataLe false encE))))
        rw [show (L'.mergeSort (PySem.W.dataLe false encE)).map embE = refs (L'.mergeSort (PySem.W.dataLe false encE)) from rfl]
        refine ⟨q4, _, rfl, .inl ⟨SqL.of upd_same, fun du ndu => ?_⟩⟩
        have s15 := s13.trans (s14.trans (same_upd ndu (.tup (refs (L'.mergeSort (PySem.W.dataLe false encE))))))
        have hdu : upd (upd (upd H12 c' (.lst (refs L'))) q4 (.lst (refs (L'.mergeSort (PySem.W.dataLe false encE))))) du (.tup (refs (L'.mergeSort (PySem.W.dataLe false encE)))) du = some (.tup (refs (L'.mergeSort (PySem.W.dataLe false encE)))) := upd_same
        have hL5 : Eds K (upd (upd (upd H12 c' (.lst (refs L'))) q4 (.lst (refs (L'.mergeSort (PySem.W.dataLe false encE))))) du (.tup (refs (L'.mergeSort (PySem.W.dataLe false encE))))) (L'.mergeSort (PySem.W.dataLe false encE)) := fun z hz => (hL2.kp (Kp.of (s14.trans (same_upd ndu _)))) z (List.mem_mergeSort.mp hz)
        have eLD : (L'.mergeSort (PySem.W.dataLe false encE)).map (·.2) = E' := ascE (srtE (by rw [eL]; exact onceG_nodup _ _ List.nodup_nil)) SA.asc fun e => by rw [mem_srt, eL, onceG_mem, mem, eG]; simp
        generalize upd (upd (upd H12 c' (.lst (refs L'))) q4 (.lst (refs (L'.mergeSort (PySem.W.dataLe false encE))))) du (.tup (refs (L'.mergeSort (PySem.W.dataLe false encE)))) = H14 at s15 hdu hL5 ⊢
        have dA : Dp K H14 (.ref te2) (.tuple (E'.map edD)) := .tup (.inl (.inl (s15 _ _ S2.ht))) (by rw [← S2.eE, List.map_map]; exact (S2.hE.kp (Kp.of s15)).all)
        have dB : Dp K H14 (.ref du) (.tuple (E'.map edD)) := .tup (.inl (.inl hdu)) (by rw [← eLD, List.map_map]; exact hL5.all)
        have dep : (PyData.tuple (E'.map edD)).depth < 4 := by
          have z := eds_depth E'
          unfold PyData.depth
          omega
        have sli : slimD 100000 (.tuple (E'.map edD)) = true := by
          simp only [slimD, List.length_map, eds_slim, Bool.and_true, decide_eq_true_eq]
          omega
        refine ⟨.ref te2, .ref du, .tuple (E'.map edD), rfl, dA, dB, dep, sli, fun H15 s16 => ⟨_, rfl, fin _ _ ⟨rfl, s12.trans (s15.trans s16)⟩⟩⟩
      subst eb
      exact iteF ⟨_, _, _, _, _, rfl, s37.trans s8, fun _ => ⟨_, rfl⟩⟩
    · rintro σ H4 ⟨r3, r4, r5, r6, r7, rfl, s4, h4⟩
      obtain ⟨fv, rfl⟩ := h4 (by decide)
      refine VJ.nx ?_
      refine ⟨_, rfl, fv, rfl, fun H5 s5 => ⟨_, rfl, ?_⟩⟩
      exact iteF ⟨_, _, _, _, _, _, _, rfl, s13.trans (s4.trans s5)⟩
  · rintro σ H1 ⟨r1, r2, r3, r4, r5, r6, r7, rfl, s1⟩
    exact q H1
end
end LW

set_option Elab.async false
set_option linter.all false
set_option maxRecDepth 100000
set_option maxHeartbeats 4000000
namespace VHK
open PySem PySem.Spec PyProof.Rows L2 LamX NdefX He
/-! the facts of a head over what the names reach and the table of the interpreter's statics -/
def asS (g : Addr → Option Obj) (n : Nat) : List Addr := He.asD g n ++ [cStatics]
def obsS (n : Nat) (fa : List Fa) (fn : List DefD) (ex : PySem.W.Frag → Bool) (g : Addr → Option Obj) : AlX := (obsT fa fn [] (frT g (asS g n)), ex (frT g (asS g n)))
theorem says_of {n : Nat} {fa : List Fa} {fn : List DefD} {ex : PySem.W.Frag → Bool} {w : World} {h : Heap} (e : obsS n fa fn ex h.get? = valX fn [] w) : SaysX fa fn [] [] ex w h (frT h.get? (asS h.get? n)) :=
  ⟨congrArg (fun z : AlX => z.1) e, congrArg (fun z : AlX => z.2) e, fun p hp => absurd hp List.not_mem_nil, fun p hp => absurd hp List.not_mem_nil, fun p hp => absurd hp List.not_mem_nil⟩
def hookS (n : Nat) (fa : List Fa) (fn : List DefD) (ex : PySem.W.Frag → Bool) : PySem.W.Hook where
  α := AlX
  obs := fun s => obsS n fa fn ex s.heap.get?
  val := fun w => valX fn [] w
  says := fun w h => ∃ K : PySem.W.Frag, K.In h ∧ SaysX fa fn [] [] ex w h K
  of := fun _ _ e => ⟨_, frT_in, says_of e⟩
  keeps := fun _ _ _ ⟨K, hK, c⟩ k => ⟨K, PySem.W.Frag.In.keeps hK k, ⟨c.t, c.more, c.hd, c.out, fun p hp => absurd hp List.not_mem_nil⟩⟩
theorem obsS_eq {n : Nat} {fa : List Fa} {fn : List DefD} {ex : PySem.W.Frag → Bool} {g : Addr → Option Obj} {s : Shared} (h : ∀ a, g a = s.heap.get? a) : obsS n fa fn ex g = (hookS n fa fn ex).obs s := by
  have e : g = s.heap.get? := funext h
  rw [e] <;> rfl
/-- .. with tables -/
def obsR (n : Nat) (fa : List Fa) (fn : List DefD) (ts : List Tab) (ex : PySem.W.Frag → Bool) (g : Addr → Option Obj) : AlX := (obsT fa fn ts (frT g (asS g n)), ex (frT g (asS g n)))
theorem saysR_of {n : Nat} {fa : List Fa} {fn : List DefD} {ts : List Tab} {ex : PySem.W.Frag → Bool} {w : World} {h : Heap} (e : obsR n fa fn ts ex h.get? = valX fn ts w) : SaysX fa fn ts [] ex w h (frT h.get? (asS h.get? n)) :=
  ⟨congrArg (fun z : AlX => z.1) e, congrArg (fun z : AlX => z.2) e, fun p hp => absurd hp List.not_mem_nil, fun p hp => absurd hp List.not_mem_nil, fun p hp => absurd hp List.not_mem_nil⟩
def hookR (n : Nat) (fa : List Fa) (fn : List DefD) (ts : List Tab) (ex : PySem.W.Frag → Bool) : PySem.W.Hook where
  α := AlX
  obs := fun s => obsR n fa fn ts ex s.heap.get?
  val := fun w => valX fn ts w
  says := fun w h => ∃ K : PySem.W.Frag, K.In h ∧ SaysX fa fn ts [] ex w h K
  of := fun _ _ e => ⟨_, frT_in, saysR_of e⟩
  keeps := fun _ _ _ ⟨K, hK, c⟩ k => ⟨K, PySem.W.Frag.In.keeps hK k, ⟨c.t, c.more, c.hd, c.out, fun p hp => absurd hp List.not_mem_nil⟩⟩
theorem obsR_eq {n : Nat} {fa : List Fa} {fn : List DefD} {ts : List Tab} {ex : PySem.W.Frag → Bool} {g : Addr → Option Obj} {s : Shared} (h : ∀ a, g a = s.heap.get? a) : obsR n fa fn ts ex g = (hookR n fa fn ts ex).obs s := by
  have e : g = s.heap.get? := funext h
  rw [e] <;> rfl
end VHK
namespace VHK
open PySem PySem.Spec PyProof.Rows L2 LamX NdefX He
/-! .. with the tables of code too -/
def obsQ (n : Nat) (fa : List Fa) (fn : List DefD) (ts : List Tab) (tf : List Defn) (ex : PySem.W.Frag → Bool) (g : Addr → Option Obj) : AlX := (obsT fa fn ts (frT g (asS g n)), ex (frT g (asS g n)) && tabsB g tf (frT g (asS g n)))
theorem tabs_at {g : Addr → Option Obj} {tf : List Defn} {K : PySem.W.Frag} (h : tabsB g tf K = true) {p : Defn} (hp : p ∈ tf) : PySem.W.codeHdIn K (cT K p).1 (cT K p).2 = true ∧ ∃ o, g (cT K p).2 = some o ∧ emptyTab o = true := by
  obtain ⟨h1, h2⟩ := ba (List.all_eq_true.mp h p hp)
  refine ⟨h1, ?_⟩
  cases e : g (cT K p).2 with
  | none => rw [e] at h2; cases h2
  | some o => rw [e] at h2; exact ⟨o, rfl, h2⟩
theorem saysQ_of {n : Nat} {fa : List Fa} {fn : List DefD} {ts : List Tab} {tf : List Defn} {ex : PySem.W.Frag → Bool} {w : World} {h : Heap} (e : obsQ n fa fn ts tf ex h.get? = valX fn ts w) : SaysX fa fn ts tf ex w h (frT h.get? (asS h.get? n)) := by
  have e2 : (ex (frT h.get? (asS h.get? n)) && tabsB h.get? tf (frT h.get? (asS h.get? n))) = true := congrArg (fun z : AlX => z.2) e
  obtain ⟨h1, h2⟩ := ba e2
  refine ⟨congrArg (fun z : AlX => z.1) e, h1, fun p hp => (tabs_at h2 hp).1, fun p hp => ?_, fun p hp => ?_⟩
  · obtain ⟨_, o, q, z⟩ := tabs_at h2 hp
    exact frT_none q z
  · obtain ⟨_, o, q, z⟩ := tabs_at h2 hp
    rw [q, emptyTab_eq z]
def hookQ (n : Nat) (fa : List Fa) (fn : List DefD) (ts : List Tab) (tf : List Defn) (ex : PySem.W.Frag → Bool) : PySem.W.Hook where
  α := AlX
  obs := fun s => obsQ n fa fn ts tf ex s.heap.get?
  val := fun w => valX fn ts w
  says := fun w h => ∃ K : PySem.W.Frag, K.In h ∧ SaysX fa fn ts tf ex w h K
  of := fun _ _ e => ⟨_, frT_in, saysQ_of e⟩
  keeps := fun _ _ _ ⟨K, hK, c⟩ k => ⟨K, PySem.W.Frag.In.keeps hK k, ⟨c.t, c.more, c.hd, c.out, fun p hp => k _ _ (c.empty p hp)⟩⟩
theorem obsQ_eq {n : Nat} {fa : List Fa} {fn : List DefD} {ts : List Tab} {tf : List Defn} {ex : PySem.W.Frag → Bool} {g : Addr → Option Obj} {s : Shared} (h : ∀ a, g a = s.heap.get? a) : obsQ n fa fn ts tf ex g = (hookQ n fa fn ts tf ex).obs s := by
  have e : g = s.heap.get? := funext h
  rw [e] <;> rfl
/-- a written tuple of values at an address -/
def tupAt (K : PySem.W.Frag) (a : Addr) (vs : List V) : Bool := match K.lookup a with
  | some ⟨.type c, _, .seq its _, _⟩ => decide (c = "tuple") && (decide (its.size ≤ sizeLine) && relAll vs its.toList)
  | _ => false
theorem tupAt_ok {K : PySem.W.Frag} {a : Addr} {vs : List V} (h : tupAt K a vs = true) (H : Hp) : SqT K H a vs := by
  unfold tupAt at h
  cases q : K.lookup a with
  | none => rw [q] at h; cases h
  | some o =>
    obtain ⟨oc, od, dt, osl⟩ := o
    rw [q] at h
    cases oc with
    | type c =>
      cases dt with
      | seq its n =>
        obtain ⟨h1, h2⟩ := ba h
        obtain ⟨h3, h4⟩ := ba h2
        exact .inr ⟨_, its, n, q, by rw [of_decide_eq_true h1], rfl, of_decide_eq_true h3, relAll_ok h4⟩
      | _ => cases h
    | _ => cases h
/-- what a written dict holds under a text, an address -/
def atKey (K : PySem.W.Frag) (d : Addr) (x : Str) : Addr := match PySem.W.nsIn K d x with
  | some (some (.ref a)) => a
  | _ => 0
end VHK

set_option Elab.async false
set_option linter.all false
set_option maxRecDepth 100000
set_option maxHeartbeats 0
namespace LW
open PySem PySem.Spec PyProof.Rows L2 LamX NdefX VB VM VP VE VX VF VY
def dd (x : Str) (st : Stmt) : He.DefD := ⟨(x, none), x, x, defArgs st, defBody st, defScope st, [], []⟩
def dm (c m q : Str) (st : Stmt) : He.DefD := ⟨(c, some m), m, q, defArgs st, defBody st, defScope st, [], []⟩
def fn : List He.DefD := [dd "is_model" s_is_model, dd "check_model" s_check_model, dd "is_event" s_is_event, dd "has_form" s_has_form, dd "is_action" s_is_action, dd "check_edges" s_check_edges, dd "picture" s_picture, dd "node_edges" s_node_edges, dd "_law_cell" s__law_cell, dd "_law_draws" s__law_draws, dd "_law_like" s__law_like, dd "_law_system" s__law_system, dd "_law_once" s__law_once, dd "_law_quick" s__law_quick, dd "_law_starts" s__law_starts, dd "_law_go" s__law_go, dd "_law_shown" s__law_shown, dd "_law_does" s__law_does, dd "_law_part_of" s__law_part_of, dd "_law_any_lost" s__law_any_lost, dd "_law_open" s__law_open, dd "_law_least" s__law_least, dd "_law_form" s__law_form, dd "_law_marks" s__law_marks, dd "_law_folded" s__law_folded, dd "_law_states_of" s__law_states_of, dd "_law_drawn" s__law_drawn, dd "_law_unknown" s__law_unknown, dd "law" s_law, dm "System" "__init__" "System.__init__" s_System___init__, dm "UnknownModel" "__init__" "UnknownModel.__init__" s_UnknownModel___init__]
def fa : List He.Fa := [.glo "is_model", .glo "check_model", .glo "is_event", .glo "has_form", .glo "is_action", .glo "check_edges", .glo "picture", .glo "node_edges", .glo "_law_cell", .glo "_law_draws", .glo "_law_like", .glo "_law_system", .glo "_law_once", .glo "_law_quick", .glo "_law_starts", .glo "_law_go", .glo "_law_shown", .glo "_law_does", .glo "_law_part_of", .glo "_law_any_lost", .glo "_law_open", .glo "_law_least", .glo "_law_form", .glo "_law_marks", .glo "_law_folded", .glo "_law_states_of", .glo "_law_drawn", .glo "_law_unknown", .glo "law", .free "len", .free "range", .free "abs", .free "int", .free "isinstance", .free "bool", .free "str", .free "list", .free "tuple", .free "set", .free "sorted", .free "all", .free "any", .free "enumerate", .glo "KINDS_IN_MODELS", .str "LOWER" "abcdefghijklmnopqrstuvwxyz", .str "DIGITS" "0123456789", .int "LONGEST_NAME" 12, .glo "NO_EVENTS", .int "MOST_STATES" 20000, .glo "System", .cls "System", .noat "System" "count", .noat "System" "edges", .noat "System" "_leaving", .noat "System" "_targets", .mkr "System", .glo "BadArgument", .exc "BadArgument", .exm "BadArgument" "BadArgument" true, .glo "BadSystem", .exc "BadSystem", .exm "BadSystem" "BadSystem" true, .glo "UnknownModel", .exm "UnknownModel" "UnknownModel" true, .glo "ParleyError"]
abbrev loose : List Str := (["KINDS_IN_MODELS", "LOWER", "DIGITS", "LONGEST_NAME", "NO_EVENTS", "MOST_STATES", "ParleyError", "BadArgument", "BadSystem", "UnknownModel", "System", "_wall", "is_model", "check_model", "is_event", "has_form", "is_action", "check_edges", "picture", "node_edges", "_law_cell", "_law_draws", "_law_like", "_law_system"] : List Str) ++ (["_law_once", "_law_quick", "_law_starts", "_law_go", "_law_shown", "_law_does", "_law_part_of", "_law_any_lost", "_law_open", "_law_least", "_law_form", "_law_marks", "_law_folded", "_law_states_of", "_law_drawn", "_law_unknown"] : List Str)
abbrev lawAt : Nat := 46
theorem i_is_model : fn[0]? = some (dd "is_model" s_is_model) := rfl
theorem i_check_model : fn[1]? = some (dd "check_model" s_check_model) := rfl
theorem i_is_event : fn[2]? = some (dd "is_event" s_is_event) := rfl
theorem i_has_form : fn[3]? = some (dd "has_form" s_has_form) := rfl
theorem i_is_action : fn[4]? = some (dd "is_action" s_is_action) := rfl
theorem i_check_edges : fn[5]? = some (dd "check_edges" s_check_edges) := rfl
theorem i_picture : fn[6]? = some (dd "picture" s_picture) := rfl
theorem i_node_edges : fn[7]? = some (dd "node_edges" s_node_edges) := rfl
theorem i__law_cell : fn[8]? = some (dd "_law_cell" s__law_cell) := rfl
theorem i__law_draws : fn[9]? = some (dd "_law_draws" s__law_draws) := rfl
theorem i__law_like : fn[10]? = some (dd "_law_like" s__law_like) := rfl
theorem i__law_system : fn[11]? = some (dd "_law_system" s__law_system) := rfl
theorem i__law_once : fn[12]? = some (dd "_law_once" s__law_once) := rfl
theorem i__law_quick : fn[13]? = some (dd "_law_quick" s__law_quick) := rfl
theorem i__law_starts : fn[14]? = some (dd "_law_starts" s__law_starts) := rfl
theorem i__law_go : fn[15]? = some (dd "_law_go" s__law_go) := rfl
theorem i__law_shown : fn[16]? = some (dd "_law_shown" s__law_shown) := rfl
theorem i__law_does : fn[17]? = some (dd "_law_does" s__law_does) := rfl
theorem i__law_part_of : fn[18]? = some (dd "_law_part_of" s__law_part_of) := rfl
theorem i__law_any_lost : fn[19]? = some (dd "_law_any_lost" s__law_any_lost) := rfl
theorem i__law_open : fn[20]? = some (dd "_law_open" s__law_open) := rfl
theorem i__law_least : fn[21]? = some (dd "_law_least" s__law_least) := rfl
theorem i__law_form : fn[22]? = some (dd "_law_form" s__law_form) := rfl
theorem i__law_marks : fn[23]? = some (dd "_law_marks" s__law_marks) := rfl
theorem i__law_folded : fn[24]? = some (dd "_law_folded" s__law_folded) := rfl
theorem i__law_states_of : fn[25]? = some (dd "_law_states_of" s__law_states_of) := rfl
theorem i__law_drawn : fn[26]? = some (dd "_law_drawn" s__law_drawn) := rfl
theorem i__law_unknown : fn[27]? = some (dd "_law_unknown" s__law_unknown) := rfl
theorem i_law : fn[28]? = some (dd "law" s_law) := rfl
theorem i_System___init__ : fn[29]? = some (dm "System" "__init__" "System.__init__" s_System___init__) := rfl
theorem i_UnknownModel___init__ : fn[30]? = some (dm "UnknownModel" "__init__" "UnknownModel.__init__" s_UnknownModel___init__) := rfl
theorem j_is_model : fa[0]? = some (.glo "is_model") := rfl
theorem j_check_model : fa[1]? = some (.glo "check_model") := rfl
theorem j_is_event : fa[2]? = some (.glo "is_event") := rfl
theorem j_has_form : fa[3]? = some (.glo "has_form") := rfl
theorem j_is_action : fa[4]? = some (.glo "is_action") := rfl
theorem j_check_edges : fa[5]? = some (.glo "check_edges") := rfl
theorem j_picture : fa[6]? = some (.glo "picture") := rfl
theorem j_node_edges : fa[7]? = some (.glo "node_edges") := rfl
theorem j__law_cell : fa[8]? = some (.glo "_law_cell") := rfl
theorem j__law_draws : fa[9]? = some (.glo "_law_draws") := rfl
theorem j__law_like : fa[10]? = some (.glo "_law_like") := rfl
theorem j__law_system : fa[11]? = some (.glo "_law_system") := rfl
theorem j__law_once : fa[12]? = some (.glo "_law_once") := rfl
theorem j__law_quick : fa[13]? = some (.glo "_law_quick") := rfl
theorem j__law_starts : fa[14]? = some (.glo "_law_starts") := rfl
theorem j__law_go : fa[15]? = some (.glo "_law_go") := rfl
theorem j__law_shown : fa[16]? = some (.glo "_law_shown") := rfl
theorem j__law_does : fa[17]? = some (.glo "_law_does") := rfl
theorem j__law_part_of : fa[18]? = some (.glo "_law_part_of") := rfl
theorem j__law_any_lost : fa[19]? = some (.glo "_law_any_lost") := rfl
theorem j__law_open : fa[20]? = some (.glo "_law_open") := rfl
theorem j__law_least : fa[21]? = some (.glo "_law_least") := rfl
theorem j__law_form : fa[22]? = some (.glo "_law_form") := rfl
theorem j__law_marks : fa[23]? = some (.glo "_law_marks") := rfl
theorem j__law_folded : fa[24]? = some (.glo "_law_folded") := rfl
theorem j__law_states_of : fa[25]? = some (.glo "_law_states_of") := rfl
theorem j__law_drawn : fa[26]? = some (.glo "_law_drawn") := rfl
theorem j__law_unknown : fa[27]? = some (.glo "_law_unknown") := rfl
theorem j_law : fa[28]? = some (.glo "law") := rfl
theorem j_len : fa[29]? = some (.free "len") := rfl
theorem j_range : fa[30]? = some (.free "range") := rfl
theorem j_abs : fa[31]? = some (.free "abs") := rfl
theorem j_int : fa[32]? = some (.free "int") := rfl
theorem j_isinstance : fa[33]? = some (.free "isinstance") := rfl
theorem j_bool : fa[34]? = some (.free "bool") := rfl
theorem j_str : fa[35]? = some (.free "str") := rfl
theorem j_list : fa[36]? = some (.free "list") := rfl
theorem j_tuple : fa[37]? = some (.free "tuple") := rfl
theorem j_set : fa[38]? = some (.free "set") := rfl
theorem j_sorted : fa[39]? = some (.free "sorted") := rfl
theorem j_all : fa[40]? = some (.free "all") := rfl
theorem j_any : fa[41]? = some (.free "any") := rfl
theorem j_enumerate : fa[42]? = some (.free "enumerate") := rfl
theorem j_KINDS_IN_MODELS : fa[43]? = some (.glo "KINDS_IN_MODELS") := rfl
theorem j_LOWER : fa[44]? = some (.str "LOWER" "abcdefghijklmnopqrstuvwxyz") := rfl
theorem j_DIGITS : fa[45]? = some (.str "DIGITS" "0123456789") := rfl
theorem j_LONGEST_NAME : fa[46]? = some (.int "LONGEST_NAME" 12) := rfl
theorem j_NO_EVENTS : fa[47]? = some (.glo "NO_EVENTS") := rfl
theorem j_MOST_STATES : fa[48]? = some (.int "MOST_STATES" 20000) := rfl
theorem j_System : fa[49]? = some (.glo "System") := rfl
theorem j_cls_System : fa[50]? = some (.cls "System") := rfl
theorem j_noat_System_count : fa[51]? = some (.noat "System" "count") := rfl
theorem j_noat_System_edges : fa[52]? = some (.noat "System" "edges") := rfl
theorem j_noat_System__leaving : fa[53]? = some (.noat "System" "_leaving") := rfl
theorem j_noat_System__targets : fa[54]? = some (.noat "System" "_targets") := rfl
theorem j_mkr_System : fa[55]? = some (.mkr "System") := rfl
theorem j_BadArgument : fa[56]? = some (.glo "BadArgument") := rfl
theorem j_exc_BadArgument : fa[57]? = some (.exc "BadArgument") := rfl
theorem j_exm_BadArgument : fa[58]? = some (.exm "BadArgument" "BadArgument" true) := rfl
theorem j_BadSystem : fa[59]? = some (.glo "BadSystem") := rfl
theorem j_exc_BadSystem : fa[60]? = some (.exc "BadSystem") := rfl
theorem j_exm_BadSystem : fa[61]? = some (.exm "BadSystem" "BadSystem" true) := rfl
theorem j_UnknownModel : fa[62]? = some (.glo "UnknownModel") := rfl
theorem j_exm_UnknownModel : fa[63]? = some (.exm "UnknownModel" "UnknownModel" true) := rfl
theorem j_ParleyError : fa[64]? = some (.glo "ParleyError") := rfl
def ts : List He.Tab := [((fun K => He.ga K "KINDS_IN_MODELS"), MODS)]
def ex (K : PySem.W.Frag) : Bool := He.tupB K "NO_EVENTS" (noEv.map He.Dv.str) && (VF.oexB K (He.ga K "UnknownModel") "model" (He.fAd K ("UnknownModel", some "__init__")) && VF.baseB K (He.ga K "ParleyError"))
abbrev RR : PySem.W.OpenRow := PySem.W.OpenLaw.row PySem.Challenge.rw_parley_k31_pictures_of_normal_forms
abbrev hk : PySem.W.Hook := VHK.hookR 5 fa fn ts ex
def ob (s : PySem.W.SharedT) : He.AlX := VHK.obsR 5 fa fn ts ex (HandSHeadRun.getT s)
theorem ob_eq (s : PySem.W.SharedT) : ob s = hk.obs s.abs := VHK.obsR_eq (HandSHeadRun.getT_eq s)
theorem runF (w : World) : HandSHeadRun.RunEq RR (PySem.W.view RR.prog [lawAt]) hk ob 4000 loose (w.withFollow "special-get-raises" false) := by
  intro os
  kernel_rfl
theorem runT (w : World) : HandSHeadRun.RunEq RR (PySem.W.view RR.prog [lawAt]) hk ob 4000 loose (w.withFollow "special-get-raises" true) := by
  intro os
  kernel_rfl
theorem run (w : World) : HandSHeadRun.RunEq RR (PySem.W.view RR.prog [lawAt]) hk ob 4000 loose w := PySem.W.byRow2 "special-get-raises" runF runT w
section
variable {P : Program} {w : World} {K : PySem.W.Frag} {h : Heap} {mg : Str → Option Value} {f : Addr}
theorem df_of (X : K.In h) (G : h.Ns mainGlobals mg) (c : He.SaysD fa fn K) {x : Str} {st : Stmt} {i j : Nat} (hi : fn[i]? = some (dd x st)) (hj : fa[j]? = some (.glo x)) : Df K mg x st := by
  obtain ⟨fd, F⟩ := c.def_ i hi
  exact ⟨He.ga K x, fd, F, He.glo_ok X G (c.fact j hj)⟩
theorem says_klist {ts : List He.Tab} (c : He.SaysT fa fn ts w K) (i : Nat) {t : He.Tab} (h : ts[i]? = some t) : VL.KList K w (t.1 K) t.2 := by
  have e := congrArg (fun z : He.AlT => z.2[i]?) c
  have e1 : (ts.map fun t => He.dicW K (t.1 K))[i]? = (ts.map fun t => some (He.keysIn w.params t.2))[i]? := e
  rw [List.getElem?_map, List.getElem?_map, h] at e1
  exact VL.klist_of (Option.some.inj e1)
theorem no_events (c : He.SaysX fa fn ts [] ex w h K) : ∀ H, SqT K H (He.ga K "NO_EVENTS") (noEv.map V.str) := fun H =>
  He.tupB_ok (Bool.and_eq_true_iff.mp c.more).1 H
theorem more_of (c : He.SaysX fa fn ts [] ex w h K) : VF.oexB K (He.ga K "UnknownModel") "model" (He.fAd K ("UnknownModel", some "__init__")) = true ∧ VF.baseB K (He.ga K "ParleyError") = true := by
  obtain ⟨_, c1⟩ := Bool.and_eq_true_iff.mp c.more
  exact Bool.and_eq_true_iff.mp c1
theorem own_of (X : K.In h) (G : h.Ns mainGlobals mg) (c : He.SaysD fa fn K) {x : Str} {j1 j2 j3 : Nat} (h1 : fa[j1]? = some (.glo x)) (h2 : fa[j2]? = some (.exc x)) (h3 : fa[j3]? = some (.exm x x true)) : VE.Own K mg x (He.ga K x) := by
  obtain ⟨a, b, d, e⟩ := He.exc_ok (c.fact _ h2)
  exact ⟨He.glo_ok X G (c.fact _ h1), a, b, d, e, He.exm_ok (c.fact _ h3)⟩
theorem facts (X : K.In h) (G : h.Ns mainGlobals mg) (hfa : mg ("law" : Str) = some (.ref f)) (c : He.SaysX fa fn ts [] ex w h K) :
    LamX.LawAtS PySem.Challenge.rw_parley_k31_pictures_of_normal_forms w K CX0 14 63 "script" mg f h := by
  have cd := c.t.d
  obtain ⟨fd, F⟩ := cd.def_ _ i_law
  have e := hfa.symm.trans (He.glo_ok X G (cd.fact _ j_law))
  cases e
  refine ⟨fd, [], spLaw K, fun p hp => absurd hp List.not_mem_nil, fun p hp => absurd hp List.not_mem_nil, fun p hp => absurd hp List.not_mem_nil, ?_, fun H a ns hl _ hT hS => ?_, fun base kin hns hTB => ?_⟩
  · have b := FunD.bindsA (ps := ["script"]) F fun _ _ _ _ _ _ us hl => match us, hl with | [_], _ => rfl
    exact fun s v => b s [v] rfl
  · exact ⟨a, ns, rfl, hS, fun _ => rfl⟩
  · have z : ∀ {x : Str} {j : Nat}, fa[j]? = some (.free x) → mg x = none := fun hj => He.free_ok X G (cd.fact _ hj)
    have gs : ∀ {x y : Str} {j : Nat}, fa[j]? = some (.str x y) → ∃ u, mg x = some u ∧ RelV (.str y) u := fun hj => by
      obtain ⟨t, e⟩ := He.str_ok X G (cd.fact _ hj)
      exact ⟨_, e, t, rfl⟩
    have gi : ∀ {x : Str} {y : Int} {j : Nat}, fa[j]? = some (.int x y) → ∃ u, mg x = some u ∧ RelV (.int y) u := fun hj => by
      obtain ⟨t, e⟩ := He.int_ok X G (cd.fact _ hj)
      exact ⟨_, e, t, rfl⟩
    have gg : ∀ {x : Str} {j : Nat}, fa[j]? = some (.glo x) → ∃ u, mg x = some u ∧ RelV (.ref (He.ga K x)) u := fun hj => ⟨_, He.glo_ok X G (cd.fact _ hj), rfl⟩
    have d : ∀ {x : Str} {st : Stmt} {i j : Nat}, fn[i]? = some (dd x st) → fa[j]? = some (.glo x) → Df K mg x st := fun hi hj => df_of X G cd hi hj
    have k_cell := c_cell (P := (PySem.Challenge.rw_parley_k31_pictures_of_normal_forms).prog) (w := w) (base := base) (d i__law_cell j__law_cell) (z j_len) (z j_abs) (z j_int)
    have k_draws := c_draws (P := (PySem.Challenge.rw_parley_k31_pictures_of_normal_forms).prog) (w := w) (base := base) (d i__law_draws j__law_draws) (z j_range) (z j_int)
    have k_like := c_like (P := (PySem.Challenge.rw_parley_k31_pictures_of_normal_forms).prog) (w := w) (base := base) (d i__law_like j__law_like) (z j_isinstance) (z j_bool) (z j_str) (z j_int) (z j_list) (z j_tuple) (z j_len) (z j_range) (z j_all) 4
    have k_form := c_form (P := (PySem.Challenge.rw_parley_k31_pictures_of_normal_forms).prog) (w := w) (base := base) (d i_has_form j_has_form) (z j_len) (z j_all) (gi j_LONGEST_NAME)
    have k_event := c_event (d i_is_event j_is_event) (gs j_LOWER) (gs j_DIGITS) (gg j_NO_EVENTS) (no_events c) k_form
    have k_action := c_action (d i_is_action j_is_action) k_event
    have k_system := c_system5 (d i__law_system j__law_system) (z j_range) k_draws
    have e_system := own_of X G cd j_BadSystem j_exc_BadSystem j_exm_BadSystem
    have e_argument := own_of X G cd j_BadArgument j_exc_BadArgument j_exm_BadArgument
    have k_check := c_checkX (d i_check_edges j_check_edges) (z j_sorted) (z j_set) (gi j_MOST_STATES) e_system k_action
    have TX : SysTxt K (He.ga K "System") := ⟨He.cls_ok (cd.fact _ j_cls_System), He.noat_ok (cd.fact _ j_noat_System_count), He.noat_ok (cd.fact _ j_noat_System_edges), He.noat_ok (cd.fact _ j_noat_System__leaving), He.noat_ok (cd.fact _ j_noat_System__targets)⟩
    obtain ⟨fi, Fi⟩ := cd.def_ _ i_System___init__
    have o_init := c_initX (P := (PySem.Challenge.rw_parley_k31_pictures_of_normal_forms).prog) (w := w) (mg := mg) (base := base) TX Fi (z j_range) (z j_sorted) (z j_set) (z j_tuple) k_check
    have b_init : L2.Binds K fi ["self", "count", "edges"] [] := Fi.bindsN fun _ _ _ _ _ _ us hl => match us, hl with | [_, _, _], _ => rfl
    have k_mk : VE.MakX (PySem.Challenge.rw_parley_k31_pictures_of_normal_forms).prog w K mg base 5 "System" (He.ga K "System") (spInitX K (He.ga K "System") (He.ga K "BadSystem")) := ⟨_, fi, _, He.mkr_ok (cd.fact _ j_mkr_System), o_init, He.glo_ok X G (cd.fact _ j_System), b_init⟩
    have kM : VL.KList K w (He.ga K "KINDS_IN_MODELS") MODS := says_klist c.t 0 rfl
    obtain ⟨hx1, hx2⟩ := more_of c
    have k_model := c_model (P := (PySem.Challenge.rw_parley_k31_pictures_of_normal_forms).prog) (w := w) (base := base) (d i_is_model j_is_model) (gg j_KINDS_IN_MODELS) kM
    obtain ⟨fx, Fx⟩ := cd.def_ _ i_UnknownModel___init__
    obtain ⟨x1, x2, x3, x4, x5⟩ := VF.oexB_ok hx1
    have bx := VF.baseB_ok (He.glo_ok X G (cd.fact _ j_ParleyError)) hx2
    have e_unknown : VY.OwnI K mg "UnknownModel" (He.ga K "UnknownModel") := ⟨He.glo_ok X G (cd.fact _ j_UnknownModel), He.exm_ok (cd.fact _ j_exm_UnknownModel)⟩
    have o_unknown := c_unknown (P := (PySem.Challenge.rw_parley_k31_pictures_of_normal_forms).prog) (w := w) (base := base) (mg := mg) x1 x3 Fx bx
    have of_unknown : VY.OwnF (PySem.Challenge.rw_parley_k31_pictures_of_normal_forms).prog w K mg base "UnknownModel" (He.ga K "UnknownModel") "model" := ⟨e_unknown, x1, x2, x3, _, fx, _, x4, x5, o_unknown, Fx.bindsN fun _ _ _ _ _ _ us hl => match us, hl with | [_, _], _ => rfl⟩
    have k_chk := c_check (d i_check_model j_check_model) of_unknown k_model
    have k_nodeE := c_nodeE (P := (PySem.Challenge.rw_parley_k31_pictures_of_normal_forms).prog) (w := w) (base := base) (d i_node_edges j_node_edges) (z j_len) (z j_enumerate)
    have k_pic := c_pic (d i_picture j_picture) (z j_len) (z j_enumerate) k_chk k_nodeE (VX.makCalm k_mk)
    have k_onceI := c_onceI (P := (PySem.Challenge.rw_parley_k31_pictures_of_normal_forms).prog) (w := w) (base := base) (d i__law_once j__law_once)
    have k_onceR := c_onceR (P := (PySem.Challenge.rw_parley_k31_pictures_of_normal_forms).prog) (w := w) (base := base) (d i__law_once j__law_once)
    have k_onceM := c_onceM (P := (PySem.Challenge.rw_parley_k31_pictures_of_normal_forms).prog) (w := w) (base := base) (d i__law_once j__law_once)
    have k_quick := c_quick (P := (PySem.Challenge.rw_parley_k31_pictures_of_normal_forms).prog) (w := w) (base := base) (d i__law_quick j__law_quick) (z j_range) (z j_list) (z j_len) (z j_any) (z j_sorted) (z j_tuple) k_onceI
    have k_qst := c_qst (P := (PySem.Challenge.rw_parley_k31_pictures_of_normal_forms).prog) (w := w) (base := base) (d i__law_starts j__law_starts) (z j_sorted) (z j_tuple)
    have k_qgo := c_qgo (P := (PySem.Challenge.rw_parley_k31_pictures_of_normal_forms).prog) (w := w) (base := base) (d i__law_go j__law_go) (z j_sorted) (z j_tuple)
    have k_qany := c_qany (P := (PySem.Challenge.rw_parley_k31_pictures_of_normal_forms).prog) (w := w) (base := base) (d i__law_any_lost j__law_any_lost) (z j_any)
    have k_qsh := c_qsh (d i__law_shown j__law_shown) (z j_sorted) (z j_len) k_onceR
    have k_qdo := c_qdoA (P := (PySem.Challenge.rw_parley_k31_pictures_of_normal_forms).prog) (w := w) (base := base) (d i__law_does j__law_does) (z j_sorted)
    have k_part := c_part (P := (PySem.Challenge.rw_parley_k31_pictures_of_normal_forms).prog) (w := w) (base := base) (d i__law_part_of j__law_part_of) (z j_all)
    have k_open := c_open (d i__law_open j__law_open) k_qany
    have k_least := c_least (d i__law_least j__law_least) (z j_any) (z j_tuple) k_part
    have k_marks := c_marks (P := (PySem.Challenge.rw_parley_k31_pictures_of_normal_forms).prog) (w := w) (base := base) (d i__law_marks j__law_marks) (z j_len)
    have k_fold := c_fold (d i__law_folded j__law_folded) (z j_range) (z j_len) (z j_tuple) k_marks
    have k_nform := c_nform (d i__law_form j__law_form) (z j_range) (z j_len) k_quick k_qst k_open k_qsh k_least k_qdo k_qgo k_fold
    have k_stOf := c_stOf (P := (PySem.Challenge.rw_parley_k31_pictures_of_normal_forms).prog) (w := w) (base := base) (d i__law_states_of j__law_states_of) (z j_len)
    have k_drawn := c_drawn (d i__law_drawn j__law_drawn) (z j_len) (z j_range) k_stOf
    have k_unkP := c_unkP (d i__law_unknown j__law_unknown) e_unknown x2 x3 k_pic
    exact f_law TX F (z j_range) (z j_tuple) (z j_sorted) k_cell k_like k_system k_onceM k_nform k_drawn (VX.calCalm k_pic) k_unkP
end
end LW
open PySem PySem.W PySem.Calls PyProof.Rows
theorem PySem.Challenge.cw_parley_k31_pictures_of_normal_forms_holds : PySem.Challenge.rw_parley_k31_pictures_of_normal_forms.Holds := by
  w_on; o_law
  refine HandSHeadRun.head_any (r := OpenLaw.row PySem.Challenge.rw_parley_k31_pictures_of_normal_forms) (q := view (OpenLaw.row PySem.Challenge.rw_parley_k31_pictures_of_normal_forms).prog [LW.lawAt]) (H := LW.hk) (ob := LW.ob) (M := 4000) (loose := LW.loose) (d := HandSHeadRun.topDef (OpenLaw.row PySem.Challenge.rw_parley_k31_pictures_of_normal_forms).prog LW.lawAt) (kwd := []) LW.ob_eq
    (by kernel_rfl) (fun s => by kernel_rfl) LW.run (by kernel_rfl) (by kernel_rfl) (by kernel_rfl) (by rfl) (by first | assumption | decide +kernel) (by decide +kernel) ⟨rfl, rfl, rfl, rfl, rfl, by decide +kernel⟩ ?hw ?hc
  case hw => w_witness2
  case hc =>
    refine LamX.walk_ofTsE (l := PySem.Challenge.rw_parley_k31_pictures_of_normal_forms) (n := 63) (k := 14) (x := "script") (CX := fun _ => L2.CX0) rfl (by decide) (by kernel_rfl) ⟨rfl, by decide, by decide⟩ ?F (fun _ _ _ _ _ z => z)
    intro w mg fa h Y G hmg0
    obtain ⟨K, KX, c⟩ := Y
    have hmg : mg ("law" : PySem.Str) = some (.ref fa) := by
      have e : (HandSHeadRun.topDef (OpenLaw.row PySem.Challenge.rw_parley_k31_pictures_of_normal_forms).prog LW.lawAt).name = ("law" : PySem.Str) := by kernel_rfl
      rw [← e]
      exact hmg0
    exact ⟨K, KX, LW.facts KX G hmg c⟩

