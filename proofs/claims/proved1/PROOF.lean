import PyProof.Rows.All
import Wide.All
import OpenK.AllK
import Wide.FinOn
import Open.SpecLaws
import KE.OsGo
import KE.OsRun
import KE.SortKeyHeap
import HandS.ForSpec
import HandS.ForMost
import HandS.TryMany
import HandS.Iter
import HandS.Zip
import HandS.SortKw
import HandS.WideBits
import HandS.Conv
import HandS.Small
import HandS.RaiseOp
import HandS.ExcInit
import HandS.ExcInitHot
import HandS.Flow
import HandS.Style
import HandS.CallSlots
import KE.BitLaws
import HandS.Nested
import HandS.SuiteRaise
import HandS.RaiseFrom
import HandS.ExcField
import KE.GoesZip
import KE.GoesMore
import HandS.SetKeys
import HandS.Head4
import HandS.HeadHook4
import HandS.Walk
import KE.SortLaws
import KE.DataMinMax
import HandS.EndTab
import HandS.Spec
import KE.KNest
import PySem.Challenge.RW_onepacking_s01_answers
section

end
section
set_option Elab.async false
set_option maxRecDepth 100000
set_option maxHeartbeats 2000000
/-! Rules that the layer lacks: sorted by a key. -/
namespace SqX
open PySem PySem.Spec PyProof.Rows L2
theorem each_of_vals {β : Type} {enc : β → V} : ∀ {bs : List β} {us : List Value}, Vals (bs.map enc) us → PySem.W.EachIs (fun v x => RelV (enc x) v) us bs
  | [], _, .nil => .nil
  | _ :: _, _, .cons r t => .cons r (each_of_vals t)
theorem vals_of_each {β : Type} {enc : β → V} : ∀ {bs : List β} {us : List Value}, PySem.W.EachIs (fun v x => RelV (enc x) v) us bs → Vals (bs.map enc) us
  | _, _, .nil => .nil
  | _, _, .cons r t => .cons r (vals_of_each t)
section
variable {X : Cx} {pins : List (Addr × Obj)} {σ : L2.St} {H : Hp} {s : Shared}
theorem sortk_run {β : Type} {bs : List β} {enc : β → V} {k : β → Int} {a f : Addr} {Q : VK} (I : Inv X pins σ H s) (hs : SqL X.K H a (bs.map enc)) (hu : X.A.units + 2 < cLine)
    (turn : ∀ (v : Value) (x : β), RelV (enc x) v → x ∈ bs → ∀ (h : Heap) (tk : Nat), (∀ b o, s.heap.get? b = some o → h.get? b = some o) →
      wpAny (model X.prog X.w) X.A.in1.in1 (call (.ref f) [v]) (PySem.W.KeyPure (.int (k x)) { s with heap := h, toks := tk }) (fun _ _ => False) { s with heap := h, toks := tk })
    (q : ∀ p, H p = none → Q (.ref p) (upd H p (.lst ((bs.mergeSort fun x y => decide (k x ≤ k y)).map enc)))) :
    wpAny (model X.prog X.w) X.A (call (.builtin "sorted") [.ref a] [(Str.ofString "key", .ref f)]) (EP X pins σ Q) X.xe s := by
  obtain ⟨its, rv, hl, hz⟩ := I.list hs
  have e := each_of_vals rv
  refine PySem.W.sorted_key_data (b := false) (fun x : β => .int (k x)) hl.isList e (PySem.W.AllAlike.of fun _ _ => rfl) (PySem.W.Sortable.others fun _ => ⟨nofun, nofun⟩) (by rw [List.length_map] at hz; exact hz)
    (fun x _ => by simpa [PyData.depth] using hu) (PyProof.Rows.ksk_s1 _ _) (fun _ => PyProof.Rows.ksk_l1 _ _) (fun _ => PyProof.Rows.ksk_t1 _ _) turn fun out c h' tk kp hn hD hlen eo => ?_
  rw [PySem.W.dataLe_int (β := β) k] at eo
  have rvo := vals_of_each eo
  have hz2 : ((bs.mergeSort fun x y => decide (k x ≤ k y)).map enc).length ≤ sizeLine := by
    rw [List.length_map, List.length_mergeSort]
    rw [List.length_map] at hz
    exact hz
  exact ⟨.ref _, upd H (s.heap.objs.size + 1) (.lst ((bs.mergeSort fun x y => decide (k x ≤ k y)).map enc)), I.laid (t' := tk) kp (Nat.le_succ _) ⟨hz2, _, c, rvo, hD⟩, rfl, q _ (I.hok.fresh (Nat.le_succ _))⟩
end
end SqX
end
section
set_option Elab.async false
set_option maxRecDepth 100000
set_option maxHeartbeats 2000000
namespace SqX
open PySem PySem.Spec PyProof.Rows L2
/-! ### weight_of(item): the machine's own turn, the heap kept -/
theorem weight_pure {prog : Program} {w : World} {A : Around} {K : PySem.W.Frag} {s : Shared} {f t : Addr} {fd : FuncData} {st : Stmt} {x : Str} {nm : Str} {p1 p2 p3 p4 : Pos} {j : Nat} {items : Array Value} {i : Int} {u : Tok}
    (F : Fun K nm nm st f fd) (KX : K.In s.heap) (lim : s.heap.NoLimit) (hd : A.depth < recursionLimit)
    (hb : defBody st = [.Return (some (.Subscript (.Name x p1) (.Constant (.int 0) j p2) p3)) p4])
    (hsc : (defScope st).kind = .function ∧ (defScope st).isCoroutine = false ∧ (defScope st).isGenerator = false ∧ (∀ y ∈ (defScope st).names, y.2 ≠ .cell) ∧ (defScope st).names.lookup x = some .local)
    (hbind : ∀ (kV doc pm : Value) (an : Option Addr) (cdv ct : Value) (u : Value), bindArgs (PySem.W.fnOf nm nm (defArgs st) (defBody st) (defScope st) .none kV doc pm an cdv ct) ⟨[u], []⟩ = pure [(x, u)])
    (hxd : (x == ("__debug__" : Str)) = false) (ht : IsTup s.heap t items) (hi : items[0]? = some (.int i u)) :
    wpAny (model prog w) A (call (.ref f) [.ref t]) (PySem.W.KeyPure (.int i) s) (fun _ _ => False) s := by
  obtain ⟨oc, od, kV, doc, pm, an, cdv, ct, osl, rfl, lk, hcd⟩ := F.ex
  obtain ⟨s1, s2, s3, s4, s5⟩ := hsc
  refine wpAny_call (codeAny_call_function (body := defBody st) hd (KX _ _ lk) rfl s2 s3 rfl (PySem.W.codeRec_of KX hcd) ?_)
  rw [hbind]
  refine wpAny_pure (wpAny_newFunctionEnv s4 (fun y hy => ?_) (fun h₁ hns hsb => ⟨lim.fresh _ hsb, ?_⟩) s1)
  · have e : y = (x, Value.ref t) := by simpa using hy
    rw [e]
    exact s5
  · have kp : ∀ b o, s.heap.get? b = some o → h₁.get? b = some o := fun b o e => hsb.extBut b o (Nat.ne_of_lt (Heap.lt_size e)) (Heap.get?_push_of_some _ e)
    show codeAny _ _ (.func (defBody st) _) _ _
    refine codeAny_func ?_
    rw [hb]
    refine wpAny_execs_cons (wpAny_Return_some (Subscript_ (wpAny_Name (wpAny_loadName_local s1 s5 hns (v := .ref t) (by simp) ?_) hxd)))
    refine wpAny_Constant_int ?_
    have ht1 : IsTup h₁ t items := by
      obtain ⟨o, e, c⟩ := ht
      exact ⟨o, kp _ _ e, c⟩
    refine subscriptTail_builtinR (x := .int i u) ht1.typeIs slot_tuple_getitem.lookup (getItem_tuple (j := 0) (Q := fun r s' => r = .int i u ∧ _) ht1 (by decide) (by decide) ?_ hi ⟨rfl, ?_⟩)
    · have hlt : 0 < items.size := (Array.getElem?_eq_some_iff.mp hi).1
      exact seqIndex_of (by decide) (by simpa using hlt)
    · refine ⟨h₁, _, rfl, kp, ?_⟩
      exact .int i u

section
variable {X : Cx} {pins : List (Addr × Obj)} {σ : L2.St} {H : Hp} {s : Shared}
/-- sorted(rows, key=weight_of): the rows at addresses, each a tuple of its weight and something -/
def rSortW (K : PySem.W.Frag) (f : Addr) : List V → List V → Hp → VK → Prop := fun vs zs H Q => ∃ (a : Addr) (bs : List (Addr × Int × V)), vs = [.ref a] ∧ zs = [.ref f] ∧ SqL K H a (bs.map fun x => V.ref x.1) ∧ (∀ x ∈ bs, H x.1 = some (.tup [.int x.2.1, x.2.2])) ∧
  ∀ p, H p = none → Q (.ref p) (upd H p (.lst ((bs.mergeSort fun x y => decide (x.2.1 ≤ y.2.1)).map fun x => V.ref x.1)))
theorem cr_sortW {f : Addr} {fd : FuncData} {st : Stmt} {x nm : Str} {p1 p2 p3 p4 : Pos} {j k : Nat} (F : Fun X.K nm nm st f fd) (hr : Room k X.A)
    (hb : defBody st = [.Return (some (.Subscript (.Name x p1) (.Constant (.int 0) j p2) p3)) p4])
    (hsc : (defScope st).kind = .function ∧ (defScope st).isCoroutine = false ∧ (defScope st).isGenerator = false ∧ (∀ y ∈ (defScope st).names, y.2 ≠ .cell) ∧ (defScope st).names.lookup x = some .local)
    (hbind : ∀ (kV doc pm : Value) (an : Option Addr) (cdv ct : Value) (u : Value), bindArgs (PySem.W.fnOf nm nm (defArgs st) (defBody st) (defScope st) .none kV doc pm an cdv ct) ⟨[u], []⟩ = pure [(x, u)])
    (hxd : (x == ("__debug__" : Str)) = false) : CallRK X (.builtin "sorted") [Str.ofString "key"] (rSortW X.K f) := by
  intro pins s σ H vs zs us ws Q I r rz h
  obtain ⟨a, bs, rfl, rfl, hs, ht, q⟩ := h
  obtain rfl := Vals.ref1 r
  obtain rfl := Vals.ref1 rz
  refine sortk_run (enc := fun x : Addr × Int × V => V.ref x.1) (k := fun x => x.2.1) I hs (by have := hr.un; omega) (fun v y hv hy h tk kp => ?_) q
  obtain rfl : v = Value.ref y.1 := hv
  obtain ⟨_, its, rv, hT⟩ := (show ObjOk X.prog X.w H s.heap y.1 (.tup [.int y.2.1, y.2.2]) from I.hok _ _ (ht y hy))
  cases rv with
  | @cons _ _ _ l2 r0 rr =>
    obtain ⟨u, rfl⟩ := r0
    have hT2 : IsTup h y.1 (List.toArray (Value.int y.2.1 u :: l2)) := by
      obtain ⟨o, e, c⟩ := hT
      exact ⟨o, kp _ _ e, c⟩
    exact weight_pure (u := u) (s := { s with heap := h, toks := tk }) F (fun b o e => kp b o (I.kIn b o e)) (I.nolimit.keeps kp) (by have := hr.dp; show X.A.depth < _; omega) hb hsc hbind hxd hT2 (by simp)
end
end SqX
end
section
set_option Elab.async false
set_option maxRecDepth 100000
set_option maxHeartbeats 2000000
namespace SqX
open PySem PySem.Spec PyProof.Rows L2 LamX
/-! ### sorted(xs, key=lambda s: held[s]): the lambda's turn, the heap kept -/
theorem lam_pure {prog : Program} {w : World} {A : Around} {s : Shared} {f l c c' : Addr} {qual x y : Str} {params : Arguments} {scope : Scope} {cl : List (Str × Addr)} {pm ctv : Value} {p1 p2 p3 : Pos} {items : Array Value} {n : Int} {t u : Tok} {d : Int}
    (hf : s.heap.get? f = some (PySem.W.kla_obj "<lambda>" qual params (.Subscript (.Name y p1) (.Name x p2) p3) scope cl pm c' ctv)) (lim : s.heap.NoLimit) (hd : A.depth < recursionLimit)
    (hcd : s.heap.CodeRec (.ref c') qual)
    (hsc : scope.kind = .function ∧ scope.isCoroutine = false ∧ scope.isGenerator = false ∧ (∀ z ∈ scope.names, z.2 ≠ .cell) ∧ scope.names.lookup x = some .local ∧ scope.names.lookup y = some .free)
    (hbind : bindArgs (PySem.W.kla_fn "<lambda>" qual params (.Subscript (.Name y p1) (.Name x p2) p3) scope cl pm (.ref c') ctv) ⟨[.int n t], []⟩ = pure [(x, .int n t)])
    (hxd : (x == ("__debug__" : Str)) = false) (hyd : (y == ("__debug__" : Str)) = false) (hyc : (y == ("__classdict__" : Str)) = false)
    (hc : cl.lookup y = some c) (hcell : s.heap.IsCell c (some (.ref l))) (hl : s.heap.IsList l items) (h0 : 0 ≤ n) (h1 : n < 2 ^ 63) (hi : items[n.toNat]? = some (.int d u)) :
    wpAny (model prog w) A (call (.ref f) [.int n t]) (PySem.W.KeyPure (.int d) s) (fun _ _ => False) s := by
  obtain ⟨s1, s2, s3, s4, s5, s6⟩ := hsc
  refine wpAny_call (PySem.W.kla_callFunE hd hf rfl s2 s3 rfl hcd ?_)
  rw [hbind]
  refine wpAny_pure (wpAny_newFunctionEnv s4 (fun z hz => ?_) (fun h₁ hns hsb => ⟨lim.fresh _ hsb, ?_⟩) s1)
  · have e : z = (x, Value.int n t) := by simpa using hz
    rw [e]
    exact s5
  · have kp : ∀ b o, s.heap.get? b = some o → h₁.get? b = some o := fun b o e => hsb.extBut b o (Nat.ne_of_lt (Heap.lt_size e)) (Heap.get?_push_of_some _ e)
    refine PySem.W.kla_codeExpr (Subscript_ (wpAny_Name (wpAny_loadName_free (c := c) (v := .ref l) s1 s6 hc (hcell.keeps kp) ?_ hyc) hyd))
    refine wpAny_Name (wpAny_loadName_local s1 s5 hns (v := .int n t) (by simp) ?_) hxd
    have hl1 : h₁.IsList l items := by
      obtain ⟨o, e, c⟩ := hl
      exact ⟨o, kp _ _ e, c⟩
    refine item_listR hl1 h0 h1 hi ?_
    exact ⟨h₁, _, rfl, kp, .int d u⟩
def tSortLam (K : PySem.W.Frag) (T : List (Addr × Str)) (j : Nat) (ta : TA) : TE := fun σ H Q => ta σ H fun vs H1 => ∃ (a l : Addr) (bs : List Nat) (xs : List Int), vs = [.ref a] ∧ SqL K H1 a (bs.map fun n : Nat => V.int n) ∧
  σ[j]? = some (some (.ref l)) ∧ SqL K H1 l (xs.map V.int) ∧ (∀ n ∈ bs, n < xs.length) ∧ Tabs T H1 ∧
  ∀ H2 p, ExtN H1 H2 → Tabs T H2 → H2 p = none → Q (.ref p) (upd H2 p (.lst ((bs.mergeSort fun x y => decide (xs.getD x 0 ≤ xs.getD y 0)).map fun n : Nat => V.int n)))
theorem ExtN.seq {K : PySem.W.Frag} {H H' : Hp} {a : Addr} {xs : List V} (e : ExtN H H') (h : SqL K H a xs) : SqL K H' a xs := by
  rcases h with (h | ⟨o, h⟩) | h
  · exact .inl (.inl (e _ _ h (by intro ps z; cases z)))
  · exact .inl (.inr ⟨o, e _ _ h (by intro ps z; cases z)⟩)
  · exact .inr h
section
variable {X : Cx} {ta : TA}
theorem pe_sortLam {T : List (Addr × Str)} {c P : Addr} {e : Expr} {p p1 p2 p3 pos lpos kpos : Pos} {params : Arguments} {scope : Scope} {x y : Str} {j k : Nat}
    (hr : Room k X.A) (TB : TabB X.base X.mg c P) (hcode : X.env.code = .ref c) (hm : (P, X.env.qual ++ "<lambda>") ∈ T) (hu : ∀ q ∈ T, q.1 = P → q.2 = X.env.qual ++ "<lambda>")
    (hg : Gl X "sorted") (hms : X.mg "sorted" = none) (ha : PA X [e] ta) (hdef : defaultsOf params X.env = ([], []))
    (hfree : ∀ z ∈ scope.names, z.2 = .free → X.env.scope.names.lookup z.1 = some .cell ∨ X.env.scope.names.lookup z.1 = some .free)
    (hsc : scope.kind = .function ∧ scope.isCoroutine = false ∧ scope.isGenerator = false ∧ (∀ z ∈ scope.names, z.2 ≠ .cell) ∧ scope.names.lookup x = some .local ∧ scope.names.lookup y = some .free)
    (hyc : X.env.scope.names.lookup y = some .cell) (hN : X.N[j]? = some y)
    (hbind : ∀ (cl : List (Str × Addr)) (pm ctv : Value) (c' : Addr) (u : Value), bindArgs (PySem.W.kla_fn "<lambda>" (X.env.qual ++ "<lambda>") params (.Subscript (.Name y p1) (.Name x p2) p3) scope cl pm (.ref c') ctv) ⟨[u], []⟩ = pure [(x, u)])
    (hxd : (x == ("__debug__" : Str)) = false) (hyd : (y == ("__debug__" : Str)) = false) (hyk : (y == ("__classdict__" : Str)) = false)
    (hst : backTo pos (starEach [e] X.env) = (false, eval e X.env) :: backTo pos (starEach [] X.env) := by rfl) (hpl : (backTo pos (starEach [e] X.env)).any (·.1) = false := by rfl) :
    PE X (.Call (.Name "sorted" p) [e] [⟨some "key", .Lambda params (.Subscript (.Name y p1) (.Name x p2) p3) scope lpos, kpos⟩] pos) (tSortLam X.K T j ta) := by
  refine ⟨fun pins s σ H Q I h => ?_⟩
  refine wpAny_Call_Name_kw (ld_blt I hg hms boot_sorted ?_)
  refine PyProof.Rows.callWith_kw (thn (ha.run pos pins s σ H _ I h) fun us s1 ⟨vs, H1, I1, r1, q1⟩ => ?_) hst hpl
  obtain ⟨a, l, bs, xs, rfl, hs, hsl, hsq, hlt, hT, q⟩ := q1
  obtain rfl := Vals.ref1 r1
  have hf : ∀ z ∈ scope.names, z.2 = .free → ∃ c, X.env.cells.lookup z.1 = some c := fun z hz e => (hfree z hz e).elim (fun k => I.ok.has _ (.inl k)) fun k => I.ok.has _ (.inr k)
  show wpAny _ _ (evalAll [(do let v ← eval (.Lambda params (.Subscript (.Name y p1) (.Name x p2) p3) scope lpos) X.env; standAt pos; pure v)]) _ _ s1
  refine wpAny_evalAll_cons (wpAny_bind (lam_make2 I1 TB hcode hm hu hT hdef hf fun f c' pm ctv H2 s2 I2 eN T2 hof hfn hfr hco => wpAny_bind (wpAny_standAt (wpAny_pure ?_))))
  refine wpAny_evalAll_nil ?_
  show wpAny _ _ (call (.builtin "sorted") [.ref a] [(Str.ofString "key", .ref f)]) _ _ s2
  have hs2 := ExtN.seq eN hs
  have hsq2 := ExtN.seq eN hsq
  -- the captured cell
  obtain ⟨m, hn, hl⟩ := id I2.loc
  obtain ⟨u, ru, lk⟩ := hl j y (.ref l) hN hsl (.inr (.inl hyc))
  obtain rfl : u = Value.ref l := ru
  have hcell : ∃ cc, X.env.cells.lookup y = some cc ∧ s2.heap.IsCell cc (some (.ref l)) := by
    rcases lk with ⟨k1, _⟩ | ⟨_, cc, h1, h2⟩
    · have k1 : X.env.scope.names.lookup y = some .local := k1
      rw [hyc] at k1
      cases k1
    · exact ⟨cc, h1, h2⟩
  obtain ⟨cc, hcc, hcv⟩ := hcell
  have hclo : (cloFrom X.env.cells scope.names []).lookup y = some cc := NdefX.clo_has hf (PySem.mem_of_lookup hsc.2.2.2.2.2) hcc
  obtain ⟨its, rv, plL, hz⟩ := I2.list hsq2
  obtain ⟨⟨oc, ovs, ot, hoc, hdc, hvc⟩, _, _⟩ := I2.hok c' _ hco
  refine sortk_run (enc := fun n : Nat => V.int n) (k := fun n : Nat => xs.getD n 0) I2 hs2 (by have := hr.un; omega) (fun v n hv hn h tk kp => ?_) (fun p hp => q H2 p eN T2 hp)
  · obtain ⟨t, rfl⟩ := hv
    have hlen := hlt n hn
    obtain ⟨w1, hw1, rw1⟩ := rv.get (i := n) (x := V.int (xs.getD n 0)) (by rw [List.getElem?_map, List.getElem?_eq_getElem hlen]; simp [hlen])
    obtain ⟨u1, rfl⟩ := rw1
    have hl2 : h.IsList l its.toArray := by
      obtain ⟨o, e, c⟩ := plL.isList
      exact ⟨o, kp _ _ e, c⟩
    refine lam_pure (s := { s2 with heap := h, toks := tk }) (u := u1) (kp _ _ hof) (I2.nolimit.keeps kp) (by have := hr.dp; show X.A.depth < _; omega) ⟨c', oc, ovs, ot, rfl, kp _ _ hoc, hdc, hvc⟩ hsc (hbind _ _ _ _ _) hxd hyd hyk hclo (hcv.keeps kp) hl2 (by omega) ?_ (by simpa using hw1)
    have : xs.length ≤ sizeLine := by rw [List.length_map] at hz; exact hz
    have := sizeLine_eq
    omega
end
end SqX
end
section
set_option Elab.async false
set_option maxRecDepth 100000
set_option maxHeartbeats 2000000
namespace SqX
open PySem PySem.Spec PyProof.Rows L2
/-! ### Base.__init__(self, ..), Base a class of the program -/
structure ClsM (K : PySem.W.Frag) (C : Addr) (m : Str) (f : Addr) : Prop where
  sp : PySem.W.specialIn K (.ref C) "__getattribute__" = some (some (.builtin "type.__getattribute__"))
  rd : PySem.W.readsIn K C (.type "type") = true
  fn : PySem.W.findCls K (.ref C) (.type "type") m = some (.val (.ref f))
  hd : PySem.W.handedIn (.ref f) = true
  kp : PySem.W.keepIn K (.ref f) = true
section
variable {X : Cx} {CX : CXT} {x m : Str} {C f : Addr} {k : Nat} {fd : FuncData} {ps : List Str} {sp : Sp} {E : XK} {e : Expr} {es : List Expr} {t : TA} {p1 p2 p pos : Pos}
theorem pe_clsCall {pl : Sem Bool} (M : ClsM X.K C m f) (F : FnOk X.prog X.w X.K X.mg X.base CX k f fd ps sp) (hr : Room k X.A) (hg : Gl X x) (hm : X.mg x = some (.ref C)) (hb : Binds X.K fd ps []) (hx : Passes CX X E) (ha : PA X (e :: es) t)
    (hdb : (x == ("__debug__" : Str)) = false := by decide)
    (hc : eval (.Call (.Attribute (.Name x p1) m p2) (e :: es) [] pos) X.env = (do
      let ov ← eval (.Name x p1) X.env
      standAt p2.atName
      let (f, first) ← holding [ov] (getMethod ov m pl)
      callWith pos f first (backTo pos (starEach (e :: es) X.env)) (backToKw pos (keywordEach [] X.env))) := by rfl)
    (he : starEach (e :: es) X.env = (false, eval e X.env) :: starEach es X.env := by rfl) (hpl : (backTo pos (starEach es X.env)).any (·.1) = false := by rfl) :
    PE X (.Call (.Attribute (.Name x p1) m p2) (e :: es) [] pos) (tCall sp [] E t) := by
  refine ⟨fun pins s σ H Q I h => ?_⟩
  refine PySem.W.methodCall_KW (ld_glob I hg hm ?_ hdb) hc
  refine PySem.W.method_cls I.kIn M.sp (PySem.W.cls_value I.kIn M.rd M.fn M.hd ?_)
  refine PySem.W.callWith_K (first := []) (h₀ := X.base) I.ok.mod.kin M.kp (thn (ha.run pos pins _ σ H _ (I.tok _) h) fun us s1 ⟨vs, H1, I1, r1, q1⟩ => ⟨I1.kIn, ?_⟩) he hpl
  exact run_fn F hr hb .nil hx I1 r1 q1
theorem pe_clsCallH {pl : Sem Bool} (M : ClsM X.K C m f) (F : L2H.FnH X.prog X.w X.K X.mg X.base CX k f fd ps sp) (hr : L2H.RoomH k X.A) (hc0 : L2H.HotC X) (hg : Gl X x) (hm : X.mg x = some (.ref C)) (hb : Binds X.K fd ps []) (hx : ∀ σ, PassesAt CX X σ E) (ha : PA X (e :: es) t)
    (hdb : (x == ("__debug__" : Str)) = false := by decide)
    (hc : eval (.Call (.Attribute (.Name x p1) m p2) (e :: es) [] pos) X.env = (do
      let ov ← eval (.Name x p1) X.env
      standAt p2.atName
      let (f, first) ← holding [ov] (getMethod ov m pl)
      callWith pos f first (backTo pos (starEach (e :: es) X.env)) (backToKw pos (keywordEach [] X.env))) := by rfl)
    (he : starEach (e :: es) X.env = (false, eval e X.env) :: starEach es X.env := by rfl) (hpl : (backTo pos (starEach es X.env)).any (·.1) = false := by rfl) :
    PE X (.Call (.Attribute (.Name x p1) m p2) (e :: es) [] pos) (tCall sp [] E t) := by
  refine ⟨fun pins s σ H Q I h => ?_⟩
  refine PySem.W.methodCall_KW (ld_glob I hg hm ?_ hdb) hc
  refine PySem.W.method_cls I.kIn M.sp (PySem.W.cls_value I.kIn M.rd M.fn M.hd ?_)
  refine PySem.W.callWith_K (first := []) (h₀ := X.base) I.ok.mod.kin M.kp (thn (ha.run pos pins _ σ H _ (I.tok _) h) fun us s1 ⟨vs, H1, I1, r1, q1⟩ => ⟨I1.kIn, ?_⟩) he hpl
  have q2 : sp (vs ++ []) H1 Q E := q1
  rw [List.append_nil] at q2
  exact L2H.run_fnH (E := fun _ => E) F hr hc0 hb (hx σ) I1 r1 q2
/-! ### X(), X an own exception class without __init__ : its context is None -/
theorem pmk_own0N {bmB : List Value} {B newId initId : String} (F : ExcBaseFacts B newId initId bmB) (q : PySem.W.excIn X.K C bmB newId = true) (gC : X.mg x = some (.ref C)) (kC : PySem.W.keepIn X.K (.ref C) = true) (r : Raises X (.ref C)) (hg : Gl X x)
    (hdb : (x == ("__debug__" : Str)) = false := by decide) : L2N.PMk X (.Call (.Name x p) [] [] pos) (fun _ H Q => Q (.ref C) none H) := by
  intro pins s σ H Q I h
  refine wpAny_Call_Name_kw (ld_glob I hg gC ?_ hdb)
  refine PySem.W.callWith_K0 (first := []) I.kIn kC ?_
  show wpAny _ _ (call (.ref C) []) _ _ _
  obtain ⟨bm, N, nm, qn, bs, hdct, sn, sub, ab, col, dd, k0, k1, k2, k3, k5, mN, hC, hN, hni, T⟩ := exc_obj I.kIn q
  refine wpAny_call_exc_subT F T hC hN hni (fun h' e hm => ?_) (Nat.zero_le _)
  exact L2N.mk_of I hm r h (I.hok.gone hm.new)
/-- C(), C's own __init__ keeping sp -/
def tMkO0 (C : Addr) (sp : Sp) : L2.St → Hp → XK → Prop := fun _ H1 Q => ∀ a, H1 a = none → sp [.ref a] (upd H1 a (exo a C none))
  (fun v H2 => v = .non ∧ ∃ (d : Addr) (fs : List (Str × V)), H2 a = some (exo a C (some d)) ∧ H2 d = some (exd d fs) ∧ H1 d = none ∧ Q (.ref C) (some d) (upd (del H2 a) d (.xd fs))) (fun _ _ _ => False)
theorem pmk_oex0 {fI : Addr} (T : OexC X.K C) (iC : PySem.W.findIn X.K (.ref C) "__init__" = some (some (.ref fI))) (tI : PySem.W.typeIn X.K (.ref fI) = some (.type "function"))
    (F1 : FnOk X.prog X.w X.K X.mg X.base CX k fI fd ps sp) (hr : Room (k + 1) X.A) (hb : Binds X.K fd ps []) (hx : Passes CX X (fun _ _ _ => False)) (hg : Gl X x) (hm : X.mg x = some (.ref C))
    (hdb : (x == ("__debug__" : Str)) = false := by decide) :
    PMk X (.Call (.Name x p) [] [] pos) (tMkO0 C sp) := by
  intro pins s σ H Q I h
  obtain ⟨nm, q, N, bs, bm, sn, sub, ab, col, dd, k0, k1, k2, k3, k5, hC, hbm⟩ := T.cls
  refine wpAny_Call_Name_kw (ld_glob I hg hm ?_ hdb)
  refine PySem.W.callWith_K0 (first := []) I.kIn T.kC ?_
  show wpAny _ _ (call (.ref C) []) _ _ _
  obtain ⟨hp, g, dr, tk, os⟩ := s
  have hsz : hp.objs.size ≤ hp.objs.size + 1 := Nat.le_succ _
  have hn : H (hp.objs.size + 1) = none := I.hok.fresh hsz
  have hq := h (hp.objs.size + 1) hn
  have kk : ∀ b o, hp.get? b = some o → ((hp.push (PySem.W.kdv_tup [])).push (PySem.HandSPX.excO C hp.objs.size)).get? b = some o := fun b o e => Heap.get?_push_of_some _ (Heap.get?_push_of_some _ e)
  have hget : ((hp.push (PySem.W.kdv_tup [])).push (PySem.HandSPX.excO C hp.objs.size)).get? (hp.objs.size + 1) = some (PySem.HandSPX.excO C hp.objs.size) := by heap_get
  have I2 : Inv X pins σ (upd H (hp.objs.size + 1) (exo (hp.objs.size + 1) C none)) ⟨(hp.push (PySem.W.kdv_tup [])).push (PySem.HandSPX.excO C hp.objs.size), g, dr, tk, os⟩ :=
    I.laid (t' := tk) (a := hp.objs.size + 1) (o := exo (hp.objs.size + 1) C none) (h' := (hp.push (PySem.W.kdv_tup [])).push (PySem.HandSPX.excO C hp.objs.size)) kk hsz (exo_ok hget)
  have r2 : Vals [V.ref (hp.objs.size + 1)] [Value.ref (hp.objs.size + 1)] := .cons rfl .nil
  have hl : ([Value.ref (hp.objs.size + 1)] ++ []).length = ps.length := (F1.len _ _ _ _ hq)
  refine wpAny_call (PySem.HandSPX.call_own F.excBase_ValueError (fun Y => PySem.HandSPX.refsVE_contains Y bm hbm) (I.kIn _ _ hC) (PySem.W.looks_findIn I.kIn iC) (fun self => PySem.W.bind_fn I.kIn self tI) (Nat.zero_le _)
    (codeAny_mono (F1.run _ X.stack _ _ ⟨[Value.ref (hp.objs.size + 1)], []⟩ [Value.ref (hp.objs.size + 1)] _ _ (fun _ _ _ => False) (hr.make C [] []) (I2.env0.make C [] []) (hb _ [Value.ref (hp.objs.size + 1)] I2.kIn hl) r2 hq) fun r s' hq' => ?_))
  cases r with
  | error er => exact hx pins σ _ _ er s' I2 hq'
  | ok fl =>
    cases fl with
    | ret u =>
      obtain ⟨v, H2, os2, bare2, un2, hok2, rv, ev, d, fs, ea, ed, hd1, q2⟩ := hq'
      subst ev
      obtain ⟨h2, g2, d2, t2, os'⟩ := s'
      exact ⟨rv, mk_end (raises_own T.exC T.tyC) I hsz kk un2 hok2 os2 bare2 ea ed hd1 q2⟩
    | next => exact False.elim hq'
    | brk => exact False.elim hq'
    | cont => exact False.elim hq'
end
end SqX
end
section
set_option Elab.async false
set_option maxRecDepth 100000
set_option maxHeartbeats 2000000
namespace SqX
open PySem PySem.Spec PyProof.Rows L2
/-! ### any of a list of ints -/
theorem truth_ints {prog : Program} {w : World} {A : Around} {ns : List Int} {its : List Value} (e : Vals (ns.map V.int) its) :
    TruthOf prog w A (fun i v => its.toArray[i]? = some v) (fun i => ns.getD i 0 != 0) := fun i v s Q E hv hq => by
  have hv' : its[i]? = some v := by simpa using hv
  have hl := Paired.length e
  have hi : i < ns.length := by
    have := (List.getElem?_eq_some_iff.mp hv').1
    rw [List.length_map] at hl
    omega
  obtain ⟨u, hu, ru⟩ := e.get (i := i) (x := V.int (ns.getD i 0)) (by rw [List.getElem?_map, List.getElem?_eq_getElem hi]; simp [hi])
  rw [hv'] at hu
  cases hu
  obtain ⟨t, rfl⟩ := ru
  exact truthy_int hq
theorem any_ints : ∀ ns : List Int, (List.range ns.length).any (fun i => ns.getD i 0 != 0) = ns.any (· != 0)
  | [] => rfl
  | b :: bs => by
    rw [List.length_cons, List.range_succ_eq_map, List.any_cons, List.any_map, List.any_cons, ← any_ints bs]
    rfl
section
variable {X : Cx}
def rAnyI (K : PySem.W.Frag) : List V → Hp → VK → Prop := fun vs H Q => ∃ (a : Addr) (ns : List Int), vs = [V.ref a] ∧ SqL K H a (ns.map V.int) ∧ Q (.bl (ns.any (· != 0))) H
theorem cr_anyI (hc : X.calm = true) : CallR X (.builtin "any") (rAnyI X.K) := by
  intro pins s σ H vs us Q I r h
  obtain ⟨a, ns, rfl, hs, q⟩ := h
  obtain ⟨its, rv, hl, _⟩ := I.list hs
  rw [Vals.ref1 r]
  refine call_any_walk (iter_any hl.isList fun s₂ e2 st hne => ?_)
  subst e2
  refine ⟨_, _, _, _, _, _, _, rfl, Walks.list (A := X.A.in1) (I.ok.hd hc) _ a hne its.toArray, st, truth_ints rv, fun h' tk hk => ?_⟩
  refine ⟨.bl _, H, I.kept fun b o eo => hk b o (fun hmem => ?_) (Heap.get?_push_of_some _ eo), ?_, q⟩
  · rcases List.mem_cons.mp hmem with e1 | hmem
    · exact absurd (e1 ▸ Heap.lt_size eo) (Nat.lt_irrefl _)
    · cases hmem
  · show Value.bool _ = Value.bool _
    rw [← any_ints, List.size_toArray, ← rv.length, List.length_map]
/-! ### xs[i] of a list, for xs[i] += e -/
def rGetL (K : PySem.W.Frag) : V → V → Hp → VK → Prop := fun o i H Q => ∃ p xs j v, o = .ref p ∧ i = .int (j : Nat) ∧ SqL K H p xs ∧ xs[j]? = some v ∧ Q v H
theorem get_list : PGet X (rGetL X.K) := by
  intro pins s σ H o i ov iv Q I ro ri h
  obtain ⟨p, xs, j, v, rfl, rfl, hq, he, q⟩ := h
  obtain rfl : ov = Value.ref p := ro
  obtain ⟨t, rfl⟩ := ri
  obtain ⟨its, r, pl, hz⟩ := I.list hq
  obtain ⟨w, ew, rw'⟩ := r.get he
  have hl := r.length
  have hj := (List.getElem?_eq_some_iff.mp he).1
  have hn := line63
  exact wpAny_getItem_list pl.isList (by omega) (by omega) (by simpa using ew) ⟨v, H, I, rw', q⟩
end
end SqX
end
section
set_option Elab.async false
set_option maxRecDepth 100000
set_option maxHeartbeats 2000000
/-! dict(ps), ps a list of pairs whose keys are tuples of ints and texts -/
namespace SqX
open PySem PySem.Spec PyProof.Rows L2
theorem dictOfH_move {prog : Program} {w : World} {K : Type} [DecidableEq K] {knd : HeapKind prog w K} {h h' : Heap} {d : Addr} {xs : List (K × Addr × Value)} (hm : h.DictOfH knd d xs) (k : ∀ o, h.get? d = some o → h'.get? d = some o) (hk : ∀ x ∈ xs, knd.is h' x.1 x.2.1) : h'.DictOfH knd d xs := by
  obtain ⟨o, es, ep, h1, h2, h3, h4, _, h6⟩ := hm
  exact ⟨o, es, ep, k _ h1, h2, h3, h4, hk, h6⟩
theorem storedH_addr {K : Type} [DecidableEq K] {xs : List (K × Addr × Value)} {k : K} {a : Addr} {v : Value} : ∀ x ∈ storedH xs k a v, x = (k, a, v) ∨ ∃ y ∈ xs, x.1 = y.1 ∧ x.2.1 = y.2.1 := by
  intro x hx
  unfold storedH at hx
  split at hx
  · obtain ⟨y, hy, rfl⟩ := List.mem_map.mp hx
    refine .inr ⟨y, hy, ?_⟩
    unfold putAt
    split <;> exact ⟨rfl, rfl⟩
  · rcases List.mem_append.mp hx with h | h
    · exact .inr ⟨x, h, rfl, rfl⟩
    · exact .inl (by simpa using h)
theorem storedH_le {K : Type} [DecidableEq K] (xs : List (K × Addr × Value)) (k : K) (a : Addr) (v : Value) : (storedH xs k a v).length ≤ xs.length + 1 := by
  unfold storedH
  split
  · rw [List.length_map]; omega
  · rw [List.length_append]; simp
abbrev TK (prog : Program) (w : World) := tupleKind (mixKind prog w)
def mergedH (acc : List (List L2.Key × Addr × Value)) (rest : List (List L2.Key × Addr × Value)) : List (List L2.Key × Addr × Value) := rest.foldl (fun acc q => storedH acc q.1 q.2.1 q.2.2) acc
theorem is_move {prog : Program} {w : World} {h h' : Heap} {k : List L2.Key} {a : Addr} (x : (TK prog w).is h k a) (e : ∀ o, h.get? a = some o → h'.get? a = some o) : (TK prog w).is h' k a := by
  obtain ⟨o, its, n, h1, h2⟩ := x
  exact ⟨o, its, n, e _ h1, h2⟩
section
variable {prog : Program} {w : World} {A : Around} {E : Value → Shared → Prop}
theorem upd_loopT {R : Result → Shared → Prop} {S I l : Addr} {items : Array Value} {res : Value} (hh : A.handled = none) (hu : A.units + 1 < cLine) (hlI : l ≠ I) (hSI : S ≠ I) (hSl : S ≠ l) :
    ∀ (rest : List (List L2.Key × Addr × Value)) (i : Nat) (acc : List (List L2.Key × Addr × Value)) (ix : Int) (t : Tok) (s : Shared), items.size = i + rest.length → acc.length + rest.length ≤ sizeLine →
      (∀ (j : Nat) (q : List L2.Key × Addr × Value), rest[j]? = some q → ∃ b : Addr, items[i + j]? = some (.ref b) ∧ b ≠ S ∧ b ≠ I ∧ IsTup s.heap b #[.ref q.2.1, q.2.2] ∧ (TK prog w).is s.heap q.1 q.2.1 ∧ q.2.1 ≠ S ∧ q.2.1 ≠ I) →
      (∀ q ∈ acc, (TK prog w).is s.heap q.1 q.2.1 ∧ q.2.1 ≠ S ∧ q.2.1 ≠ I) →
      s.heap.IsListIter I l i → s.heap.IsList l items → s.heap.DictOfH (TK prog w) S acc →
      (∀ h' tk, h'.DictOfH (TK prog w) S (mergedH acc rest) → (∀ b o, b ≠ S → b ≠ I → s.heap.get? b = some o → h'.get? b = some o) → R (.ok (.ret res)) { s with heap := h', toks := tk }) →
      codeAny (model prog w) A (.builtin "dict.update.loop" ⟨[.ref S, .ref I, .int ix t, res], []⟩) R s
  | [], i, acc, ix, t, s, hsz, hln, ht, ha, hit, hl, hm, hR => by
    refine codeAny_builtin ud_entry ?_
    rw [Around.under_plainId ud_plain _]
    show wpAny _ A.in1 (pyNext (.ref I) >>= _) _ _ s
    refine wpAny_bind (wpAny_pyNext_list_end (A := A.in1) hh hit hl (by first | exact Array.getElem?_eq_none (Nat.le_of_eq hsz) | (simp at hsz; simp; omega)) fun h' he => ?_)
    show wpAny _ A.in1 (Builtin.Dict.addKeywords S [] >>= _) _ _ _
    refine wpAny_bind (wpAny_pure (wpAny_pure ?_))
    exact hR h' s.toks (dictOfH_move hm (fun o e => he S o hSI e) fun x hx => is_move (ha x hx).1 fun o e => he _ o (ha x hx).2.2 e) fun b o _ hb e => he b o hb e
  | q :: rest, i, acc, ix, t, s, hsz, hln, ht, ha, hit, hl, hm, hR => by
    obtain ⟨b, hb, hbS, hbI, htup, hk, hkS, hkI⟩ := ht 0 q rfl
    rw [List.length_cons] at hsz hln
    refine codeAny_builtin ud_entry ?_
    rw [Around.under_plainId ud_plain _]
    show wpAny _ A.in1 (pyNext (.ref I) >>= _) _ _ s
    refine wpAny_bind (wpAny_pyNext_list_item (x := .ref b) hit hl (by simpa using hb) fun h1 hit1 hs1 => ?_)
    have k1 : ∀ c o, c ≠ I → s.heap.get? c = some o → h1.get? c = some o := fun c o hc e => hs1.extBut c o hc e
    have ht1 : IsTup h1 b #[.ref q.2.1, q.2.2] := htup.extBut hs1.extBut hbI
    have hl1 : h1.IsList l items := hl.extBut hs1.extBut hlI
    have hm1 : h1.DictOfH (TK prog w) S acc := dictOfH_move hm (fun o e => k1 S o hSI e) fun x hx => is_move (ha x hx).1 fun o e => k1 _ o (ha x hx).2.2 e
    have hk1 : (TK prog w).is h1 q.1 q.2.1 := is_move hk fun o e => k1 _ o hkI e
    obtain ⟨o, ho, hc, n, hd⟩ := id ht1
    show wpAny _ A.in1 (holding [Value.ref b] _ >>= _) _ _ _
    refine wpAny_bind (wpAny_holding ?_)
    refine wpAny_bind (wpAny_tryCatch ?_)
    unfold Builtin.Dict.pairItems
    refine wpAny_bind (wpAny_typeOf (T := "tuple") ⟨o, ho, hc⟩ ?_)
    rw [if_pos (by first | decide | rfl | simp)]
    refine wpAny_bind (wpAny_seqItems ho hd (wpAny_pure ?_))
    show wpAny _ A.in1 (holding [Value.ref q.2.1, q.2.2] (dictSet S (.ref q.2.1) q.2.2)) _ _ _
    refine wpAny_holding (wpAny_dictSet_heap (hsz := by omega) (knd := TK prog w) (k := q.1) hu hk1 hm1 (fun h2 hm2 hs2 => ?_))
    have k2 : ∀ c o, c ≠ S → h1.get? c = some o → h2.get? c = some o := fun c o hc e => hs2.extBut c o hc e
    refine wpAny_pure ⟨plainId_quiet ud_plain _, upd_loopT (items := items) hh hu hlI hSI hSl rest (i + 1) (storedH acc q.1 q.2.1 q.2.2) (ix + 1) 0 _ (show items.size = i + 1 + rest.length by omega) ?_ (fun j q' e => ?_) (fun x hx => ?_) ?_ ?_ hm2 fun h' tk hd' k => ?_⟩
    · have z := storedH_le acc q.1 q.2.1 q.2.2
      omega
    · obtain ⟨b', hb', hbS', hbI', htup', hk', hkS', hkI'⟩ := ht (j + 1) q' (by simpa using e)
      refine ⟨b', ?_, hbS', hbI', (htup'.extBut hs1.extBut hbI').extBut hs2.extBut hbS', is_move hk' fun o e => k2 _ o hkS' (k1 _ o hkI' e), hkS', hkI'⟩
      rw [show i + 1 + j = i + (j + 1) by omega]
      exact hb'
    · rcases storedH_addr x hx with e | ⟨y, hy, e1, e2⟩
      · rw [e]
        exact ⟨is_move hk1 fun o e => k2 _ o hkS e, hkS, hkI⟩
      · obtain ⟨h1', h2', h3'⟩ := ha y hy
        rw [e1, e2]
        exact ⟨is_move h1' fun o e => k2 _ o h2' (k1 _ o h3' e), h2', h3'⟩
    · exact hit1.at fun o' e => k2 I o' (Ne.symm hSI) e
    · exact hl1.extBut hs2.extBut (Ne.symm hSl)
    · exact hR h' tk hd' fun c oc h3 h4 e => k c oc h3 h4 (k2 c oc h3 (k1 c oc h4 e))
theorem call_dict_pairsT {s : Shared} {l : Addr} {ol : Obj} {items : Array Value} {n : Nat} {prs : List (List L2.Key × Addr × Value)} {Q : Value → Shared → Prop} (hh : A.handled = none) (hu : A.units + 4 < cLine) (hl : s.heap.get? l = some ol) (hc : ol.cls = .type "list") (hd : ol.dict = none)
    (hdat : ol.data = .seq items n) (hsz : items.size = prs.length) (hln : prs.length ≤ sizeLine)
    (ht : ∀ (j : Nat) (q : List L2.Key × Addr × Value), prs[j]? = some q → ∃ b : Addr, items[j]? = some (.ref b) ∧ IsTup s.heap b #[.ref q.2.1, q.2.2] ∧ (TK prog w).is s.heap q.1 q.2.1)
    (h : ∀ h' tk, h'.DictOfH (TK prog w) s.heap.objs.size (mergedH [] prs) → (∀ b o, s.heap.get? b = some o → h'.get? b = some o) → Q (.ref s.heap.objs.size) { s with heap := h', toks := tk }) :
    wpAny (model prog w) A (call (.type "dict") [.ref l]) Q E s := by
  refine callType_codes (Q₁ := fun obj s₁ => obj = .ref s.heap.objs.size ∧ s₁ = { s with heap := s.heap.push { cls := .type "dict", data := .dict #[] } }) PySem.F.kt_called_dict (PySem.F.kt_typeCall_dict_1 _) PySem.F.entry_dict_init (kt_code_dict_new _ ⟨rfl, rfl⟩) ?_
  rintro obj s₁ ⟨rfl, rfl⟩
  have hnew : (s.heap.push { cls := .type "dict", data := .dict #[] }).DictOfH (TK prog w) s.heap.objs.size [] := Heap.DictOfH.new s.heap
  have k0 : ∀ b o, s.heap.get? b = some o → (s.heap.push { cls := .type "dict", data := .dict #[] }).get? b = some o := fun b o e => Heap.get?_push_of_some _ e
  refine ⟨hnew.typeIs, PySem.F.args_dict_init_2 _ _, ?_⟩
  unfold Builtin.«dict.__init__»
  refine wpAny_bind ?_
  unfold Builtin.Dict.selfAndRest
  refine wpAny_bind (wpAny_notOrdered_dict hnew.typeIs ?_)
  show wpAny _ _ (pure (s.heap.objs.size, [Value.ref l])) _ _ _
  refine wpAny_pure ?_
  show wpAny _ _ (Builtin.Dict.updateFrom "dict.__init__" s.heap.objs.size (.ref l) [] .none) _ _ _
  unfold Builtin.Dict.updateFrom
  refine wpAny_bind (wpAny_typeOf (T := "list") ⟨ol, k0 _ _ hl, hc⟩ ?_)
  rw [if_pos (by first | decide | rfl | simp)]
  refine wpAny_bind (miss_list (k0 _ _ hl) hc hdat hd hh fun h1 tk1 hk1 => ?_)
  rw [if_pos (show (none : Option Value).isNone = true from rfl)]
  refine wpAny_bind (wpAny_rule ?_)
  have hl1 : h1.IsList l items := ⟨ol, hk1 _ _ (k0 _ _ hl), hc, n, hdat⟩
  have hS1 : s.heap.objs.size < h1.objs.size := by
    have e : (s.heap.push { cls := .type "dict", data := .dict #[] }).get? s.heap.objs.size = some { cls := .type "dict", data := .dict #[] } := Heap.get?_push_size _ rfl
    exact Heap.lt_size (hk1 _ _ e)
  refine wpAny_bind (wpAny_pyIter_list hl1 ?_)
  have k2 : ∀ b o, h1.get? b = some o → (h1.push { cls := .type "list_iterator", data := .fields #[.ref l, .int 0 0] }).get? b = some o := fun b o e => Heap.get?_push_of_some _ e
  have hlt : l < s.heap.objs.size := Heap.lt_size hl
  have key := upd_loopT (prog := prog) (w := w) (A := A.in1) (R := wants (fun r s₂ => r = .none ∧ Q (.ref s.heap.objs.size) s₂) E) (S := s.heap.objs.size) (I := h1.objs.size) (l := l) (items := items) (res := Value.none) hh (by show A.units + 1 + 1 < cLine; omega)
    (Nat.ne_of_lt (Nat.lt_trans hlt hS1)) (Nat.ne_of_lt hS1) (Nat.ne_of_gt hlt) prs 0 [] 0 0
    { s with heap := h1.push { cls := .type "list_iterator", data := .fields #[.ref l, .int 0 0] }, toks := tk1 } (by rw [hsz, Nat.zero_add]) (by rw [List.length_nil, Nat.zero_add]; exact hln)
    (fun j q e => by
      obtain ⟨b, e1, e2, e3⟩ := ht j q e
      have hb : b < s.heap.objs.size := e2.lt
      have hkb : q.2.1 < s.heap.objs.size := by
        obtain ⟨o, its, m, g1, _⟩ := e3
        exact Heap.lt_size g1
      exact ⟨b, by rw [Nat.zero_add]; exact e1, Nat.ne_of_lt hb, Nat.ne_of_lt (Nat.lt_trans hb hS1), e2.keeps fun c o z => k2 _ _ (hk1 _ _ (k0 _ _ z)), is_move e3 fun o z => k2 _ _ (hk1 _ _ (k0 _ _ z)), Nat.ne_of_lt hkb, Nat.ne_of_lt (Nat.lt_trans hkb hS1)⟩)
    (fun q hq => absurd hq (by simp))
    ⟨_, Heap.get?_push_size _ rfl, rfl, rfl⟩ (hl1.at fun o e => k2 _ _ e) (dictOfH_move hnew (fun o e => k2 _ _ (hk1 _ _ e)) fun x hx => absurd hx (by simp))
    (fun h' tk hd' k => ⟨rfl, h h' tk hd' fun b o e => k b o (Nat.ne_of_lt (Heap.lt_size e)) (Nat.ne_of_lt (Nat.lt_trans (Heap.lt_size e) hS1)) (k2 _ _ (hk1 _ _ (k0 _ _ e)))⟩)
  first
    | exact wpAny_pure ⟨plainId_quiet ud_plain _, key⟩
    | exact wpAny_bind (wpAny_pure (wpAny_pure ⟨plainId_quiet ud_plain _, key⟩))
end
def mergeT (kvs more : List (List L2.Key × V)) : List (List L2.Key × V) := more.foldl (fun acc kv => putK acc kv.1 kv.2) kvs
section
variable {X : Cx}
/-- dict(ps): the pairs at addresses, each a tuple of a tuple (at an address) and a value -/
theorem call_dictPT {k : Nat} (hr : Room k X.A) (hcalm : X.calm = true) : CallR X (.type "dict") (fun xs H Q => ∃ (a : Addr) (ps : List (Addr × Addr × List L2.Key × V)), xs = [.ref a] ∧ SqL X.K H a (ps.map fun x => V.ref x.1) ∧
    (∀ x ∈ ps, H x.1 = some (.tup [.ref x.2.1, x.2.2.2]) ∧ H x.2.1 = some (.tup (x.2.2.1.map kV))) ∧
    ∀ p, H p = none → Q (.ref p) (upd H p (.dT (mergeT [] (ps.map fun x => x.2.2))))) := by
  intro pins s σ H xs us Q I r q
  obtain ⟨a, ps, ex, hq, hp, q⟩ := q
  subst ex
  obtain ⟨u, eu, rx⟩ := vals1 r
  subst eu
  obtain rfl : u = Value.ref a := rx
  obtain ⟨its, rv, pl, hz⟩ := I.list hq
  rw [List.length_map] at hz
  have hlen : its.length = ps.length := by rw [← rv.length, List.length_map]
  -- the values behind the pairs
  have hex : ∀ (l : List (Addr × Addr × List L2.Key × V)), (∀ x ∈ l, x ∈ ps) → ∃ prs : List (List L2.Key × Addr × Value), prs.length = l.length ∧ KT H (l.map fun x => x.2.2) prs ∧
      ∀ (j : Nat) (q : List L2.Key × Addr × Value), prs[j]? = some q → ∃ x, l[j]? = some x ∧ IsTup s.heap x.1 #[.ref q.2.1, q.2.2] ∧ (TK X.prog X.w).is s.heap q.1 q.2.1 := by
    intro l
    induction l with
    | nil => intro _; exact ⟨[], rfl, .nil, fun j q e => by simp at e⟩
    | cons x l ih =>
      intro hin
      obtain ⟨prs, h1, h2, h3⟩ := ih fun y hy => hin y (List.mem_cons_of_mem _ hy)
      obtain ⟨e1, e2⟩ := hp x (hin x (List.mem_cons_self ..))
      obtain ⟨its', rv', ht', _⟩ := I.tuple (X := X) (.inl (.inl e1))
      obtain ⟨u1, u2, ei, r1, r2⟩ := vals2 rv'
      obtain rfl : u1 = Value.ref x.2.1 := r1
      subst ei
      have hk := key_of I.hok e2
      refine ⟨(x.2.2.1, x.2.1, u2) :: prs, by rw [List.length_cons, List.length_cons, h1], .cons ⟨rfl, e2, r2⟩ h2, fun j q e => ?_⟩
      cases j with
      | zero =>
        have e' : (x.2.2.1, x.2.1, u2) = q := Option.some.inj e
        subst e'
        exact ⟨x, rfl, ht', hk⟩
      | succ j =>
        obtain ⟨y, e1, e2, e3⟩ := h3 j q (by simpa using e)
        exact ⟨y, by simpa using e1, e2, e3⟩
  obtain ⟨prs, hl, hkt, hpr⟩ := hex ps fun _ h => h
  obtain ⟨o, n, ho, hc, hd, hdat⟩ := pl
  refine call_dict_pairsT (prs := prs) (I.ok.hd hcalm) (by have := hr.un; omega) ho hc hd hdat (by rw [List.size_toArray, hl, hlen]) (by rw [hl]; exact hz) (fun j q' e => ?_) fun h' tk hd' kk => ?_
  · obtain ⟨x, e1, e2, e3⟩ := hpr j q' e
    obtain ⟨w1, hw, rw1⟩ := rv.get (i := j) (x := V.ref x.1) (by rw [List.getElem?_map, e1]; rfl)
    obtain rfl : w1 = Value.ref x.1 := rw1
    exact ⟨x.1, by simpa using hw, e2, e3⟩
  · have hm : (s.heap.objs.size == sysModules) = false := beq_eq_false_iff_ne.mpr (Nat.ne_of_gt I.big)
    have hmg : ∀ (m : List (List L2.Key × V)) (rs : List (List L2.Key × Addr × Value)) (kvs : List (List L2.Key × V)) (vs : List (List L2.Key × Addr × Value)), KT H m rs → KT H kvs vs → KT H (mergeT kvs m) (mergedH vs rs) := by
      intro m
      induction m with
      | nil =>
        intro rs kvs vs h1 h2
        cases h1
        exact h2
      | cons x m ih =>
        intro rs kvs vs h1 h2
        cases h1 with
        | @cons _ y _ ys hxy ht =>
          obtain ⟨e1, e2, e3⟩ := hxy
          show KT H (mergeT (putK kvs x.1 x.2) m) (mergedH (storedH vs y.1 y.2.1 y.2.2) ys)
          rw [← e1]
          exact ih _ _ _ ht (KT.put h2 x.1 e2 e3)
    have hkt2 := hmg _ _ [] [] hkt .nil
    have hlen2 : ∀ (rs vs : List (List L2.Key × Addr × Value)), (mergedH vs rs).length ≤ vs.length + rs.length := by
      intro rs
      induction rs with
      | nil => intro vs; exact Nat.le_refl _
      | cons x rs ih =>
        intro vs
        have h1 := ih (storedH vs x.1 x.2.1 x.2.2)
        have h2 := storedH_le vs x.1 x.2.1 x.2.2
        show (mergedH (storedH vs x.1 x.2.1 x.2.2) rs).length ≤ _
        rw [List.length_cons]
        omega
    have hle : (mergeT [] (ps.map fun x => x.2.2)).length ≤ sizeLine := by
      rw [Paired.length hkt2]
      have := hlen2 prs []
      rw [List.length_nil] at this
      omega
    have hfr : H s.heap.objs.size = none := I.hok.fresh (Nat.le_refl _)
    obtain ⟨q1, es, ep, g1, g2, g3, g4, _, g6⟩ := hd'
    exact ⟨.ref s.heap.objs.size, upd H s.heap.objs.size (.dT (mergeT [] (ps.map fun x => x.2.2))), I.laid (t' := tk) kk (Nat.le_refl _) ⟨hle, hm, _, hkt2.keeps fun c ys ec => by rw [upd_ne (ne_of_none ec hfr)]; exact ec, q1, es, ep, g1, g2, g3, g4, g6⟩, rfl, q _ hfr⟩
end
end SqX
end
section
set_option Elab.async false
set_option maxRecDepth 100000
set_option maxHeartbeats 2000000
/-! zip of three lists -/
namespace SqX
open PySem PySem.Spec PyProof.Rows L2
def Itz3 (K : PySem.W.Frag) (a b c : Addr) : It :=
  ⟨fun i H => ∃ (xs ys zs : List V) (x y z : V), SqL K H a xs ∧ SqL K H b ys ∧ SqL K H c zs ∧ xs[i]? = some x ∧ ys[i]? = some y ∧ zs[i]? = some z,
    fun i H v H' => ∃ T x y z, v = .ref T ∧ H T = none ∧ H' = upd H T (.tup [x, y, z]) ∧ (∀ xs, SqL K H a xs → xs[i]? = some x) ∧ (∀ ys, SqL K H b ys → ys[i]? = some y) ∧ ∀ zs, SqL K H c zs → zs[i]? = some z,
    fun i H => ∃ xs ys zs : List V, SqL K H a xs ∧ SqL K H b ys ∧ SqL K H c zs ∧ i ≤ xs.length ∧ i ≤ ys.length ∧ i ≤ zs.length ∧ (i = xs.length ∨ i = ys.length ∨ i = zs.length)⟩
structure Apart3 (z TI TO i1 i2 i3 a b c : Addr) : Prop where
  S : ZipSep3 z TI TO i1 i2 i3 [i1, a] [i2, b] [i3, c]
  a1 : a ≠ i1
  b2 : b ≠ i2
  c3 : c ≠ i3
theorem turn_zip3 {P : Program} {w : World} {K : PySem.W.Frag} {elts : List Expr} {kk : Nat} {tpos : Pos} {a b c z TI TO i1 i2 i3 : Addr} (D : Apart3 z TI TO i1 i2 i3 a b c) :
    Turn P w K (.Tuple elts kk tpos) (Itz3 K a b c) [z, TI, TO, i1, i2, i3] z (fun i h => IsZip h z TI TO .none ∧ IsTupOf3 h TI (.ref i1) (.ref i2) (.ref i3) ∧ (∃ x y v, IsTupOf3 h TO x y v) ∧ h.IsListIter i1 a i ∧ h.IsListIter i2 b i ∧ h.IsListIter i3 c i) where
  mem := by simp
  obj := fun i h st d hd => by
    obtain ⟨hz, hTI, ⟨x, y, v, hTO⟩, ⟨o1, e1, _, d1⟩, ⟨o2, e2, _, d2⟩, ⟨o3, e3, _, d3⟩⟩ := st
    have e' : d = z ∨ d = TI ∨ d = TO ∨ d = i1 ∨ d = i2 ∨ d = i3 := by simpa using hd
    rcases e' with q | q | q | q | q | q
    · rw [q]; exact ⟨_, hz, fun v q => nomatch q⟩
    · rw [q]; exact ⟨_, hTI, fun v q => nomatch q⟩
    · rw [q]; exact ⟨_, hTO, fun v q => nomatch q⟩
    · rw [q]; exact ⟨o1, e1, fun v q => by rw [d1] at q; cases q⟩
    · rw [q]; exact ⟨o2, e2, fun v q => by rw [d2] at q; cases q⟩
    · rw [q]; exact ⟨o3, e3, fun v q => by rw [d3] at q; cases q⟩
  keep := fun i h h' st k => by
    obtain ⟨hz, hTI, ⟨x, y, v, hTO⟩, h1, h2, h3⟩ := st
    exact ⟨k z (by simp) _ hz, k TI (by simp) _ hTI, ⟨x, y, v, k TO (by simp) _ hTO⟩, h1.at fun o q => k i1 (by simp) o q, h2.at fun o q => k i2 (by simp) o q, h3.at fun o q => k i3 (by simp) o q⟩
  item := by
    intro X hP hw hK hc i pins s σ H E I hf st hg
    subst hP hw hK
    obtain ⟨hz, hTI, ⟨x0, y0, v0, hTO⟩, h1, h2, h3⟩ := st
    obtain ⟨xs, ys, zs, x, y, v, hqx, hqy, hqz, hx, hy, hv⟩ := hg
    obtain ⟨its, rv, p, _⟩ := I.list hqx
    obtain ⟨its2, rv2, p2, _⟩ := I.list hqy
    obtain ⟨its3, rv3, p3, _⟩ := I.list hqz
    have hzl : z < s.heap.objs.size := Heap.lt_size hz
    have lt1 := (List.getElem?_eq_some_iff.mp hx).1
    have lt2 := (List.getElem?_eq_some_iff.mp hy).1
    have lt3 := (List.getElem?_eq_some_iff.mp hv).1
    have D1 := Draws.list (prog := X.prog) (w := X.w) (A := X.A.in1) (I.ok.hd hc) i1 a D.a1 its.toArray
    have D2 := Draws.list (prog := X.prog) (w := X.w) (A := X.A.in1) (I.ok.hd hc) i2 b D.b2 its2.toArray
    have D3 := Draws.list (prog := X.prog) (w := X.w) (A := X.A.in1) (I.ok.hd hc) i3 c D.c3 its3.toArray
    refine wpAny_pyNext_zipD3_item D.S D1 D2 D3 hz hTI hTO ⟨h1, p.isList⟩ ⟨h2, p2.isList⟩ ⟨h3, p3.isList⟩
      (by rw [List.size_toArray, ← rv.length]; exact lt1) (by rw [List.size_toArray, ← rv2.length]; exact lt2) (by rw [List.size_toArray, ← rv3.length]; exact lt3) fun u1 u2 u3 h' tk e1 e2 e3 z' TO' s1' s2' s3' hT hsz hk => ?_
    refine ⟨_, rfl, wpAny_letOwnedTupleGo_zip (s := { s with heap := h', toks := tk }) z' fun h'' z'' sb => ?_⟩
    have hT2 : h''.get? s.heap.objs.size = some { cls := .type "tuple", data := .seq #[u1, u2, u3] } := (sb.2 _ (Nat.ne_of_gt hzl)).trans hT
    obtain ⟨w1, hw1, r1⟩ := rv.get hx
    obtain ⟨w2, hw2, r2⟩ := rv2.get hy
    obtain ⟨w3, hw3, r3⟩ := rv3.get hv
    have g1 : its[i]? = some u1 := by simpa using e1
    have g2 : its2[i]? = some u2 := by simpa using e2
    have g3 : its3[i]? = some u3 := by simpa using e3
    rw [hw1] at g1
    rw [hw2] at g2
    rw [hw3] at g3
    obtain rfl := Option.some.inj g1
    obtain rfl := Option.some.inj g2
    obtain rfl := Option.some.inj g3
    have new : ObjOk X.prog X.w (upd H s.heap.objs.size (.tup [x, y, v])) h'' s.heap.objs.size (.tup [x, y, v]) :=
      ⟨by show 3 ≤ sizeLine; decide, [w1, w2, w3], .cons r1 (.cons r2 (.cons r3 .nil)), ⟨_, hT2, rfl, _, rfl⟩⟩
    have I1 : Inv X pins σ (upd H s.heap.objs.size (.tup [x, y, v])) { s with heap := h'', toks := tk } :=
      I.turnedNew (t' := tk) (ch := [z, TI, TO, i1, i2, i3]) (fun d o hb q => (sb.2 d (fun q' => hb (by simp [q']))).trans (hk d o (fun q' => hb (by simp [q'])) (fun q' => hb (by simp [q'])) (fun q' => hb (by simp [q'])) (fun q' => hb (by simp [q'])) (fun q' => hb (by simp [q'])) q)) hf (Nat.le_refl _) new
    refine ⟨.ref s.heap.objs.size, _, I1, rfl, ⟨_, x, y, v, rfl, I.hok.fresh (Nat.le_refl _), rfl, fun l hl => by rw [I.list_inj hl hqx]; exact hx, fun l hl => by rw [I.list_inj hl hqy]; exact hy, fun l hl => by rw [I.list_inj hl hqz]; exact hv⟩, ⟨z'', ?_, ⟨w1, w2, w3, ?_⟩, ?_, ?_, ?_⟩, fun d hdm => ?_⟩
    · exact (sb.2 _ D.S.TIz).trans (hk _ _ D.S.TIz D.S.TITO D.S.TIi1 D.S.TIi2 D.S.TIi3 hTI)
    · exact (sb.2 _ D.S.TOz).trans TO'
    · exact s1'.1.at fun o q => (sb.2 _ (Ne.symm D.S.zi1)).trans q
    · exact s2'.1.at fun o q => (sb.2 _ (Ne.symm D.S.zi2)).trans q
    · exact s3'.1.at fun o q => (sb.2 _ (Ne.symm D.S.zi3)).trans q
    · have hlt : d < s.heap.objs.size := by
        have e' : d = z ∨ d = TI ∨ d = TO ∨ d = i1 ∨ d = i2 ∨ d = i3 := by simpa using hdm
        rcases e' with q | q | q | q | q | q
        · rw [q]; exact hzl
        · rw [q]; exact Heap.lt_size hTI
        · rw [q]; exact Heap.lt_size hTO
        · rw [q]; obtain ⟨_, e1, _⟩ := h1; exact Heap.lt_size e1
        · rw [q]; obtain ⟨_, e2, _⟩ := h2; exact Heap.lt_size e2
        · rw [q]; obtain ⟨_, e3, _⟩ := h3; exact Heap.lt_size e3
      rw [upd_ne (Nat.ne_of_lt hlt)]
      exact (hf d hdm).1
  done := by
    intro X hP hw hK hc i pins s σ H E I hf st hg
    subst hP hw hK
    obtain ⟨hz, hTI, ⟨x0, y0, v0, hTO⟩, h1, h2, h3⟩ := st
    obtain ⟨xs, ys, zs, hqx, hqy, hqz, l1, l2, l3, hend⟩ := hg
    obtain ⟨its, rv, p, _⟩ := I.list hqx
    obtain ⟨its2, rv2, p2, _⟩ := I.list hqy
    obtain ⟨its3, rv3, p3, _⟩ := I.list hqz
    have n1 := rv.length
    have n2 := rv2.length
    have n3 := rv3.length
    have D1 := Draws.list (prog := X.prog) (w := X.w) (A := X.A.in1) (I.ok.hd hc) i1 a D.a1 its.toArray
    have D2 := Draws.list (prog := X.prog) (w := X.w) (A := X.A.in1) (I.ok.hd hc) i2 b D.b2 its2.toArray
    have D3 := Draws.list (prog := X.prog) (w := X.w) (A := X.A.in1) (I.ok.hd hc) i3 c D.c3 its3.toArray
    exact wpAny_pyNext_zipD3_end D.S D1 D2 D3 hz hTI hTO ⟨h1, p.isList⟩ ⟨h2, p2.isList⟩ ⟨h3, p3.isList⟩
      (by rw [List.size_toArray]; omega) (by rw [List.size_toArray]; omega) (by rw [List.size_toArray]; omega) (by rw [List.size_toArray, List.size_toArray, List.size_toArray]; omega)
      fun h' tk hk => ⟨rfl, I.turnedL (t' := tk) (ch := [z, TI, TO, i1, i2, i3]) (fun d o hb q => hk d o (fun q' => hb (by simp [q'])) (fun q' => hb (by simp [q'])) (fun q' => hb (by simp [q'])) (fun q' => hb (by simp [q'])) (fun q' => hb (by simp [q'])) q) hf⟩
  self := fun A i s Q E st h => wpAny_pyIter_zip st.1 h
def iZip3 (K : PySem.W.Frag) (ta : TA) : TI := fun σ H R => ta σ H fun vs H1 => ∃ a b c xs ys zs, vs = [.ref a, .ref b, .ref c] ∧ SqL K H1 a xs ∧ SqL K H1 b ys ∧ SqL K H1 c zs ∧ R (Itz3 K a b c) H1
theorem apart3 (s a b c : Nat) (h1 : a < s) (h2 : b < s) (h3 : c < s) : Apart3 (s + 5) (s + 3) (s + 4) s (s + 1) (s + 2) a b c := by
  have ne : ∀ x y : Nat, x ≠ y → (x : Addr) ≠ (y : Addr) := fun _ _ h => h
  have nin : ∀ x a b : Nat, x ≠ a → x ≠ b → (x : Addr) ∉ ([a, b] : List Addr) := fun x a b h1 h2 h => by
    rcases List.mem_cons.mp h with e | e
    · exact h1 e
    · rcases List.mem_cons.mp e with e | e
      · exact h2 e
      · cases e
  refine ⟨⟨?_, ?_, ?_, ?_, ?_, ?_, ?_, ?_, ?_, ?_, ?_, ?_, ?_, ?_, ?_, ?_, ?_, ?_, ?_, ?_, ?_⟩, ?_, ?_, ?_⟩ <;> first | exact List.mem_cons_self .. | (refine nin _ _ _ ?_ ?_ <;> omega) | (refine ne _ _ ?_; omega)
theorem pi_zip3 {X : Cx} {e e2 e3 : Expr} {ta : TA} {p pos tpos : Pos} {elts : List Expr} {kk : Nat} (hg : Gl X "zip") (hm : X.mg "zip" = none) (ha : PA X [e, e2, e3] ta)
    (hs : starEach [e, e2, e3] X.env = (false, eval e X.env) :: starEach [e2, e3] X.env := by rfl) (hpl : (backTo pos (starEach [e2, e3] X.env)).any (·.1) = false := by rfl) :
    PI X (.Tuple elts kk tpos) (.Call (.Name "zip" p) [e, e2, e3] [] pos) (iZip3 X.K ta) := by
  refine ⟨fun pins s σ H R I h => ?_⟩
  refine Call_ (ld_blt I hg hm PyProof.Rows.boot_zip (PyProof.Rows.callWith_type1 (thn (ha.run pos pins s σ H _ I h) fun us s1 ⟨vs, H1, I1, r1, q1⟩ => ?_) hs hpl))
  obtain ⟨a, b, c, xs, ys, zs, ex, hqx, hqy, hqz, q⟩ := q1
  subst ex
  obtain ⟨u1, u2, u3, rfl, ra, rb, rc⟩ : ∃ u1 u2 u3, us = [u1, u2, u3] ∧ RelV (.ref a) u1 ∧ RelV (.ref b) u2 ∧ RelV (.ref c) u3 := by
    cases r1 with
    | cons r rr => cases rr with
      | cons r' rr => cases rr with
        | cons r'' rr =>
          cases rr
          exact ⟨_, _, _, rfl, r, r', r''⟩
  obtain rfl : u1 = Value.ref a := ra
  obtain rfl : u2 = Value.ref b := rb
  obtain rfl : u3 = Value.ref c := rc
  obtain ⟨its, rv, p1, _⟩ := I1.list hqx
  obtain ⟨its2, rv2, p2, _⟩ := I1.list hqy
  obtain ⟨its3, rv3, p3, _⟩ := I1.list hqz
  have la : a < s1.heap.objs.size := p1.lt
  have lb : b < s1.heap.objs.size := p2.lt
  have lc : c < s1.heap.objs.size := p3.lt
  refine zip_begins3 (begins_list a its.toArray) (begins_list b its2.toArray) (begins_list c its3.toArray) p1.isList p2.isList p3.isList fun h' hz hTI hTO h1 h2 h3 hsz hk => wpAny_pyIter_zip hz ?_
  have I2 : Inv X pins σ H1 { s1 with heap := h' } := I1.kept (t' := s1.toks) hk
  refine ⟨s1.heap.objs.size + 5, [s1.heap.objs.size + 5, s1.heap.objs.size + 3, s1.heap.objs.size + 4, s1.heap.objs.size, s1.heap.objs.size + 1, s1.heap.objs.size + 2], _, _, H1, rfl, I2, turn_zip3 (apart3 s1.heap.objs.size a b c la lb lc), ⟨hz, hTI, ⟨_, _, _, hTO⟩, ⟨_, h1, rfl, rfl⟩, ⟨_, h2, rfl, rfl⟩, ⟨_, h3, rfl, rfl⟩⟩, fun d hdm => ?_, q⟩
  have e' : d = s1.heap.objs.size + 5 ∨ d = s1.heap.objs.size + 3 ∨ d = s1.heap.objs.size + 4 ∨ d = s1.heap.objs.size ∨ d = s1.heap.objs.size + 1 ∨ d = s1.heap.objs.size + 2 := by simpa using hdm
  have hle : s1.heap.objs.size ≤ d := by
    rcases e' with z | z | z | z | z | z <;> rw [z] <;> first | exact Nat.le_add_right _ _ | exact Nat.le_refl _
  exact I1.fpOk hle (I1.hok.fresh hle)
end SqX
end
section
set_option Elab.async false
set_option maxRecDepth 100000
set_option maxHeartbeats 2000000
/-! Words: what the text has, calls by contracts, heaps. -/
namespace Sq
open PySem PySem.Spec PyProof.Rows L2 SqX LamX
def topS (i : Nat) : Stmt := PySem.Challenge.pw_onepacking_s01_answers.main.body.getD i (.Pass ⟨0, 0, 0, 0⟩)
structure CA where
  NoCodedBlock : Addr
  BitReader : Addr
  Tails : Addr
  RowReader : Addr
  Answer : Addr
  Handed : Addr
  Refusal : Addr
  BeyondText : Addr
  TooLong : Addr
  NoPackedRow : Addr
  PackedOtherwise : Addr
  Packing : Addr
  States : Addr
  TooOften : Addr
  NoState : Addr
  NotBegun : Addr
structure Tx (K : PySem.W.Frag) (mg : Str → Option Value) (c : CA) : Prop where
  range : mg "range" = none
  len : mg "len" = none
  enumerate : mg "enumerate" = none
  sorted : mg "sorted" = none
  reversed : mg "reversed" = none
  zip : mg "zip" = none
  min : mg "min" = none
  max : mg "max" = none
  sum : mg "sum" = none
  any : mg "any" = none
  list : mg "list" = none
  tuple : mg "tuple" = none
  dict : mg "dict" = none
  LONGEST_WORD : ∃ t, mg "LONGEST_WORD" = some (.int 15 t)
  SHORTEST_MATCH : ∃ t, mg "SHORTEST_MATCH" = some (.int 3 t)
  LONGEST_MATCH : ∃ t, mg "LONGEST_MATCH" = some (.int 258 t)
  LETTER_COST : ∃ t, mg "LETTER_COST" = some (.int 8 t)
  MATCH_COST : ∃ t, mg "MATCH_COST" = some (.int 12 t)
  COST_UNIT : ∃ t, mg "COST_UNIT" = some (.int 2048 t)
  LEVELS : ∃ t, mg "LEVELS" = some (.int 8 t)
  LETTERS : ∃ t, mg "LETTERS" = some (.int 256 t)
  SYMBOLS : ∃ t, mg "SYMBOLS" = some (.int 265 t)
  DISTANCE_CLASSES : ∃ t, mg "DISTANCE_CLASSES" = some (.int 11 t)
  LONGEST_RUN : ∃ t, mg "LONGEST_RUN" = some (.int 256 t)
  SIZE_WIDTH : ∃ t, mg "SIZE_WIDTH" = some (.int 10 t)
  LENGTH_WIDTH : ∃ t, mg "LENGTH_WIDTH" = some (.int 4 t)
  RUN_WIDTH : ∃ t, mg "RUN_WIDTH" = some (.int 8 t)
  BLOCK_SIZE : ∃ t, mg "BLOCK_SIZE" = some (.int 1024 t)
  COUNT_OCTETS : ∃ t, mg "COUNT_OCTETS" = some (.int 4 t)
  SIZE_OCTETS : ∃ t, mg "SIZE_OCTETS" = some (.int 8 t)
  STORED : ∃ t, mg "STORED" = some (.int 0 t)
  CODED : ∃ t, mg "CODED" = some (.int 1 t)
  ENDS : ∃ t, mg "ENDS" = some (.int 1 t)
  NOT_SO : ∃ t, mg "NOT_SO" = some (.int 2 t)
  COUNT_OFF : ∃ t, mg "COUNT_OFF" = some (.int 3 t)
  LEFT_OVER : ∃ t, mg "LEFT_OVER" = some (.int 4 t)
  BITS_OFF : ∃ t, mg "BITS_OFF" = some (.int 5 t)
  MOST_TEXT : ∃ t, mg "MOST_TEXT" = some (.int 65536 t)
  MOST_ROW : ∃ t, mg "MOST_ROW" = some (.int 131072 t)
  PACK : ∃ t, mg "PACK" = some (.int 0 t)
  UNPACK : ∃ t, mg "UNPACK" = some (.int 1 t)
  AT : ∃ t, mg "AT" = some (.int 2 t)
  JUDGE : ∃ t, mg "JUDGE" = some (.int 3 t)
  LENGTH : ∃ t, mg "LENGTH" = some (.int 4 t)
  PARSE : ∃ t, mg "PARSE" = some (.int 5 t)
  LENGTHS : ∃ t, mg "LENGTHS" = some (.int 6 t)
  BEGIN : ∃ t, mg "BEGIN" = some (.int 7 t)
  FEED : ∃ t, mg "FEED" = some (.int 8 t)
  END : ∃ t, mg "END" = some (.int 9 t)
  MOST_OFTEN : ∃ t, mg "MOST_OFTEN" = some (.int 32768 t)
  MOST_OFTEN_IN_SUM : ∃ t, mg "MOST_OFTEN_IN_SUM" = some (.int 65536 t)
  HIGHEST_STATE : ∃ t, mg "HIGHEST_STATE" = some (.int 3 t)
  MARK : ∃ a, mg "MARK" = some (.ref a) ∧ ∀ H, SqT K H a [.int 83, .int 87, .int 90, .int 49]
  g_BitReader : mg "BitReader" = some (.ref c.BitReader)
  c_BitReader : Cls K c.BitReader
  n_BitReader_bits : NoAttr K c.BitReader "bits"
  n_BitReader_taken : NoAttr K c.BitReader "taken"
  g_Tails : mg "Tails" = some (.ref c.Tails)
  c_Tails : Cls K c.Tails
  n_Tails_levels : NoAttr K c.Tails "levels"
  n_Tails_size : NoAttr K c.Tails "size"
  g_RowReader : mg "RowReader" = some (.ref c.RowReader)
  c_RowReader : Cls K c.RowReader
  n_RowReader_row : NoAttr K c.RowReader "row"
  n_RowReader_part_start : NoAttr K c.RowReader "part_start"
  n_RowReader_part_stop : NoAttr K c.RowReader "part_stop"
  n_RowReader_reached : NoAttr K c.RowReader "reached"
  n_RowReader_text_size : NoAttr K c.RowReader "text_size"
  n_RowReader_blocks : NoAttr K c.RowReader "blocks"
  n_RowReader_part : NoAttr K c.RowReader "part"
  g_Answer : mg "Answer" = some (.ref c.Answer)
  c_Answer : Cls K c.Answer
  n_Answer_number : NoAttr K c.Answer "number"
  n_Answer_octets : NoAttr K c.Answer "octets"
  n_Answer_figures : NoAttr K c.Answer "figures"
  g_Handed : mg "Handed" = some (.ref c.Handed)
  c_Handed : Cls K c.Handed
  n_Handed_numbers : NoAttr K c.Handed "numbers"
  n_Handed_reached : NoAttr K c.Handed "reached"
  g_Packing : mg "Packing" = some (.ref c.Packing)
  c_Packing : Cls K c.Packing
  n_Packing_size : NoAttr K c.Packing "size"
  n_Packing_waiting : NoAttr K c.Packing "waiting"
  n_Packing_upcoming : NoAttr K c.Packing "upcoming"
  n_Packing_known : NoAttr K c.Packing "known"
  g_States : mg "States" = some (.ref c.States)
  c_States : Cls K c.States
  n_States_packings : NoAttr K c.States "packings"
  g_NoCodedBlock : mg "NoCodedBlock" = some (.ref c.NoCodedBlock)
  x_NoCodedBlock : PySem.W.excIn K c.NoCodedBlock [.type "ValueError", .type "Exception", .type "BaseException", .type "object"] "ValueError.__new__" = true
  k_NoCodedBlock : PySem.W.keepIn K (.ref c.NoCodedBlock) = true
  b_NoCodedBlock : PySem.W.subIn K (.ref c.NoCodedBlock) (.type "BaseException") = some true
  t_NoCodedBlock : PySem.W.typeIn K (.ref c.NoCodedBlock) = some (.type "type")
  e_NoCodedBlock : PySem.W.exmOne K (.ref c.NoCodedBlock) (.ref c.NoCodedBlock) = some true
  g_Refusal : mg "Refusal" = some (.ref c.Refusal)
  g_BeyondText : mg "BeyondText" = some (.ref c.BeyondText)
  o_BeyondText : OexC K c.BeyondText
  n_BeyondText_number : PySem.W.findIn K (.ref c.BeyondText) "number" = some none
  n_BeyondText_kind : PySem.W.findIn K (.ref c.BeyondText) "kind" = some none
  n_BeyondText_place : PySem.W.findIn K (.ref c.BeyondText) "place" = some none
  e_BeyondText : PySem.W.exmOne K (.ref c.BeyondText) (.ref c.Refusal) = some true
  x_BeyondText : XfC K c.BeyondText
  f_BeyondText : PySem.W.exmOne K (.ref c.BeyondText) (.ref c.NoCodedBlock) = some false
  g_TooLong : mg "TooLong" = some (.ref c.TooLong)
  o_TooLong : OexC K c.TooLong
  n_TooLong_number : PySem.W.findIn K (.ref c.TooLong) "number" = some none
  n_TooLong_kind : PySem.W.findIn K (.ref c.TooLong) "kind" = some none
  n_TooLong_place : PySem.W.findIn K (.ref c.TooLong) "place" = some none
  e_TooLong : PySem.W.exmOne K (.ref c.TooLong) (.ref c.Refusal) = some true
  x_TooLong : XfC K c.TooLong
  f_TooLong : PySem.W.exmOne K (.ref c.TooLong) (.ref c.NoCodedBlock) = some false
  g_NoPackedRow : mg "NoPackedRow" = some (.ref c.NoPackedRow)
  o_NoPackedRow : OexC K c.NoPackedRow
  n_NoPackedRow_number : PySem.W.findIn K (.ref c.NoPackedRow) "number" = some none
  n_NoPackedRow_kind : PySem.W.findIn K (.ref c.NoPackedRow) "kind" = some none
  n_NoPackedRow_place : PySem.W.findIn K (.ref c.NoPackedRow) "place" = some none
  e_NoPackedRow : PySem.W.exmOne K (.ref c.NoPackedRow) (.ref c.Refusal) = some true
  x_NoPackedRow : XfC K c.NoPackedRow
  f_NoPackedRow : PySem.W.exmOne K (.ref c.NoPackedRow) (.ref c.NoCodedBlock) = some false
  g_TooOften : mg "TooOften" = some (.ref c.TooOften)
  o_TooOften : OexC K c.TooOften
  n_TooOften_number : PySem.W.findIn K (.ref c.TooOften) "number" = some none
  n_TooOften_kind : PySem.W.findIn K (.ref c.TooOften) "kind" = some none
  n_TooOften_place : PySem.W.findIn K (.ref c.TooOften) "place" = some none
  e_TooOften : PySem.W.exmOne K (.ref c.TooOften) (.ref c.Refusal) = some true
  x_TooOften : XfC K c.TooOften
  f_TooOften : PySem.W.exmOne K (.ref c.TooOften) (.ref c.NoCodedBlock) = some false
  g_NoState : mg "NoState" = some (.ref c.NoState)
  o_NoState : OexC K c.NoState
  n_NoState_number : PySem.W.findIn K (.ref c.NoState) "number" = some none
  n_NoState_kind : PySem.W.findIn K (.ref c.NoState) "kind" = some none
  n_NoState_place : PySem.W.findIn K (.ref c.NoState) "place" = some none
  e_NoState : PySem.W.exmOne K (.ref c.NoState) (.ref c.Refusal) = some true
  x_NoState : XfC K c.NoState
  f_NoState : PySem.W.exmOne K (.ref c.NoState) (.ref c.NoCodedBlock) = some false
  g_NotBegun : mg "NotBegun" = some (.ref c.NotBegun)
  o_NotBegun : OexC K c.NotBegun
  n_NotBegun_number : PySem.W.findIn K (.ref c.NotBegun) "number" = some none
  n_NotBegun_kind : PySem.W.findIn K (.ref c.NotBegun) "kind" = some none
  n_NotBegun_place : PySem.W.findIn K (.ref c.NotBegun) "place" = some none
  e_NotBegun : PySem.W.exmOne K (.ref c.NotBegun) (.ref c.Refusal) = some true
  x_NotBegun : XfC K c.NotBegun
  f_NotBegun : PySem.W.exmOne K (.ref c.NotBegun) (.ref c.NoCodedBlock) = some false
  g_PackedOtherwise : mg "PackedOtherwise" = some (.ref c.PackedOtherwise)
  o_PackedOtherwise : OexC K c.PackedOtherwise
  n_PackedOtherwise_number : PySem.W.findIn K (.ref c.PackedOtherwise) "number" = some none
  n_PackedOtherwise_kind : PySem.W.findIn K (.ref c.PackedOtherwise) "kind" = some none
  n_PackedOtherwise_place : PySem.W.findIn K (.ref c.PackedOtherwise) "place" = some none
  e_PackedOtherwise : PySem.W.exmOne K (.ref c.PackedOtherwise) (.ref c.Refusal) = some true
  x_PackedOtherwise : XfC K c.PackedOtherwise
  f_PackedOtherwise : PySem.W.exmOne K (.ref c.PackedOtherwise) (.ref c.NoCodedBlock) = some false

/-! ### constants -/
section
variable {X : Cx} {x : Str} {pos : Pos}
theorem pe_gI {n : Int} (hg : Gl X x) (h : ∃ t, X.mg x = some (.int n t)) (hd : (x == ("__debug__" : Str)) = false := by decide) : PE X (.Name x pos) (tC (.int n)) := by
  obtain ⟨t, h⟩ := h
  exact pe_glob hg h ⟨t, rfl⟩ hd
/-- a tuple of the text -/
def tGT (K : PySem.W.Frag) (xs : List V) : TE := fun _ H Q => ∀ a, (∀ H, SqT K H a xs) → Q (.ref a) H
theorem pe_gT {xs : List V} (hg : Gl X x) (h : ∃ a, X.mg x = some (.ref a) ∧ ∀ H, SqT X.K H a xs) (hd : (x == ("__debug__" : Str)) = false := by decide) : PE X (.Name x pos) (tGT X.K xs) := by
  obtain ⟨a, h, hs⟩ := h
  refine ⟨fun pins s σ H Q I q => ?_⟩
  exact (pe_glob (v := .ref a) hg h rfl hd).run pins s σ H Q I (q a hs)
end
/-! ### defs by their contracts -/
section
variable (P : Program) (w : World) (K : PySem.W.Frag) (mg : Str → Option Value) (base : Heap) (CX : CXT)
structure Hd (k : Nat) (x : Str) (ps : List Str) (sp : Sp) : Prop where
  ex : ∃ f fd, mg x = some (.ref f) ∧ PySem.W.keepIn K (.ref f) = true ∧ Binds K fd ps [] ∧ FnOk P w K mg base CX k f fd ps sp
structure Hm (k : Nat) (C : Addr) (m : Str) (ps : List Str) (sp : Sp) : Prop where
  ex : ∃ f fd, Meth K C m f ∧ Binds K fd ps [] ∧ FnOk P w K mg base CX k f fd ps sp
structure Hc (k : Nat) (x : Str) (C : Addr) (ps : List Str) (sp : Sp) : Prop where
  ex : ∃ f fd, mg x = some (.ref C) ∧ Mk K C f ∧ Binds K fd ps [] ∧ FnOk P w K mg base CX k f fd ps sp
/-- an own exception class with an __init__ -/
structure He (k : Nat) (x : Str) (C : Addr) (ps : List Str) (sp : Sp) : Prop where
  ex : ∃ f fd, mg x = some (.ref C) ∧ OexC K C ∧ PySem.W.findIn K (.ref C) "__init__" = some (some (.ref f)) ∧ PySem.W.typeIn K (.ref f) = some (.type "function") ∧ Binds K fd ps [] ∧ FnOk P w K mg base CX k f fd ps sp
end
section
variable {X : Cx} {CX : CXT} {x m : Str} {C : Addr} {k : Nat} {ps : List Str} {sp : Sp} {E : XK} {e o : Expr} {es : List Expr} {t : TA} {ta : TE} {p pos apos : Pos}
theorem pe_cd (G : Hd X.prog X.w X.K X.mg X.base CX k x ps sp) (hr : Room k X.A) (hx : Passes CX X E) (ha : PA X (e :: es) t) (hg : Gl X x := by rfl) (hdb : (x == ("__debug__" : Str)) = false := by decide)
    (he : starEach (e :: es) X.env = (false, eval e X.env) :: starEach es X.env := by rfl) (hpl : (backTo pos (starEach es X.env)).any (·.1) = false := by rfl) :
    PE X (.Call (.Name x p) (e :: es) [] pos) (tCall sp [] E t) := by
  obtain ⟨f, fd, h1, h2, h3, F⟩ := G.ex
  exact pe_call F hr hg h1 h2 h3 .nil hx ha hdb he hpl
theorem pe_cd0 (G : Hd X.prog X.w X.K X.mg X.base CX k x ps sp) (hr : Room k X.A) (hx : Passes CX X E) (hg : Gl X x := by rfl) (hdb : (x == ("__debug__" : Str)) = false := by decide) :
    PE X (.Call (.Name x p) [] [] pos) (tCall sp [] E tNil) := by
  obtain ⟨f, fd, h1, h2, h3, F⟩ := G.ex
  exact pe_call0 F hr hg h1 h2 h3 .nil hx hdb
theorem pe_cdS {E : L2.St → XK} (G : Hd X.prog X.w X.K X.mg X.base CX k x ps sp) (hr : Room k X.A) (hx : ∀ σ, PassesAt CX X σ (E σ)) (ha : PA X (e :: es) t) (hg : Gl X x := by rfl) (hdb : (x == ("__debug__" : Str)) = false := by decide)
    (he : starEach (e :: es) X.env = (false, eval e X.env) :: starEach es X.env := by rfl) (hpl : (backTo pos (starEach es X.env)).any (·.1) = false := by rfl) :
    PE X (.Call (.Name x p) (e :: es) [] pos) (tCallS sp E t) := by
  obtain ⟨f, fd, h1, h2, h3, F⟩ := G.ex
  exact pe_callS F hr hg h1 h2 h3 hx ha hdb he hpl
theorem pe_md {pl : Sem Bool} (c : Cls X.K C) (G : Hm X.prog X.w X.K X.mg X.base CX k C m ps sp) (hr : Room k X.A) (hx : Passes CX X E) (he : PE X o ta) (ha : PA X (e :: es) t)
    (hst : starEach (e :: es) X.env = (false, eval e X.env) :: starEach es X.env := by rfl) (hpl : (backTo pos (starEach es X.env)).any (·.1) = false := by rfl)
    (ht : eval (.Call (.Attribute o m apos) (e :: es) [] pos) X.env = (do
      let ov ← eval o X.env
      standAt apos.atName
      let (f, first) ← holding [ov] (getMethod ov m pl)
      callWith pos f first (backTo pos (starEach (e :: es) X.env)) (backToKw pos (keywordEach [] X.env))) := by rfl) :
    PE X (.Call (.Attribute o m apos) (e :: es) [] pos) (tMeth C m sp [] E ta t) := by
  obtain ⟨f, fd, h1, h2, F⟩ := G.ex
  exact pe_meth he c h1 F hr h2 .nil hx ha hst hpl ht
theorem pe_md0 {pl : Sem Bool} (c : Cls X.K C) (G : Hm X.prog X.w X.K X.mg X.base CX k C m ps sp) (hr : Room k X.A) (hx : Passes CX X E) (he : PE X o ta)
    (ht : eval (.Call (.Attribute o m apos) [] [] pos) X.env = (do
      let ov ← eval o X.env
      standAt apos.atName
      let (f, first) ← holding [ov] (getMethod ov m pl)
      callWith pos f first (backTo pos (starEach [] X.env)) (backToKw pos (keywordEach [] X.env))) := by rfl) :
    PE X (.Call (.Attribute o m apos) [] [] pos) (tMeth C m sp [] E ta tNil) := by
  obtain ⟨f, fd, h1, h2, F⟩ := G.ex
  exact pe_meth0 he c h1 F hr h2 .nil hx ht
theorem pe_mkd (G : Hc X.prog X.w X.K X.mg X.base CX k x C ps sp) (hr : Room (k + 1) X.A) (hx : Passes CX X E) (ha : PA X (e :: es) t) (hg : Gl X x := by rfl) (hdb : (x == ("__debug__" : Str)) = false := by decide)
    (he : starEach (e :: es) X.env = (false, eval e X.env) :: starEach es X.env := by rfl) (hpl : (backTo pos (starEach es X.env)).any (·.1) = false := by rfl) :
    PE X (.Call (.Name x p) (e :: es) [] pos) (tMake C sp [] E t) := by
  obtain ⟨f, fd, h1, M, h3, F⟩ := G.ex
  exact pe_make M F hr hg h1 h3 .nil hx ha hdb he hpl
theorem passN0 : Passes (L2N.CX X.prog X.w) X E0 := fun _ _ _ _ _ _ _ h => by
  obtain ⟨_, _, _, _, _, _, _, _, _, _, _, _, z⟩ := h
  exact z.elim
theorem pmk_exd (G : He X.prog X.w X.K X.mg X.base CX0 k x C ps sp) (hr : Room (k + 1) X.A) (ha : PA X (e :: es) t) (hg : Gl X x := by rfl) (hdb : (x == ("__debug__" : Str)) = false := by decide)
    (he : starEach (e :: es) X.env = (false, eval e X.env) :: starEach es X.env := by rfl) (hpl : (backTo pos (starEach es X.env)).any (·.1) = false := by rfl) :
    PMk X (.Call (.Name x p) (e :: es) [] pos) (tMkO C sp [] t) := by
  obtain ⟨f, fd, h1, h2, h3, h4, h5, F⟩ := G.ex
  exact pmk_oex h2 h3 h4 F hr h5 .nil pass0 hg h1 ha hdb he hpl
theorem pmk_exd0 (G : He X.prog X.w X.K X.mg X.base CX0 k x C ps sp) (hr : Room (k + 1) X.A) (hg : Gl X x := by rfl) (hdb : (x == ("__debug__" : Str)) = false := by decide) :
    PMk X (.Call (.Name x p) [] [] pos) (tMkO0 C sp) := by
  obtain ⟨f, fd, h1, h2, h3, h4, h5, F⟩ := G.ex
  exact pmk_oex0 h2 h3 h4 F hr h5 pass0 hg h1 hdb
end
/-! ### ints as naturals -/
theorem and_nn (x y : Nat) : Builtin.bitAnd (x : Int) (y : Int) = ((x &&& y : Nat) : Int) := by
  first | rfl | simp [Builtin.bitAnd]
theorem or_nn (x y : Nat) : Builtin.bitOr (x : Int) (y : Int) = ((x ||| y : Nat) : Int) := Bits.bitOr_pp (Int.natCast_nonneg x) (Int.natCast_nonneg y)
theorem shr_nn (x : Nat) (k : Nat) : (x : Int) / 2 ^ k = ((x >>> k : Nat) : Int) := by
  rw [Nat.shiftRight_eq_div_pow]
  simp
theorem shl_nn (x : Nat) (k : Nat) : (x : Int) * 2 ^ k = ((x <<< k : Nat) : Int) := by
  rw [Nat.shiftLeft_eq]
  simp
theorem bits_nn (x : Nat) : Builtin.Int.intBits (x : Int) = if x = 0 then 0 else Nat.log2 x + 1 := by
  unfold Builtin.Int.intBits
  by_cases h : x = 0
  · subst h; rfl
  · rw [if_neg (by simp; omega), if_neg h]; rfl
def bI (b : Bool) : Int := cond b 1 0
def bV (b : Bool) : V := .int (bI b)
theorem and_one (x : Nat) : x &&& 1 = cond (x.testBit 0) 1 0 := by
  rw [Nat.and_one_is_mod, Nat.testBit_zero]
  rcases Nat.mod_two_eq_zero_or_one x with h | h <;> simp [h]
theorem bit_of (x k : Nat) : Builtin.bitAnd ((x : Int) / 2 ^ k) 1 = bI (x.testBit k) := by
  rw [shr_nn, show (1 : Int) = ((1 : Nat) : Int) from rfl, and_nn, and_one, Nat.testBit_shiftRight]
  unfold bI
  rw [Nat.add_zero]
  cases x.testBit k <;> rfl
theorem bI_or {b : Bool} {n k : Nat} (h : n < 2 ^ k) : Builtin.bitOr (n : Int) (bI b * 2 ^ k) = ((n + cond b (2 ^ k) 0 : Nat) : Int) := by
  cases b with
  | false => 
    have e : bI false * 2 ^ k = ((0 : Nat) : Int) := by simp [bI]
    rw [e, or_nn]; simp
  | true =>
    have e : bI true * 2 ^ k = ((2 ^ k : Nat) : Int) := by simp [bI]
    rw [e, or_nn]
    have := Nat.two_pow_add_eq_or_of_lt h 1
    simp only [cond]
    rw [Nat.mul_one] at this
    rw [Nat.or_comm, ← this, Nat.add_comm]
theorem bitsLow_succ (k n : Nat) : SwSqueeze.bitsLow (k + 1) n = SwSqueeze.bitsLow k n ++ [n.testBit k] := by
  unfold SwSqueeze.bitsLow
  rw [List.range_succ, List.map_append]; rfl
theorem bitsLow_length (k n : Nat) : (SwSqueeze.bitsLow k n).length = k := by simp [SwSqueeze.bitsLow]
theorem line_le {n : Nat} (h : n ≤ 16000000) : n ≤ sizeLine := by rw [sizeLine_eq]; omega
theorem line_lt {n : Nat} (h : n < 16000000) : n < sizeLine := by rw [sizeLine_eq]; omega
/-! ### heaps -/
theorem same_new {H : Hp} {p : Addr} {o : HO} (h : H p = none) : Same H (upd H p o) := fun b u e => by rw [upd_ne (ne_of_none e h)]; exact e
theorem same_upd {H H' : Hp} {p : Addr} {o : HO} (h : Same H H') (hp : H p = none) : Same H (upd H' p o) := fun b u e => by rw [upd_ne (ne_of_none e hp)]; exact h b u e
theorem same_made {H H' : Hp} {p : Addr} {o : HO} (h : Same H H') (hp : H' p = none) : Same H (upd H' p o) := same_upd h (h.free hp)
/-- all but the object at a stands -/
def SameBut (a : Addr) (H H' : Hp) : Prop := ∀ b o, b ≠ a → H b = some o → H' b = some o
def SameBut2 (a a2 : Addr) (H H' : Hp) : Prop := ∀ b o, b ≠ a → b ≠ a2 → H b = some o → H' b = some o
theorem lk_here {k : Str} {v : V} {r : List (Str × V)} : List.lookup k ((k, v) :: r) = some v := by
  have e : (k == k) = true := beq_self_eq_true k
  simp only [List.lookup, e]
theorem lk_past {k g : Str} {v : V} {r : List (Str × V)} (h : (k == g) = false) : List.lookup k ((g, v) :: r) = List.lookup k r := by
  simp only [List.lookup, h]
theorem put_here {f : Str} {v x : V} {r : List (Str × V)} : putF f v ((f, x) :: r) = (f, v) :: r := if_pos rfl
theorem put_past {f g : Str} {v x : V} {r : List (Str × V)} (h : ¬ g = f) : putF f v ((g, x) :: r) = (g, x) :: putF f v r := if_neg h
end Sq
end
section
set_option Elab.async false
set_option maxRecDepth 100000
set_option maxHeartbeats 2000000
/-! The defs of the text by places, their names. -/
namespace Sq
open PySem PySem.Spec PyProof.Rows L2
abbrev s_weight_of : Stmt := topS 2
theorem sc_weight_of : FnScope ["item"] ["item"] (defScope s_weight_of) := ⟨rfl, rfl, rfl, by decide +kernel, rfl, by decide +kernel, by decide +kernel⟩
abbrev s_is_leaf : Stmt := topS 3
theorem sc_is_leaf : FnScope ["item"] ["item"] (defScope s_is_leaf) := ⟨rfl, rfl, rfl, by decide +kernel, rfl, by decide +kernel, by decide +kernel⟩
abbrev s_row_behind : Stmt := topS 4
theorem sc_row_behind : FnScope ["leaves", "row", "packages", "k"] ["leaves", "row"] (defScope s_row_behind) := ⟨rfl, rfl, rfl, by decide +kernel, rfl, by decide +kernel, by decide +kernel⟩
abbrev s_leaf_counts : Stmt := topS 5
theorem sc_leaf_counts : FnScope ["leaves", "rows", "counts", "wanted", "row", "alone", "item"] ["leaves"] (defScope s_leaf_counts) := ⟨rfl, rfl, rfl, by decide +kernel, rfl, by decide +kernel, by decide +kernel⟩
abbrev s_code_lengths : Stmt := topS 6
theorem sc_code_lengths : FnScope ["often", "lengths", "symbols", "symbol", "times", "alone"] ["often"] (defScope s_code_lengths) := ⟨rfl, rfl, rfl, by decide +kernel, rfl, by decide +kernel, by decide +kernel⟩
abbrev s_codewords : Stmt := topS 7
theorem sc_codewords : FnScope ["lengths", "words", "symbols", "symbol", "length", "upcoming", "before"] ["lengths"] (defScope s_codewords) := ⟨rfl, rfl, rfl, by decide +kernel, rfl, by decide +kernel, by decide +kernel⟩
abbrev s_is_whole : Stmt := topS 8
theorem sc_is_whole : FnScope ["lengths", "told", "length"] ["lengths"] (defScope s_is_whole) := ⟨rfl, rfl, rfl, by decide +kernel, rfl, by decide +kernel, by decide +kernel⟩
abbrev s_low_first : Stmt := topS 11
theorem sc_low_first : FnScope ["number", "width", "shift"] ["number", "width"] (defScope s_low_first) := ⟨rfl, rfl, rfl, by decide +kernel, rfl, by decide +kernel, by decide +kernel⟩
abbrev s_high_first : Stmt := topS 12
theorem sc_high_first : FnScope ["number", "width", "shift"] ["number", "width"] (defScope s_high_first) := ⟨rfl, rfl, rfl, by decide +kernel, rfl, by decide +kernel, by decide +kernel⟩
abbrev s_octets_of : Stmt := topS 13
theorem sc_octets_of : FnScope ["bits", "octets", "start", "octet", "shift", "bit"] ["bits"] (defScope s_octets_of) := ⟨rfl, rfl, rfl, by decide +kernel, rfl, by decide +kernel, by decide +kernel⟩
abbrev s_BitReader_init : Stmt := inClass (topS 14) 0
theorem sc_BitReader_init : FnScope ["self", "octets", "octet"] ["self", "octets"] (defScope s_BitReader_init) := ⟨rfl, rfl, rfl, by decide +kernel, rfl, by decide +kernel, by decide +kernel⟩
abbrev s_BitReader_take_bit : Stmt := inClass (topS 14) 1
theorem sc_BitReader_take_bit : FnScope ["self"] ["self"] (defScope s_BitReader_take_bit) := ⟨rfl, rfl, rfl, by decide +kernel, rfl, by decide +kernel, by decide +kernel⟩
abbrev s_BitReader_take_number : Stmt := inClass (topS 14) 2
theorem sc_BitReader_take_number : FnScope ["self", "width", "number", "shift"] ["self", "width"] (defScope s_BitReader_take_number) := ⟨rfl, rfl, rfl, by decide +kernel, rfl, by decide +kernel, by decide +kernel⟩
abbrev s_BitReader_bits_left : Stmt := inClass (topS 14) 3
theorem sc_BitReader_bits_left : FnScope ["self"] ["self"] (defScope s_BitReader_bits_left) := ⟨rfl, rfl, rfl, by decide +kernel, rfl, by decide +kernel, by decide +kernel⟩
abbrev s_class_of : Stmt := topS 16
theorem sc_class_of : FnScope ["number"] ["number"] (defScope s_class_of) := ⟨rfl, rfl, rfl, by decide +kernel, rfl, by decide +kernel, by decide +kernel⟩
abbrev s_further_width : Stmt := topS 17
theorem sc_further_width : FnScope ["kind"] ["kind"] (defScope s_further_width) := ⟨rfl, rfl, rfl, by decide +kernel, rfl, by decide +kernel, by decide +kernel⟩
abbrev s_class_start : Stmt := topS 18
theorem sc_class_start : FnScope ["kind"] ["kind"] (defScope s_class_start) := ⟨rfl, rfl, rfl, by decide +kernel, rfl, by decide +kernel, by decide +kernel⟩
abbrev s_alike_levels : Stmt := topS 22
theorem sc_alike_levels : FnScope ["text", "where", "place", "letter", "single", "level", "a", "b", "c", "levels", "width"] ["text"] (defScope s_alike_levels) := ⟨rfl, rfl, rfl, by decide +kernel, rfl, by decide +kernel, by decide +kernel⟩
abbrev s_nearest_before : Stmt := topS 23
theorem sc_nearest_before : FnScope ["levels", "place", "length", "number", "alike", "shift", "places"] ["levels", "place", "length"] (defScope s_nearest_before) := ⟨rfl, rfl, rfl, by decide +kernel, rfl, by decide +kernel, by decide +kernel⟩
abbrev s_same_until : Stmt := topS 24
theorem sc_same_until : FnScope ["text", "place", "distance"] ["text", "place", "distance"] (defScope s_same_until) := ⟨rfl, rfl, rfl, by decide +kernel, rfl, by decide +kernel, by decide +kernel⟩
abbrev s_matches_at : Stmt := topS 25
theorem sc_matches_at : FnScope ["text", "levels", "ends", "place", "most", "found", "length", "before", "distance", "longest"] ["text", "levels", "ends", "place"] (defScope s_matches_at) := ⟨rfl, rfl, rfl, by decide +kernel, rfl, by decide +kernel, by decide +kernel⟩
abbrev s_block_matches : Stmt := topS 26
theorem sc_block_matches : FnScope ["text", "levels", "ends", "place"] ["text"] (defScope s_block_matches) := ⟨rfl, rfl, rfl, by decide +kernel, rfl, by decide +kernel, by decide +kernel⟩
abbrev s_Tails_init : Stmt := inClass (topS 32) 0
theorem sc_Tails_init : FnScope ["self", "size", "level"] ["self", "size"] (defScope s_Tails_init) := ⟨rfl, rfl, rfl, by decide +kernel, rfl, by decide +kernel, by decide +kernel⟩
abbrev s_Tails_tell : Stmt := inClass (topS 32) 1
theorem sc_Tails_tell : FnScope ["self", "place", "cost", "least", "width", "level"] ["self", "place", "cost"] (defScope s_Tails_tell) := ⟨rfl, rfl, rfl, by decide +kernel, rfl, by decide +kernel, by decide +kernel⟩
abbrev s_Tails_least : Stmt := inClass (topS 32) 2
theorem sc_Tails_least : FnScope ["self", "first", "last", "number", "level"] ["self", "first", "last"] (defScope s_Tails_least) := ⟨rfl, rfl, rfl, by decide +kernel, rfl, by decide +kernel, by decide +kernel⟩
abbrev s_first_step : Stmt := topS 33
theorem sc_first_step : FnScope ["tails", "letter", "found", "place", "step", "best", "length", "distance", "longest", "distance_cost", "kind", "last", "cost", "total"] ["tails", "letter", "found", "place"] (defScope s_first_step) := ⟨rfl, rfl, rfl, by decide +kernel, rfl, by decide +kernel, by decide +kernel⟩
abbrev s_block_parse : Stmt := topS 34
theorem sc_block_parse : FnScope ["text", "matches", "tails", "steps", "place", "best", "parse"] ["text"] (defScope s_block_parse) := ⟨rfl, rfl, rfl, by decide +kernel, rfl, by decide +kernel, by decide +kernel⟩
abbrev s_symbol_of : Stmt := topS 43
theorem sc_symbol_of : FnScope ["step"] ["step"] (defScope s_symbol_of) := ⟨rfl, rfl, rfl, by decide +kernel, rfl, by decide +kernel, by decide +kernel⟩
abbrev s_further_bits : Stmt := topS 44
theorem sc_further_bits : FnScope ["number"] ["number"] (defScope s_further_bits) := ⟨rfl, rfl, rfl, by decide +kernel, rfl, by decide +kernel, by decide +kernel⟩
abbrev s_run_of_noughts : Stmt := topS 45
theorem sc_run_of_noughts : FnScope ["lengths", "start", "stop"] ["lengths", "start"] (defScope s_run_of_noughts) := ⟨rfl, rfl, rfl, by decide +kernel, rfl, by decide +kernel, by decide +kernel⟩
abbrev s_length_bits : Stmt := topS 46
theorem sc_length_bits : FnScope ["lengths", "bits", "place", "run"] ["lengths"] (defScope s_length_bits) := ⟨rfl, rfl, rfl, by decide +kernel, rfl, by decide +kernel, by decide +kernel⟩
abbrev s_parse_bits : Stmt := topS 47
theorem sc_parse_bits : FnScope ["parse", "lengths", "distance_lengths", "words", "distance_words", "bits", "step", "symbol", "kind"] ["parse", "lengths", "distance_lengths"] (defScope s_parse_bits) := ⟨rfl, rfl, rfl, by decide +kernel, rfl, by decide +kernel, by decide +kernel⟩
abbrev s_coded : Stmt := topS 48
theorem sc_coded : FnScope ["text", "parse", "often", "distance_often", "step", "lengths", "distance_lengths", "bits"] ["text"] (defScope s_coded) := ⟨rfl, rfl, rfl, by decide +kernel, rfl, by decide +kernel, by decide +kernel⟩
abbrev s_take_lengths : Stmt := topS 49
theorem sc_take_lengths : FnScope ["reader", "lengths", "run", "length"] ["reader"] (defScope s_take_lengths) := ⟨rfl, rfl, rfl, by decide +kernel, rfl, by decide +kernel, by decide +kernel⟩
abbrev s_check_codes : Stmt := topS 50
theorem sc_check_codes : FnScope ["lengths", "distance_lengths"] ["lengths", "distance_lengths"] (defScope s_check_codes) := ⟨rfl, rfl, rfl, by decide +kernel, rfl, by decide +kernel, by decide +kernel⟩
abbrev s_symbols_by_word : Stmt := topS 51
theorem sc_symbols_by_word : FnScope ["lengths", "symbol", "word"] ["lengths"] (defScope s_symbols_by_word) := ⟨rfl, rfl, rfl, by decide +kernel, rfl, by decide +kernel, by decide +kernel⟩
abbrev s_take_symbol : Stmt := topS 52
theorem sc_take_symbol : FnScope ["reader", "symbols", "word", "length", "symbol"] ["reader", "symbols"] (defScope s_take_symbol) := ⟨rfl, rfl, rfl, by decide +kernel, rfl, by decide +kernel, by decide +kernel⟩
abbrev s_take_further : Stmt := topS 53
theorem sc_take_further : FnScope ["reader", "kind"] ["reader", "kind"] (defScope s_take_further) := ⟨rfl, rfl, rfl, by decide +kernel, rfl, by decide +kernel, by decide +kernel⟩
abbrev s_take_text : Stmt := topS 54
theorem sc_take_text : FnScope ["reader", "size", "symbols", "distance_symbols", "text", "symbol", "length", "distance", "first", "place"] ["reader", "size", "symbols", "distance_symbols"] (defScope s_take_text) := ⟨rfl, rfl, rfl, by decide +kernel, rfl, by decide +kernel, by decide +kernel⟩
abbrev s_coded_size : Stmt := topS 55
theorem sc_coded_size : FnScope ["octets"] ["octets"] (defScope s_coded_size) := ⟨rfl, rfl, rfl, by decide +kernel, rfl, by decide +kernel, by decide +kernel⟩
abbrev s_decoded : Stmt := topS 56
theorem sc_decoded : FnScope ["octets", "reader", "size", "lengths", "distance_lengths", "text", "behind"] ["octets"] (defScope s_decoded) := ⟨rfl, rfl, rfl, by decide +kernel, rfl, by decide +kernel, by decide +kernel⟩
abbrev s_octets_of_number : Stmt := topS 64
theorem sc_octets_of_number : FnScope ["number", "width"] ["number", "width"] (defScope s_octets_of_number) := ⟨rfl, rfl, rfl, by decide +kernel, rfl, by decide +kernel, by decide +kernel⟩
abbrev s_packed_block : Stmt := topS 65
theorem sc_packed_block : FnScope ["text", "kind", "behind"] ["text"] (defScope s_packed_block) := ⟨rfl, rfl, rfl, by decide +kernel, rfl, by decide +kernel, by decide +kernel⟩
abbrev s_packed_end : Stmt := topS 66
theorem sc_packed_end : FnScope ["size"] ["size"] (defScope s_packed_end) := ⟨rfl, rfl, rfl, by decide +kernel, rfl, by decide +kernel, by decide +kernel⟩
abbrev s_Packing_init : Stmt := inClass (topS 67) 0
theorem sc_Packing_init : FnScope ["self"] ["self"] (defScope s_Packing_init) := ⟨rfl, rfl, rfl, by decide +kernel, rfl, by decide +kernel, by decide +kernel⟩
abbrev s_Packing_add_block : Stmt := inClass (topS 67) 1
theorem sc_Packing_add_block : FnScope ["self", "text", "key"] ["self", "text"] (defScope s_Packing_add_block) := ⟨rfl, rfl, rfl, by decide +kernel, rfl, by decide +kernel, by decide +kernel⟩
abbrev s_Packing_add_text : Stmt := inClass (topS 67) 2
theorem sc_Packing_add_text : FnScope ["self", "octets", "text", "start"] ["self", "octets"] (defScope s_Packing_add_text) := ⟨rfl, rfl, rfl, by decide +kernel, rfl, by decide +kernel, by decide +kernel⟩
abbrev s_Packing_add_end : Stmt := inClass (topS 67) 3
theorem sc_Packing_add_end : FnScope ["self"] ["self"] (defScope s_Packing_add_end) := ⟨rfl, rfl, rfl, by decide +kernel, rfl, by decide +kernel, by decide +kernel⟩
abbrev s_Packing_give : Stmt := inClass (topS 67) 4
theorem sc_Packing_give : FnScope ["self", "given"] ["self"] (defScope s_Packing_give) := ⟨rfl, rfl, rfl, by decide +kernel, rfl, by decide +kernel, by decide +kernel⟩
abbrev s_packed : Stmt := topS 68
theorem sc_packed : FnScope ["text", "packing"] ["text"] (defScope s_packed) := ⟨rfl, rfl, rfl, by decide +kernel, rfl, by decide +kernel, by decide +kernel⟩
abbrev s_Refusal_init : Stmt := inClass (topS 70) 0
theorem sc_Refusal_init : FnScope ["self", "number", "kind", "place"] ["self", "number", "kind", "place"] (defScope s_Refusal_init) := ⟨rfl, rfl, rfl, by decide +kernel, rfl, by decide +kernel, by decide +kernel⟩
abbrev s_BeyondText_init : Stmt := inClass (topS 71) 0
theorem sc_BeyondText_init : FnScope ["self"] ["self"] (defScope s_BeyondText_init) := ⟨rfl, rfl, rfl, by decide +kernel, rfl, by decide +kernel, by decide +kernel⟩
abbrev s_TooOften_init : Stmt := inClass (topS 72) 0
theorem sc_TooOften_init : FnScope ["self"] ["self"] (defScope s_TooOften_init) := ⟨rfl, rfl, rfl, by decide +kernel, rfl, by decide +kernel, by decide +kernel⟩
abbrev s_NoState_init : Stmt := inClass (topS 73) 0
theorem sc_NoState_init : FnScope ["self"] ["self"] (defScope s_NoState_init) := ⟨rfl, rfl, rfl, by decide +kernel, rfl, by decide +kernel, by decide +kernel⟩
abbrev s_TooLong_init : Stmt := inClass (topS 74) 0
theorem sc_TooLong_init : FnScope ["self"] ["self"] (defScope s_TooLong_init) := ⟨rfl, rfl, rfl, by decide +kernel, rfl, by decide +kernel, by decide +kernel⟩
abbrev s_NotBegun_init : Stmt := inClass (topS 75) 0
theorem sc_NotBegun_init : FnScope ["self"] ["self"] (defScope s_NotBegun_init) := ⟨rfl, rfl, rfl, by decide +kernel, rfl, by decide +kernel, by decide +kernel⟩
abbrev s_NoPackedRow_init : Stmt := inClass (topS 76) 0
theorem sc_NoPackedRow_init : FnScope ["self", "kind", "place"] ["self", "kind", "place"] (defScope s_NoPackedRow_init) := ⟨rfl, rfl, rfl, by decide +kernel, rfl, by decide +kernel, by decide +kernel⟩
abbrev s_PackedOtherwise_init : Stmt := inClass (topS 77) 0
theorem sc_PackedOtherwise_init : FnScope ["self"] ["self"] (defScope s_PackedOtherwise_init) := ⟨rfl, rfl, rfl, by decide +kernel, rfl, by decide +kernel, by decide +kernel⟩
abbrev s_RowReader_init : Stmt := inClass (topS 84) 0
theorem sc_RowReader_init : FnScope ["self", "row", "part_start", "part_stop"] ["self", "row", "part_start", "part_stop"] (defScope s_RowReader_init) := ⟨rfl, rfl, rfl, by decide +kernel, rfl, by decide +kernel, by decide +kernel⟩
abbrev s_RowReader_read : Stmt := inClass (topS 84) 1
theorem sc_RowReader_read : FnScope ["self", "kind_place", "size", "count_place", "count"] ["self"] (defScope s_RowReader_read) := ⟨rfl, rfl, rfl, by decide +kernel, rfl, by decide +kernel, by decide +kernel⟩
abbrev s_RowReader_take : Stmt := inClass (topS 84) 2
theorem sc_RowReader_take : FnScope ["self", "count"] ["self", "count"] (defScope s_RowReader_take) := ⟨rfl, rfl, rfl, by decide +kernel, rfl, by decide +kernel, by decide +kernel⟩
abbrev s_RowReader_take_number : Stmt := inClass (topS 84) 3
theorem sc_RowReader_take_number : FnScope ["self", "width", "number", "shift", "octet"] ["self", "width"] (defScope s_RowReader_take_number) := ⟨rfl, rfl, rfl, by decide +kernel, rfl, by decide +kernel, by decide +kernel⟩
abbrev s_RowReader_read_mark : Stmt := inClass (topS 84) 4
theorem sc_RowReader_read_mark : FnScope ["self", "octet"] ["self"] (defScope s_RowReader_read_mark) := ⟨rfl, rfl, rfl, by decide +kernel, rfl, by decide +kernel, by decide +kernel⟩
abbrev s_RowReader_read_block : Stmt := inClass (topS 84) 5
theorem sc_RowReader_read_block : FnScope ["self", "octets", "kind_place", "kind", "behind", "size", "first", "last", "text"] ["self", "octets"] (defScope s_RowReader_read_block) := ⟨rfl, rfl, rfl, by decide +kernel, rfl, by decide +kernel, by decide +kernel⟩
abbrev s_RowReader_decoded_at : Stmt := inClass (topS 84) 6
theorem sc_RowReader_decoded_at : FnScope ["self", "behind", "kind_place"] ["self", "behind", "kind_place"] (defScope s_RowReader_decoded_at) := ⟨rfl, rfl, rfl, by decide +kernel, rfl, by decide +kernel, by decide +kernel⟩
abbrev s_RowReader_read_end : Stmt := inClass (topS 84) 7
theorem sc_RowReader_read_end : FnScope ["self", "size_place"] ["self"] (defScope s_RowReader_read_end) := ⟨rfl, rfl, rfl, by decide +kernel, rfl, by decide +kernel, by decide +kernel⟩
abbrev s_Answer_init : Stmt := inClass (topS 90) 0
theorem sc_Answer_init : FnScope ["self", "number", "octets", "figures"] ["self", "number", "octets", "figures"] (defScope s_Answer_init) := ⟨rfl, rfl, rfl, by decide +kernel, rfl, by decide +kernel, by decide +kernel⟩
abbrev s_read_part : Stmt := topS 91
theorem sc_read_part : FnScope ["row", "start", "stop", "reader"] ["row", "start", "stop"] (defScope s_read_part) := ⟨rfl, rfl, rfl, by decide +kernel, rfl, by decide +kernel, by decide +kernel⟩
abbrev s_read_text : Stmt := topS 92
theorem sc_read_text : FnScope ["row"] ["row"] (defScope s_read_text) := ⟨rfl, rfl, rfl, by decide +kernel, rfl, by decide +kernel, by decide +kernel⟩
abbrev s_pack : Stmt := topS 93
theorem sc_pack : FnScope ["text", "row"] ["text"] (defScope s_pack) := ⟨rfl, rfl, rfl, by decide +kernel, rfl, by decide +kernel, by decide +kernel⟩
abbrev s_unpack : Stmt := topS 94
theorem sc_unpack : FnScope ["row", "text"] ["row"] (defScope s_unpack) := ⟨rfl, rfl, rfl, by decide +kernel, rfl, by decide +kernel, by decide +kernel⟩
abbrev s_read_at : Stmt := topS 95
theorem sc_read_at : FnScope ["row", "start", "n", "reader"] ["row", "start", "n"] (defScope s_read_at) := ⟨rfl, rfl, rfl, by decide +kernel, rfl, by decide +kernel, by decide +kernel⟩
abbrev s_judge : Stmt := topS 96
theorem sc_judge : FnScope ["row"] ["row"] (defScope s_judge) := ⟨rfl, rfl, rfl, by decide +kernel, rfl, by decide +kernel, by decide +kernel⟩
abbrev s_tell_length : Stmt := topS 97
theorem sc_tell_length : FnScope ["row", "reader"] ["row"] (defScope s_tell_length) := ⟨rfl, rfl, rfl, by decide +kernel, rfl, by decide +kernel, by decide +kernel⟩
abbrev s_tell_parse : Stmt := topS 98
theorem sc_tell_parse : FnScope ["text", "parse", "figures", "step"] ["text"] (defScope s_tell_parse) := ⟨rfl, rfl, rfl, by decide +kernel, rfl, by decide +kernel, by decide +kernel⟩
abbrev s_tell_code : Stmt := topS 99
theorem sc_tell_code : FnScope ["often"] ["often"] (defScope s_tell_code) := ⟨rfl, rfl, rfl, by decide +kernel, rfl, by decide +kernel, by decide +kernel⟩
abbrev s_check_state : Stmt := topS 102
theorem sc_check_state : FnScope ["state"] ["state"] (defScope s_check_state) := ⟨rfl, rfl, rfl, by decide +kernel, rfl, by decide +kernel, by decide +kernel⟩
abbrev s_States_init : Stmt := inClass (topS 103) 0
theorem sc_States_init : FnScope ["self"] ["self"] (defScope s_States_init) := ⟨rfl, rfl, rfl, by decide +kernel, rfl, by decide +kernel, by decide +kernel⟩
abbrev s_States_packing_of : Stmt := inClass (topS 103) 1
theorem sc_States_packing_of : FnScope ["self", "state"] ["self", "state"] (defScope s_States_packing_of) := ⟨rfl, rfl, rfl, by decide +kernel, rfl, by decide +kernel, by decide +kernel⟩
abbrev s_States_begin : Stmt := inClass (topS 103) 2
theorem sc_States_begin : FnScope ["self", "state"] ["self", "state"] (defScope s_States_begin) := ⟨rfl, rfl, rfl, by decide +kernel, rfl, by decide +kernel, by decide +kernel⟩
abbrev s_States_feed : Stmt := inClass (topS 103) 3
theorem sc_States_feed : FnScope ["self", "state", "octets", "packing", "row"] ["self", "state", "octets"] (defScope s_States_feed) := ⟨rfl, rfl, rfl, by decide +kernel, rfl, by decide +kernel, by decide +kernel⟩
abbrev s_States_end : Stmt := inClass (topS 103) 4
theorem sc_States_end : FnScope ["self", "state", "packing", "row"] ["self", "state"] (defScope s_States_end) := ⟨rfl, rfl, rfl, by decide +kernel, rfl, by decide +kernel, by decide +kernel⟩
abbrev s_Handed_init : Stmt := inClass (topS 116) 0
theorem sc_Handed_init : FnScope ["self", "numbers"] ["self", "numbers"] (defScope s_Handed_init) := ⟨rfl, rfl, rfl, by decide +kernel, rfl, by decide +kernel, by decide +kernel⟩
abbrev s_Handed_has_more : Stmt := inClass (topS 116) 1
theorem sc_Handed_has_more : FnScope ["self"] ["self"] (defScope s_Handed_has_more) := ⟨rfl, rfl, rfl, by decide +kernel, rfl, by decide +kernel, by decide +kernel⟩
abbrev s_Handed_take : Stmt := inClass (topS 116) 2
theorem sc_Handed_take : FnScope ["self"] ["self"] (defScope s_Handed_take) := ⟨rfl, rfl, rfl, by decide +kernel, rfl, by decide +kernel, by decide +kernel⟩
abbrev s_Handed_take_row : Stmt := inClass (topS 116) 3
theorem sc_Handed_take_row : FnScope ["self", "size"] ["self"] (defScope s_Handed_take_row) := ⟨rfl, rfl, rfl, by decide +kernel, rfl, by decide +kernel, by decide +kernel⟩
abbrev s_answer_row : Stmt := topS 117
theorem sc_answer_row : FnScope ["call", "row"] ["call", "row"] (defScope s_answer_row) := ⟨rfl, rfl, rfl, by decide +kernel, rfl, by decide +kernel, by decide +kernel⟩
abbrev s_answer_next : Stmt := topS 118
theorem sc_answer_next : FnScope ["handed", "states", "call", "start", "n", "state"] ["handed", "states"] (defScope s_answer_next) := ⟨rfl, rfl, rfl, by decide +kernel, rfl, by decide +kernel, by decide +kernel⟩
abbrev s_next_numbers : Stmt := topS 119
theorem sc_next_numbers : FnScope ["handed", "states", "answer", "refusal", "octets", "figures"] ["handed", "states"] (defScope s_next_numbers) := ⟨rfl, rfl, rfl, by decide +kernel, rfl, by decide +kernel, by decide +kernel⟩
abbrev s_answers : Stmt := topS 120
theorem sc_answers : FnScope ["calls", "told", "handed", "states", "numbers"] ["calls"] (defScope s_answers) := ⟨rfl, rfl, rfl, by decide +kernel, rfl, by decide +kernel, by decide +kernel⟩
end Sq
end
section
set_option Elab.async false
set_option maxRecDepth 100000
set_option maxHeartbeats 0
/-! the head: what's looked at behind the top. -/
namespace Sq
open PySem PySem.Spec PyProof.Rows L2 LamX
abbrev theRow : PySem.W.OpenSpec := PySem.Challenge.rw_onepacking_s01_answers
def nms0 : List Str := ["LONGEST_WORD", "weight_of", "is_leaf", "row_behind", "leaf_counts", "code_lengths", "codewords", "is_whole", "NoCodedBlock", "low_first", "high_first", "octets_of", "BitReader", "class_of", "further_width", "class_start", "SHORTEST_MATCH", "LONGEST_MATCH", "alike_levels", "nearest_before", "same_until", "matches_at", "block_matches", "LETTER_COST", "MATCH_COST"]
def nms1 : List Str := ["COST_UNIT", "LEVELS", "Tails", "first_step", "block_parse", "LETTERS", "SYMBOLS", "DISTANCE_CLASSES", "LONGEST_RUN", "SIZE_WIDTH", "LENGTH_WIDTH", "RUN_WIDTH", "symbol_of", "further_bits", "run_of_noughts", "length_bits", "parse_bits", "coded", "take_lengths", "check_codes", "symbols_by_word", "take_symbol", "take_further", "take_text", "coded_size"]
def nms2 : List Str := ["decoded", "MARK", "BLOCK_SIZE", "COUNT_OCTETS", "SIZE_OCTETS", "STORED", "CODED", "octets_of_number", "packed_block", "packed_end", "Packing", "packed", "Refusal", "BeyondText", "TooOften", "NoState", "TooLong", "NotBegun", "NoPackedRow", "PackedOtherwise", "ENDS", "NOT_SO", "COUNT_OFF", "LEFT_OVER", "BITS_OFF"]
def nms3 : List Str := ["RowReader", "MOST_TEXT", "MOST_ROW", "MOST_OFTEN", "MOST_OFTEN_IN_SUM", "Answer", "read_part", "read_text", "pack", "unpack", "read_at", "judge", "tell_length", "tell_parse", "tell_code", "HIGHEST_STATE", "check_state", "States", "PACK", "UNPACK", "AT", "JUDGE", "LENGTH", "PARSE", "LENGTHS"]
def nms4 : List Str := ["BEGIN", "FEED", "END", "UnknownCall", "Handed", "answer_row", "answer_next", "next_numbers"]
def nms : List Str := nms0 ++ (nms1 ++ (nms2 ++ (nms3 ++ (nms4))))
abbrev qv : Program := PySem.W.view theRow.prog [120]
/-! ### the defs -/
def d_low_first : He.DefD := ⟨("low_first", none), "low_first", "low_first", defArgs s_low_first, defBody s_low_first, defScope s_low_first, [], []⟩
def d_high_first : He.DefD := ⟨("high_first", none), "high_first", "high_first", defArgs s_high_first, defBody s_high_first, defScope s_high_first, [], []⟩
def d_octets_of : He.DefD := ⟨("octets_of", none), "octets_of", "octets_of", defArgs s_octets_of, defBody s_octets_of, defScope s_octets_of, [], []⟩
def d_BitReader_init : He.DefD := ⟨("BitReader", some "__init__"), "__init__", "BitReader.__init__", defArgs s_BitReader_init, defBody s_BitReader_init, defScope s_BitReader_init, [], []⟩
def d_BitReader_take_bit : He.DefD := ⟨("BitReader", some "take_bit"), "take_bit", "BitReader.take_bit", defArgs s_BitReader_take_bit, defBody s_BitReader_take_bit, defScope s_BitReader_take_bit, [], []⟩
def d_BitReader_take_number : He.DefD := ⟨("BitReader", some "take_number"), "take_number", "BitReader.take_number", defArgs s_BitReader_take_number, defBody s_BitReader_take_number, defScope s_BitReader_take_number, [], []⟩
def d_BitReader_bits_left : He.DefD := ⟨("BitReader", some "bits_left"), "bits_left", "BitReader.bits_left", defArgs s_BitReader_bits_left, defBody s_BitReader_bits_left, defScope s_BitReader_bits_left, [], []⟩
def d_class_of : He.DefD := ⟨("class_of", none), "class_of", "class_of", defArgs s_class_of, defBody s_class_of, defScope s_class_of, [], []⟩
def d_further_width : He.DefD := ⟨("further_width", none), "further_width", "further_width", defArgs s_further_width, defBody s_further_width, defScope s_further_width, [], []⟩
def d_class_start : He.DefD := ⟨("class_start", none), "class_start", "class_start", defArgs s_class_start, defBody s_class_start, defScope s_class_start, [], []⟩
def d_weight_of : He.DefD := ⟨("weight_of", none), "weight_of", "weight_of", defArgs s_weight_of, defBody s_weight_of, defScope s_weight_of, [], []⟩
def d_is_leaf : He.DefD := ⟨("is_leaf", none), "is_leaf", "is_leaf", defArgs s_is_leaf, defBody s_is_leaf, defScope s_is_leaf, [], []⟩
def d_row_behind : He.DefD := ⟨("row_behind", none), "row_behind", "row_behind", defArgs s_row_behind, defBody s_row_behind, defScope s_row_behind, [], []⟩
def d_leaf_counts : He.DefD := ⟨("leaf_counts", none), "leaf_counts", "leaf_counts", defArgs s_leaf_counts, defBody s_leaf_counts, defScope s_leaf_counts, [], []⟩
def d_is_whole : He.DefD := ⟨("is_whole", none), "is_whole", "is_whole", defArgs s_is_whole, defBody s_is_whole, defScope s_is_whole, [], []⟩
def d_code_lengths : He.DefD := ⟨("code_lengths", none), "code_lengths", "code_lengths", defArgs s_code_lengths, defBody s_code_lengths, defScope s_code_lengths, [], []⟩
def d_codewords : He.DefD := ⟨("codewords", none), "codewords", "codewords", defArgs s_codewords, defBody s_codewords, defScope s_codewords, [], []⟩
def d_symbol_of : He.DefD := ⟨("symbol_of", none), "symbol_of", "symbol_of", defArgs s_symbol_of, defBody s_symbol_of, defScope s_symbol_of, [], []⟩
def d_further_bits : He.DefD := ⟨("further_bits", none), "further_bits", "further_bits", defArgs s_further_bits, defBody s_further_bits, defScope s_further_bits, [], []⟩
def d_run_of_noughts : He.DefD := ⟨("run_of_noughts", none), "run_of_noughts", "run_of_noughts", defArgs s_run_of_noughts, defBody s_run_of_noughts, defScope s_run_of_noughts, [], []⟩
def d_length_bits : He.DefD := ⟨("length_bits", none), "length_bits", "length_bits", defArgs s_length_bits, defBody s_length_bits, defScope s_length_bits, [], []⟩
def d_parse_bits : He.DefD := ⟨("parse_bits", none), "parse_bits", "parse_bits", defArgs s_parse_bits, defBody s_parse_bits, defScope s_parse_bits, [], []⟩
def d_alike_levels : He.DefD := ⟨("alike_levels", none), "alike_levels", "alike_levels", defArgs s_alike_levels, defBody s_alike_levels, defScope s_alike_levels, [], []⟩
def d_nearest_before : He.DefD := ⟨("nearest_before", none), "nearest_before", "nearest_before", defArgs s_nearest_before, defBody s_nearest_before, defScope s_nearest_before, [], []⟩
def d_same_until : He.DefD := ⟨("same_until", none), "same_until", "same_until", defArgs s_same_until, defBody s_same_until, defScope s_same_until, [], []⟩
def d_matches_at : He.DefD := ⟨("matches_at", none), "matches_at", "matches_at", defArgs s_matches_at, defBody s_matches_at, defScope s_matches_at, [], []⟩
def d_block_matches : He.DefD := ⟨("block_matches", none), "block_matches", "block_matches", defArgs s_block_matches, defBody s_block_matches, defScope s_block_matches, [], []⟩
def d_Tails_init : He.DefD := ⟨("Tails", some "__init__"), "__init__", "Tails.__init__", defArgs s_Tails_init, defBody s_Tails_init, defScope s_Tails_init, [], []⟩
def d_Tails_least : He.DefD := ⟨("Tails", some "least"), "least", "Tails.least", defArgs s_Tails_least, defBody s_Tails_least, defScope s_Tails_least, [], []⟩
def d_Tails_tell : He.DefD := ⟨("Tails", some "tell"), "tell", "Tails.tell", defArgs s_Tails_tell, defBody s_Tails_tell, defScope s_Tails_tell, [], []⟩
def d_first_step : He.DefD := ⟨("first_step", none), "first_step", "first_step", defArgs s_first_step, defBody s_first_step, defScope s_first_step, [], []⟩
def d_block_parse : He.DefD := ⟨("block_parse", none), "block_parse", "block_parse", defArgs s_block_parse, defBody s_block_parse, defScope s_block_parse, [], []⟩
def d_coded : He.DefD := ⟨("coded", none), "coded", "coded", defArgs s_coded, defBody s_coded, defScope s_coded, [], []⟩
def d_octets_of_number : He.DefD := ⟨("octets_of_number", none), "octets_of_number", "octets_of_number", defArgs s_octets_of_number, defBody s_octets_of_number, defScope s_octets_of_number, [], []⟩
def d_packed_end : He.DefD := ⟨("packed_end", none), "packed_end", "packed_end", defArgs s_packed_end, defBody s_packed_end, defScope s_packed_end, [], []⟩
def d_packed_block : He.DefD := ⟨("packed_block", none), "packed_block", "packed_block", defArgs s_packed_block, defBody s_packed_block, defScope s_packed_block, [], []⟩
def d_Packing_add_block : He.DefD := ⟨("Packing", some "add_block"), "add_block", "Packing.add_block", defArgs s_Packing_add_block, defBody s_Packing_add_block, defScope s_Packing_add_block, [], []⟩
def d_Packing_give : He.DefD := ⟨("Packing", some "give"), "give", "Packing.give", defArgs s_Packing_give, defBody s_Packing_give, defScope s_Packing_give, [], []⟩
def d_Packing_init : He.DefD := ⟨("Packing", some "__init__"), "__init__", "Packing.__init__", defArgs s_Packing_init, defBody s_Packing_init, defScope s_Packing_init, [], []⟩
def d_Packing_add_text : He.DefD := ⟨("Packing", some "add_text"), "add_text", "Packing.add_text", defArgs s_Packing_add_text, defBody s_Packing_add_text, defScope s_Packing_add_text, [], []⟩
def d_Packing_add_end : He.DefD := ⟨("Packing", some "add_end"), "add_end", "Packing.add_end", defArgs s_Packing_add_end, defBody s_Packing_add_end, defScope s_Packing_add_end, [], []⟩
def d_packed : He.DefD := ⟨("packed", none), "packed", "packed", defArgs s_packed, defBody s_packed, defScope s_packed, [], []⟩
def d_take_lengths : He.DefD := ⟨("take_lengths", none), "take_lengths", "take_lengths", defArgs s_take_lengths, defBody s_take_lengths, defScope s_take_lengths, [], []⟩
def d_check_codes : He.DefD := ⟨("check_codes", none), "check_codes", "check_codes", defArgs s_check_codes, defBody s_check_codes, defScope s_check_codes, [], []⟩
def d_symbols_by_word : He.DefD := ⟨("symbols_by_word", none), "symbols_by_word", "symbols_by_word", defArgs s_symbols_by_word, defBody s_symbols_by_word, defScope s_symbols_by_word, [], []⟩
def d_take_further : He.DefD := ⟨("take_further", none), "take_further", "take_further", defArgs s_take_further, defBody s_take_further, defScope s_take_further, [], []⟩
def d_take_symbol : He.DefD := ⟨("take_symbol", none), "take_symbol", "take_symbol", defArgs s_take_symbol, defBody s_take_symbol, defScope s_take_symbol, [], []⟩
def d_take_text : He.DefD := ⟨("take_text", none), "take_text", "take_text", defArgs s_take_text, defBody s_take_text, defScope s_take_text, [], []⟩
def d_coded_size : He.DefD := ⟨("coded_size", none), "coded_size", "coded_size", defArgs s_coded_size, defBody s_coded_size, defScope s_coded_size, [], []⟩
def d_decoded : He.DefD := ⟨("decoded", none), "decoded", "decoded", defArgs s_decoded, defBody s_decoded, defScope s_decoded, [], []⟩
def d_Refusal_init : He.DefD := ⟨("Refusal", some "__init__"), "__init__", "Refusal.__init__", defArgs s_Refusal_init, defBody s_Refusal_init, defScope s_Refusal_init, [], []⟩
def d_NoPackedRow_init : He.DefD := ⟨("NoPackedRow", some "__init__"), "__init__", "NoPackedRow.__init__", defArgs s_NoPackedRow_init, defBody s_NoPackedRow_init, defScope s_NoPackedRow_init, [], []⟩
def d_BeyondText_init : He.DefD := ⟨("BeyondText", some "__init__"), "__init__", "BeyondText.__init__", defArgs s_BeyondText_init, defBody s_BeyondText_init, defScope s_BeyondText_init, [], []⟩
def d_TooLong_init : He.DefD := ⟨("TooLong", some "__init__"), "__init__", "TooLong.__init__", defArgs s_TooLong_init, defBody s_TooLong_init, defScope s_TooLong_init, [], []⟩
def d_TooOften_init : He.DefD := ⟨("TooOften", some "__init__"), "__init__", "TooOften.__init__", defArgs s_TooOften_init, defBody s_TooOften_init, defScope s_TooOften_init, [], []⟩
def d_NoState_init : He.DefD := ⟨("NoState", some "__init__"), "__init__", "NoState.__init__", defArgs s_NoState_init, defBody s_NoState_init, defScope s_NoState_init, [], []⟩
def d_NotBegun_init : He.DefD := ⟨("NotBegun", some "__init__"), "__init__", "NotBegun.__init__", defArgs s_NotBegun_init, defBody s_NotBegun_init, defScope s_NotBegun_init, [], []⟩
def d_PackedOtherwise_init : He.DefD := ⟨("PackedOtherwise", some "__init__"), "__init__", "PackedOtherwise.__init__", defArgs s_PackedOtherwise_init, defBody s_PackedOtherwise_init, defScope s_PackedOtherwise_init, [], []⟩
def d_RowReader_take : He.DefD := ⟨("RowReader", some "take"), "take", "RowReader.take", defArgs s_RowReader_take, defBody s_RowReader_take, defScope s_RowReader_take, [], []⟩
def d_RowReader_take_number : He.DefD := ⟨("RowReader", some "take_number"), "take_number", "RowReader.take_number", defArgs s_RowReader_take_number, defBody s_RowReader_take_number, defScope s_RowReader_take_number, [], []⟩
def d_RowReader_read_mark : He.DefD := ⟨("RowReader", some "read_mark"), "read_mark", "RowReader.read_mark", defArgs s_RowReader_read_mark, defBody s_RowReader_read_mark, defScope s_RowReader_read_mark, [], []⟩
def d_RowReader_read_end : He.DefD := ⟨("RowReader", some "read_end"), "read_end", "RowReader.read_end", defArgs s_RowReader_read_end, defBody s_RowReader_read_end, defScope s_RowReader_read_end, [], []⟩
def d_RowReader_init : He.DefD := ⟨("RowReader", some "__init__"), "__init__", "RowReader.__init__", defArgs s_RowReader_init, defBody s_RowReader_init, defScope s_RowReader_init, [], []⟩
def d_RowReader_decoded_at : He.DefD := ⟨("RowReader", some "decoded_at"), "decoded_at", "RowReader.decoded_at", defArgs s_RowReader_decoded_at, defBody s_RowReader_decoded_at, defScope s_RowReader_decoded_at, [], []⟩
def d_RowReader_read_block : He.DefD := ⟨("RowReader", some "read_block"), "read_block", "RowReader.read_block", defArgs s_RowReader_read_block, defBody s_RowReader_read_block, defScope s_RowReader_read_block, [], []⟩
def d_RowReader_read : He.DefD := ⟨("RowReader", some "read"), "read", "RowReader.read", defArgs s_RowReader_read, defBody s_RowReader_read, defScope s_RowReader_read, [], []⟩
def d_Answer_init : He.DefD := ⟨("Answer", some "__init__"), "__init__", "Answer.__init__", defArgs s_Answer_init, defBody s_Answer_init, defScope s_Answer_init, [], []⟩
def d_read_part : He.DefD := ⟨("read_part", none), "read_part", "read_part", defArgs s_read_part, defBody s_read_part, defScope s_read_part, [], []⟩
def d_read_text : He.DefD := ⟨("read_text", none), "read_text", "read_text", defArgs s_read_text, defBody s_read_text, defScope s_read_text, [], []⟩
def d_pack : He.DefD := ⟨("pack", none), "pack", "pack", defArgs s_pack, defBody s_pack, defScope s_pack, [], []⟩
def d_unpack : He.DefD := ⟨("unpack", none), "unpack", "unpack", defArgs s_unpack, defBody s_unpack, defScope s_unpack, [], []⟩
def d_read_at : He.DefD := ⟨("read_at", none), "read_at", "read_at", defArgs s_read_at, defBody s_read_at, defScope s_read_at, [], []⟩
def d_judge : He.DefD := ⟨("judge", none), "judge", "judge", defArgs s_judge, defBody s_judge, defScope s_judge, [], []⟩
def d_tell_length : He.DefD := ⟨("tell_length", none), "tell_length", "tell_length", defArgs s_tell_length, defBody s_tell_length, defScope s_tell_length, [], []⟩
def d_tell_parse : He.DefD := ⟨("tell_parse", none), "tell_parse", "tell_parse", defArgs s_tell_parse, defBody s_tell_parse, defScope s_tell_parse, [], []⟩
def d_tell_code : He.DefD := ⟨("tell_code", none), "tell_code", "tell_code", defArgs s_tell_code, defBody s_tell_code, defScope s_tell_code, [], []⟩
def d_check_state : He.DefD := ⟨("check_state", none), "check_state", "check_state", defArgs s_check_state, defBody s_check_state, defScope s_check_state, [], []⟩
def d_States_init : He.DefD := ⟨("States", some "__init__"), "__init__", "States.__init__", defArgs s_States_init, defBody s_States_init, defScope s_States_init, [], []⟩
def d_packing_of : He.DefD := ⟨("States", some "packing_of"), "packing_of", "States.packing_of", defArgs s_States_packing_of, defBody s_States_packing_of, defScope s_States_packing_of, [], []⟩
def d_begin : He.DefD := ⟨("States", some "begin"), "begin", "States.begin", defArgs s_States_begin, defBody s_States_begin, defScope s_States_begin, [], []⟩
def d_feed : He.DefD := ⟨("States", some "feed"), "feed", "States.feed", defArgs s_States_feed, defBody s_States_feed, defScope s_States_feed, [], []⟩
def d_end : He.DefD := ⟨("States", some "end"), "end", "States.end", defArgs s_States_end, defBody s_States_end, defScope s_States_end, [], []⟩
def d_Handed_init : He.DefD := ⟨("Handed", some "__init__"), "__init__", "Handed.__init__", defArgs s_Handed_init, defBody s_Handed_init, defScope s_Handed_init, [], []⟩
def d_has_more : He.DefD := ⟨("Handed", some "has_more"), "has_more", "Handed.has_more", defArgs s_Handed_has_more, defBody s_Handed_has_more, defScope s_Handed_has_more, [], []⟩
def d_take : He.DefD := ⟨("Handed", some "take"), "take", "Handed.take", defArgs s_Handed_take, defBody s_Handed_take, defScope s_Handed_take, [], []⟩
def d_take_row : He.DefD := ⟨("Handed", some "take_row"), "take_row", "Handed.take_row", defArgs s_Handed_take_row, defBody s_Handed_take_row, defScope s_Handed_take_row, [], []⟩
def d_answer_row : He.DefD := ⟨("answer_row", none), "answer_row", "answer_row", defArgs s_answer_row, defBody s_answer_row, defScope s_answer_row, [], []⟩
def d_answer_next : He.DefD := ⟨("answer_next", none), "answer_next", "answer_next", defArgs s_answer_next, defBody s_answer_next, defScope s_answer_next, [], []⟩
def d_next_numbers : He.DefD := ⟨("next_numbers", none), "next_numbers", "next_numbers", defArgs s_next_numbers, defBody s_next_numbers, defScope s_next_numbers, [], []⟩
def d_answers : He.DefD := ⟨("answers", none), "answers", "answers", defArgs s_answers, defBody s_answers, defScope s_answers, [], []⟩
def fn0 : List He.DefD := [d_low_first, d_high_first, d_octets_of, d_BitReader_init, d_BitReader_take_bit, d_BitReader_take_number, d_BitReader_bits_left, d_class_of, d_further_width, d_class_start, d_weight_of, d_is_leaf, d_row_behind, d_leaf_counts, d_is_whole, d_code_lengths, d_codewords, d_symbol_of, d_further_bits, d_run_of_noughts, d_length_bits, d_parse_bits, d_alike_levels, d_nearest_before]
def fn1 : List He.DefD := [d_same_until, d_matches_at, d_block_matches, d_Tails_init, d_Tails_least, d_Tails_tell, d_first_step, d_block_parse, d_coded, d_octets_of_number, d_packed_end, d_packed_block, d_Packing_add_block, d_Packing_give, d_Packing_init, d_Packing_add_text, d_Packing_add_end, d_packed, d_take_lengths, d_check_codes, d_symbols_by_word, d_take_further, d_take_symbol, d_take_text]
def fn2 : List He.DefD := [d_coded_size, d_decoded, d_Refusal_init, d_NoPackedRow_init, d_BeyondText_init, d_TooLong_init, d_TooOften_init, d_NoState_init, d_NotBegun_init, d_PackedOtherwise_init, d_RowReader_take, d_RowReader_take_number, d_RowReader_read_mark, d_RowReader_read_end, d_RowReader_init, d_RowReader_decoded_at, d_RowReader_read_block, d_RowReader_read, d_Answer_init, d_read_part, d_read_text, d_pack, d_unpack, d_read_at]
def fn3 : List He.DefD := [d_judge, d_tell_length, d_tell_parse, d_tell_code, d_check_state, d_States_init, d_packing_of, d_begin, d_feed, d_end, d_Handed_init, d_has_more, d_take, d_take_row, d_answer_row, d_answer_next, d_next_numbers, d_answers]
def fn : List He.DefD := fn0 ++ (fn1 ++ (fn2 ++ (fn3)))
/-! ### the facts -/
def fa0 : List He.Fa := [.free "range", .free "len", .free "enumerate", .free "sorted", .free "reversed", .free "zip", .free "min", .free "max", .free "sum", .free "any", .free "list", .free "tuple", .free "dict", .int "LONGEST_WORD" 15, .int "SHORTEST_MATCH" 3, .int "LONGEST_MATCH" 258, .int "LETTER_COST" 8, .int "MATCH_COST" 12, .int "COST_UNIT" 2048, .int "LEVELS" 8, .int "LETTERS" 256, .int "SYMBOLS" 265, .int "DISTANCE_CLASSES" 11, .int "LONGEST_RUN" 256]
def fa1 : List He.Fa := [.int "SIZE_WIDTH" 10, .int "LENGTH_WIDTH" 4, .int "RUN_WIDTH" 8, .int "BLOCK_SIZE" 1024, .int "COUNT_OCTETS" 4, .int "SIZE_OCTETS" 8, .int "STORED" 0, .int "CODED" 1, .int "ENDS" 1, .int "NOT_SO" 2, .int "COUNT_OFF" 3, .int "LEFT_OVER" 4, .int "BITS_OFF" 5, .int "MOST_TEXT" 65536, .int "MOST_ROW" 131072, .int "PACK" 0, .int "UNPACK" 1, .int "AT" 2, .int "JUDGE" 3, .int "LENGTH" 4, .int "PARSE" 5, .int "LENGTHS" 6, .int "BEGIN" 7, .int "FEED" 8]
def fa2 : List He.Fa := [.int "END" 9, .int "MOST_OFTEN" 32768, .int "MOST_OFTEN_IN_SUM" 65536, .int "HIGHEST_STATE" 3, .glo "MARK", .glo "BitReader", .cls "BitReader", .noat "BitReader" "bits", .noat "BitReader" "taken", .glo "Tails", .cls "Tails", .noat "Tails" "levels", .noat "Tails" "size", .glo "RowReader", .cls "RowReader", .noat "RowReader" "row", .noat "RowReader" "part_start", .noat "RowReader" "part_stop", .noat "RowReader" "reached", .noat "RowReader" "text_size", .noat "RowReader" "blocks", .noat "RowReader" "part", .glo "Answer", .cls "Answer"]
def fa3 : List He.Fa := [.noat "Answer" "number", .noat "Answer" "octets", .noat "Answer" "figures", .glo "Handed", .cls "Handed", .noat "Handed" "numbers", .noat "Handed" "reached", .glo "Packing", .cls "Packing", .noat "Packing" "size", .noat "Packing" "waiting", .noat "Packing" "upcoming", .noat "Packing" "known", .glo "States", .cls "States", .noat "States" "packings", .glo "NoCodedBlock", .exc "NoCodedBlock", .exm "NoCodedBlock" "NoCodedBlock" true, .glo "Refusal", .glo "BeyondText", .noat "BeyondText" "number", .noat "BeyondText" "kind", .noat "BeyondText" "place"]
def fa4 : List He.Fa := [.exm "BeyondText" "Refusal" true, .exm "BeyondText" "NoCodedBlock" false, .glo "TooLong", .noat "TooLong" "number", .noat "TooLong" "kind", .noat "TooLong" "place", .exm "TooLong" "Refusal" true, .exm "TooLong" "NoCodedBlock" false, .glo "NoPackedRow", .noat "NoPackedRow" "number", .noat "NoPackedRow" "kind", .noat "NoPackedRow" "place", .exm "NoPackedRow" "Refusal" true, .exm "NoPackedRow" "NoCodedBlock" false, .glo "TooOften", .noat "TooOften" "number", .noat "TooOften" "kind", .noat "TooOften" "place", .exm "TooOften" "Refusal" true, .exm "TooOften" "NoCodedBlock" false, .glo "NoState", .noat "NoState" "number", .noat "NoState" "kind", .noat "NoState" "place"]
def fa5 : List He.Fa := [.exm "NoState" "Refusal" true, .exm "NoState" "NoCodedBlock" false, .glo "NotBegun", .noat "NotBegun" "number", .noat "NotBegun" "kind", .noat "NotBegun" "place", .exm "NotBegun" "Refusal" true, .exm "NotBegun" "NoCodedBlock" false, .glo "PackedOtherwise", .noat "PackedOtherwise" "number", .noat "PackedOtherwise" "kind", .noat "PackedOtherwise" "place", .exm "PackedOtherwise" "Refusal" true, .exm "PackedOtherwise" "NoCodedBlock" false, .mkr "Handed", .mkr "States", .meth "Handed" "has_more", .meth "Handed" "take", .meth "Handed" "take_row", .mkr "RowReader", .meth "RowReader" "take", .meth "RowReader" "take_number", .meth "RowReader" "read_mark", .glo "low_first"]
def fa6 : List He.Fa := [.mkr "BitReader", .meth "BitReader" "take_bit", .meth "BitReader" "take_number", .glo "coded_size", .glo "take_lengths", .glo "is_whole", .glo "check_codes", .glo "take_symbol", .glo "class_start", .glo "further_width", .glo "take_further", .glo "take_text", .glo "codewords", .glo "symbols_by_word", .meth "BitReader" "bits_left", .glo "decoded", .meth "RowReader" "decoded_at", .meth "RowReader" "read_block", .meth "RowReader" "read_end", .meth "RowReader" "read", .glo "read_part", .mkr "Answer", .glo "read_at", .glo "check_state"]
def fa7 : List He.Fa := [.mkr "Packing", .meth "States" "begin", .meth "States" "packing_of", .glo "octets_of", .glo "octets_of_number", .glo "alike_levels", .glo "nearest_before", .glo "same_until", .glo "matches_at", .glo "block_matches", .mkr "Tails", .meth "Tails" "tell", .meth "Tails" "least", .glo "class_of", .glo "first_step", .glo "block_parse", .glo "symbol_of", .glo "weight_of", .glo "row_behind", .glo "is_leaf", .glo "leaf_counts", .glo "code_lengths", .glo "run_of_noughts", .glo "length_bits"]
def fa8 : List He.Fa := [.glo "high_first", .glo "further_bits", .glo "parse_bits", .glo "coded", .glo "packed_block", .meth "Packing" "add_block", .meth "Packing" "add_text", .meth "Packing" "give", .meth "States" "feed", .glo "packed_end", .meth "Packing" "add_end", .meth "States" "end", .glo "packed", .glo "pack", .glo "read_text", .glo "unpack", .glo "judge", .glo "tell_length", .glo "tell_parse", .glo "tell_code", .glo "answer_row", .glo "answer_next", .glo "next_numbers", .glo "answers"]
def fa : List He.Fa := fa0 ++ (fa1 ++ (fa2 ++ (fa3 ++ (fa4 ++ (fa5 ++ (fa6 ++ (fa7 ++ (fa8))))))))
def tf : List He.Defn := [("code_lengths", none), ("codewords", none)]
def markD : List He.Dv := [.int 83, .int 87, .int 90, .int 49]
/-! ### one more Bool -/
def oexB (K : PySem.W.Frag) (C : Addr) : Bool := (match K.lookup C with
  | some ⟨.type t, _, .cls cd, sl⟩ => (match cd.mro, sl.toList with
    | .ref C' :: bm, [_, _, _, _, some (.builtin n), _] => (t == "type" && (C' == C && (n == "ValueError.__new__" && (!cd.hasDel && cd.hasDict)))) && PySem.HandSPX.refsVE bm
    | _, _ => false)
  | _ => false) && (He.eqO (PySem.W.findIn K (.ref C) "__setattr__") (some (some (.builtin "object.__setattr__"))) && (decide (PySem.W.subIn K (.ref C) (.type "BaseException") = some true) && (decide (PySem.W.typeIn K (.ref C) = some (.type "type")) && PySem.W.keepIn K (.ref C))))
def initB (K : PySem.W.Frag) (x : Str) : Bool := He.eqO (PySem.W.findIn K (.ref (He.ga K x)) "__init__") (some (some (.ref (He.ma K (He.ga K x) "__init__")))) && decide (PySem.W.typeIn K (.ref (He.ma K (He.ga K x) "__init__")) = some (.type "function"))
def refB (K : PySem.W.Frag) (x : Str) : Bool := oexB K (He.ga K x) && (xfB K (He.ga K x) && initB K x)
def isFound (r : Option PySem.W.CFound) (a : Addr) : Bool := match r with
  | some (.val (.ref b)) => b == a
  | _ => false
def clsB (K : PySem.W.Frag) (x m : Str) : Bool := He.eqO (PySem.W.specialIn K (.ref (He.ga K x)) "__getattribute__") (some (some (.builtin "type.__getattribute__"))) && (PySem.W.readsIn K (He.ga K x) (.type "type") && (isFound (PySem.W.findCls K (.ref (He.ga K x)) (.type "type") m) (He.ma K (He.ga K x) m) && PySem.W.keepIn K (.ref (He.ma K (He.ga K x) m))))
def refN : List Str := ["BeyondText", "TooLong", "NoPackedRow", "TooOften", "NoState", "NotBegun", "PackedOtherwise"]
def exK (K : PySem.W.Frag) : Bool := He.tupB K "MARK" markD && (clsB K "Refusal" "__init__" && ((refN.all fun x => refB K x) && !((He.cT K ("code_lengths", none)).2 == (He.cT K ("codewords", none)).2)))
abbrev hk : PySem.W.Hook := He.hookX 5 fa fn [] tf exK
def obH (s : PySem.W.SharedT) : He.AlX := He.obsX 5 fa fn [] tf exK (HandSHeadRun.getT s)
theorem obH_eq (s : PySem.W.SharedT) : obH s = hk.obs s.abs := He.obsX_eq (HandSHeadRun.getT_eq s)
end Sq
end
section
set_option Elab.async false
set_option maxRecDepth 100000
set_option maxHeartbeats 0
/-! the part of the heap behind the top that the promises lean on: 215 objects, by their places. -/
namespace Sq
open PySem PySem.Spec PyProof.Rows L2 LamX
def pl0 : List Addr := [3, 2, 20, 21, 27, 28, 32, 33, 37, 38, 42, 43, 47, 48, 52, 53, 62, 63, 70, 71, 75, 76, 82, 83, 96, 97, 103, 104, 110, 111, 117, 118]
def pl1 : List Addr := [120, 121, 131, 132, 138, 139, 145, 146, 150, 151, 157, 158, 164, 165, 171, 172, 176, 177, 188, 189, 195, 196, 202, 203, 205, 206, 216, 217, 223, 224, 230, 231]
def pl2 : List Addr := [237, 238, 244, 245, 251, 252, 258, 259, 265, 266, 272, 273, 279, 280, 284, 285, 291, 292, 298, 299, 305, 306, 312, 313, 319, 320, 321, 327, 328, 334, 335, 341]
def pl3 : List Addr := [342, 355, 356, 362, 363, 369, 370, 376, 377, 383, 384, 386, 387, 397, 398, 411, 412, 414, 415, 431, 432, 434, 435, 450, 451, 453, 454, 469, 470, 472, 473, 488]
def pl4 : List Addr := [489, 491, 492, 507, 508, 510, 511, 526, 527, 529, 530, 545, 546, 548, 549, 564, 565, 571, 572, 578, 579, 585, 586, 592, 593, 599, 600, 606, 607, 613, 614, 616]
def pl5 : List Addr := [617, 634, 635, 637, 638, 648, 649, 655, 656, 662, 663, 669, 670, 676, 677, 683, 684, 690, 691, 697, 698, 704, 705, 711, 712, 725, 726, 732, 733, 739, 740, 746]
def pl6 : List Addr := [747, 753, 754, 756, 757, 787, 788, 794, 795, 801, 802, 808, 809, 811, 812, 822, 823, 829, 830, 836, 837, 843, 844]
def places : List Addr := pl0 ++ (pl1 ++ (pl2 ++ (pl3 ++ (pl4 ++ (pl5 ++ (pl6))))))
def KL (g : Addr → Option Obj) : PySem.W.Frag := He.frG g places
def tabsL (g : Addr → Option Obj) (K : PySem.W.Frag) : Bool := tf.all fun p => PySem.W.codeHdIn K (He.cT K p).1 (He.cT K p).2 && ((K.lookup (He.cT K p).2).isNone && (match g (He.cT K p).2 with
  | some o => He.emptyTab o
  | none => false))
def factsL (l : List He.Fa) (g : Addr → Option Obj) : Bool := l.all fun f => f.ok (KL g)
def defsL (l : List He.DefD) (g : Addr → Option Obj) : Bool × List He.FnW := (l.all fun d => d.ok (KL g), l.map fun d => He.fnW (KL g) d.at_)
def moreL (g : Addr → Option Obj) : Bool := exK (KL g) && tabsL g (KL g)
noncomputable def endS (w : World) (os : OsState) : Option PySem.W.SharedT := HandSHeadRun.endF (HandSHeadRun.stepQ (HandSHeadRun.denQ HandSHeadRun.tabQ) theRow.prog w) 7200 theRow.prog w os
end Sq
end
section
set_option Elab.async false
set_option maxRecDepth 100000
set_option maxHeartbeats 0
namespace Sq
open PySem PySem.W PySem.Calls PyProof.Rows
theorem run0 (w : World) (os : OsState) : (endS w os).map (fun s => (HandSHeadRun.looksF theRow.prog (PySem.W.boot_heap w.params) s.abs, HandSHeadRun.seenQ qv nms (importedModules theRow.prog.main.body) (fun s => PySem.W.xlAt qv [] s && PySem.W.recOk [] s) s.abs, ())) = some (true, PySem.W.openGood qv nms, ()) := by
  kernel_rfl
end Sq
end
section
set_option Elab.async false
set_option maxRecDepth 100000
set_option maxHeartbeats 0
namespace Sq
open PySem PySem.Spec PyProof.Rows L2 LamX
theorem runF (w : World) (os : OsState) : (endS w os).map (fun s => factsL fa (HandSHeadRun.getT s)) = some true := by
  kernel_rfl
end Sq
end
section
set_option Elab.async false
set_option maxRecDepth 100000
set_option maxHeartbeats 0
namespace Sq
open PySem PySem.Spec PyProof.Rows L2 LamX
theorem runD (w : World) (os : OsState) : (endS w os).map (fun s => defsL fn (HandSHeadRun.getT s)) = some (true, fn.map He.DefD.val) := by
  kernel_rfl
end Sq
end
section
set_option Elab.async false
set_option maxRecDepth 100000
set_option maxHeartbeats 0
namespace Sq
open PySem PySem.Spec PyProof.Rows L2 LamX
theorem runM (w : World) (os : OsState) : (endS w os).map (fun s => moreL (HandSHeadRun.getT s)) = some true := by
  kernel_rfl
end Sq
end
section
set_option Elab.async false
set_option maxRecDepth 100000
set_option maxHeartbeats 0
/-! what's asked of the text itself, one look at a time. -/
namespace Sq
open PySem PySem.W PySem.Calls PyProof.Rows
theorem wRes : namesResolve theRow.prog = true := by kernel_rfl
theorem wRoad : noRoadLSs { strict := !(importedModules theRow.prog.main.body).all cThrough.contains, foot := none, bare := (["vars", "dir", "locals"] : List Str).filter (readsOut theRow.prog theRow.prog.main.body) } theRow.prog.main.body = true := by kernel_rfl
theorem wMeet : namesMeet theRow.prog theRow.prog.main.body (fun _ n => attrL n) = true := by kernel_rfl
theorem wSre : (sreFenced theRow.prog.main && ((moduleNames theRow.prog.main.body).isEmpty || lookedIntoSs (moduleNames theRow.prog.main.body) theRow.prog.main.body)) = true := by kernel_rfl
theorem wWorld : theRow.prog.boundNames.all (fun n => !worldNames.contains n) = true := by kernel_rfl
theorem wName : theRow.prog.boundNames.contains theRow.name = true := by kernel_rfl
theorem wStart : (!startupNames.contains theRow.name) = true := by kernel_rfl
theorem wDef : specDef theRow.prog theRow.name theRow.args.length = true := by kernel_rfl
theorem wFits : theRow.args.all Codec.fits = true := by kernel_rfl
theorem wRet : theRow.ret.ok = true := by kernel_rfl
theorem both {a b : Bool} (ha : a = true) (hb : b = true) : (a && b) = true := by
  rw [ha, hb]
  rfl
theorem wLooks : looksOpen theRow.prog = true := both (both (both (both wSre wRes) wWorld) wRoad) wMeet
theorem wSaid : theRow.wellSaid = true := both (both (both (both (both wLooks wName) wStart) wDef) wFits) wRet
theorem wTables : theRow.prog.tablesWhole = true := by kernel_rfl
theorem wBare : theRow.prog.bare := ⟨rfl, rfl, rfl, rfl, rfl, wTables⟩
theorem wChains : (chainsOk qv && opensWell theRow.prog) = true := by kernel_rfl
theorem wOpening : opening theRow.prog = plainProg theRow.prog.main.scope.names := by kernel_rfl
theorem wFence (s : Shared) : fenceModules? theRow.prog s = some s := by kernel_rfl
abbrev theDefR : DefRec := HandSHeadRun.topDef theRow.prog 120
theorem wDefOf : defOf qv theRow.name = some (theDefR, []) := by kernel_rfl
theorem wTheDef : theRow.prog.theDef theRow.name = some (theDefR.params, theDefR.body, theDefR.scope) := by kernel_rfl
theorem wKw : kwWritten? theDefR.params.kwonlyargs theDefR.params.kw_defaults = some [] := by kernel_rfl
theorem wPlain : theDefR.params.defaults = [] := by kernel_rfl
theorem wDefName : theDefR.name = ("answers" : Str) := by kernel_rfl
theorem wWit : ∃ args, theRow.pre args = true ∧ WData.layableAll args = true := ⟨[.list []], by decide +kernel, by decide +kernel⟩
end Sq
end
section
set_option Elab.async false
set_option maxRecDepth 100000
set_option maxHeartbeats 2000000
/-! Small lemmas for the readings. -/
namespace Sq
open PySem PySem.Spec PyProof.Rows L2 SqX LamX
theorem cut_drop (xs : List V) (k : Nat) : cutV xs (some (k : Int)) none = xs.drop k := by
  unfold cutV
  rw [HT.sIx_nat, HT.sIx_none]
  by_cases h : k ≤ xs.length
  · rw [Nat.min_eq_left h, List.take_of_length_le]
    rw [List.length_drop]; omega
  · rw [Nat.min_eq_right (by omega), List.drop_of_length_le (Nat.le_refl _), List.drop_of_length_le (by omega)]; simp
theorem cut_take (xs : List V) (k : Nat) : cutV xs none (some (k : Int)) = xs.take k := by
  unfold cutV
  rw [HT.sIx_nat, HT.sIx_none]
  by_cases h : k ≤ xs.length
  · rw [Nat.min_eq_left h]; simp
  · rw [Nat.min_eq_right (by omega), List.take_of_length_le (l := xs) (i := k) (by omega)]; simp
theorem cut_part (xs : List V) (j k : Nat) (h : j ≤ k) : cutV xs (some (j : Int)) (some (k : Int)) = (xs.drop j).take (k - j) := by
  unfold cutV
  rw [HT.sIx_nat, HT.sIx_nat]
  by_cases h1 : j ≤ xs.length
  · rw [Nat.min_eq_left h1]
    by_cases h2 : k ≤ xs.length
    · rw [Nat.min_eq_left h2]
    · rw [Nat.min_eq_right (by omega), List.take_of_length_le (by rw [List.length_drop]; omega), List.take_of_length_le (by rw [List.length_drop]; omega)]
  · rw [Nat.min_eq_right (by omega : xs.length ≤ j), List.drop_of_length_le (Nat.le_refl _), List.drop_of_length_le (by omega)]; simp
theorem rgc_pos {c n : Nat} {lo hi : Int} (hc : 0 < c) (hc2 : c < 1000000) (h1 : -(2 ^ 61) ≤ lo) (h2 : lo ≤ hi) (h3 : hi < 2 ^ 61) (hn : (n : Int) = (hi - lo + (c : Int) - 1) / (c : Int)) : RgC lo hi (c : Int) n := by
  have e : Builtin.Range.rangeSize lo hi (c : Int) = n := by
    unfold Builtin.Range.rangeSize
    rw [if_pos (by omega)]
    split
    · rw [hn, show hi - lo + (c : Int) - 1 = (hi - lo - 1) + (c : Int) by omega, Int.add_ediv_of_dvd_right (Int.dvd_refl _), Int.ediv_self (by omega)]
    · have : hi = lo := by omega
      subst this
      rw [hn]
      have : (hi - hi + (c : Int) - 1) / (c : Int) = 0 := Int.ediv_eq_zero_of_lt (by omega) (by omega)
      omega
  have hle : (n : Int) * c ≤ hi - lo + c - 1 := by rw [hn]; exact Int.ediv_mul_le _ (by omega)
  refine ⟨by omega, by rw [Int.natAbs_natCast]; omega, ?_, e⟩
  unfold Builtin.Range.small
  rw [e]
  simp only [Builtin.Range.rangeFitsLong, Bool.and_eq_true, Bool.or_eq_true, decide_eq_true_eq, beq_iff_eq]
  have hn2 : (n : Int) ≤ (n : Int) * c := by
    have := Int.mul_le_mul_of_nonneg_left (show (1 : Int) ≤ c by omega) (show (0 : Int) ≤ n by omega)
    omega
  rw [if_pos (by omega)]
  repeat' apply And.intro
  all_goals first | omega | (right; rw [Bool.and_eq_true, decide_eq_true_eq, decide_eq_true_eq]; omega)
/-- the bytes as values -/
def bU (c : UInt8) : V := .int c.toNat
theorem tup2 (a b : V) (i : Nat) : ([a, b] : List V)[i]? = if i = 0 then some a else if i = 1 then some b else none := by
  match i with
  | 0 => rfl
  | 1 => rfl
  | _ + 2 => simp
end Sq
end
section
set_option Elab.async false
set_option maxRecDepth 100000
set_option maxHeartbeats 2000000
/-! bits: the defs and their promises. -/
namespace Sq
open PySem PySem.Spec PyProof.Rows L2 SqX LamX
open SwSqueeze (bitsLow bitsHigh toBytes toBits numLow)
/-! ### mathematics -/
theorem high_list (k n : Nat) : (List.range k).map (fun i => n.testBit (k - 1 - i)) = bitsHigh k n := by
  unfold bitsHigh bitsLow
  apply List.ext_getElem?
  intro i
  by_cases h : i < k
  · rw [List.getElem?_map, List.getElem?_range h, List.getElem?_reverse (by simpa using h)]
    simp
    rw [List.getElem?_range (by omega)]
    simp
  · rw [List.getElem?_eq_none (by simp; omega), List.getElem?_eq_none (by simp; omega)]
def numAt (l : List Bool) (i : Nat) : Nat := numLow (l.take i)
theorem numLow_snoc (l : List Bool) (b : Bool) : numLow (l ++ [b]) = numLow l + cond b (2 ^ l.length) 0 := by
  unfold numLow
  rw [List.zipIdx_append, List.foldl_append]
  cases b <;> simp
theorem numLow_lt' : ∀ (n : Nat) (l : List Bool), l.length = n → numLow l < 2 ^ n
  | 0, l, h => by rw [List.length_eq_zero_iff.mp h]; decide
  | n + 1, l, h => by
    rcases List.eq_nil_or_concat l with e | ⟨r, b, e⟩
    · rw [e] at h; simp at h
    · rw [List.concat_eq_append] at e
      subst e
      rw [List.length_append, List.length_singleton] at h
      have ih := numLow_lt' n r (by omega)
      have hr : r.length = n := by omega
      rw [numLow_snoc, Nat.pow_succ, hr]
      cases b <;> simp <;> omega
theorem numLow_lt (l : List Bool) : numLow l < 2 ^ l.length := numLow_lt' _ l rfl
theorem numAt_succ {l : List Bool} {i : Nat} {b : Bool} (h : l[i]? = some b) : numAt l (i + 1) = numAt l i + cond b (2 ^ i) 0 := by
  unfold numAt
  have hi := (List.getElem?_eq_some_iff.mp h).1
  rw [List.take_add_one, h]
  show numLow (List.take i l ++ [b]) = _
  rw [numLow_snoc, List.length_take, Nat.min_eq_left (by omega)]
theorem numAt_lt (l : List Bool) (i : Nat) : numAt l i < 2 ^ i := by
  have := numLow_lt (l.take i)
  rw [List.length_take] at this
  exact Nat.lt_of_lt_of_le this (Nat.pow_le_pow_right (by decide) (Nat.min_le_left _ _))
/-- the i-th byte of the bits -/
def byteAt (l : List Bool) (i : Nat) : Nat := numLow ((l.drop (8 * i)).take 8)
theorem byteAt_lt (l : List Bool) (i : Nat) : byteAt l i < 256 := by
  have := numLow_lt ((l.drop (8 * i)).take 8)
  refine Nat.lt_of_lt_of_le this ?_
  have : ((l.drop (8 * i)).take 8).length ≤ 8 := by rw [List.length_take]; exact Nat.min_le_left _ _
  exact Nat.pow_le_pow_right (by decide) this
theorem toBytes_eq : ∀ (f : Nat) (l : List Bool), l.length < f → toBytes f l = (List.range ((l.length + 7) / 8)).map fun i => UInt8.ofNat (byteAt l i)
  | 0, l, h => by omega
  | f + 1, [], _ => by simp [toBytes]
  | f + 1, b :: l, h => by
    have ih := toBytes_eq f ((b :: l).drop 8) (by simp at h ⊢; omega)
    show UInt8.ofNat (numLow ((b :: l).take 8)) :: toBytes f ((b :: l).drop 8) = _
    rw [ih]
    have e : ((b :: l).length + 7) / 8 = (((b :: l).drop 8).length + 7) / 8 + 1 := by
      rw [List.length_drop, List.length_cons]; omega
    rw [e, List.range_succ_eq_map, List.map_cons, List.map_map]
    congr 1
    apply List.map_congr_left
    intro i _
    show UInt8.ofNat (byteAt ((b :: l).drop 8) i) = UInt8.ofNat (byteAt (b :: l) (i + 1))
    unfold byteAt
    rw [List.drop_drop, show 8 + 8 * i = 8 * (i + 1) by omega]
theorem toBytes_V (l : List Bool) (f : Nat) (h : l.length < f) : (toBytes f l).map bU = (List.range ((l.length + 7) / 8)).map fun i => V.int (byteAt l i) := by
  rw [toBytes_eq f l h, List.map_map]
  apply List.map_congr_left
  intro i _
  show V.int ((UInt8.ofNat (byteAt l i)).toNat : Nat) = _
  have := byteAt_lt l i
  rw [UInt8.toNat_ofNat', Nat.mod_eq_of_lt (by omega)]
theorem toBits_snoc (l : Sw.Bytes) (c : UInt8) : toBits (l ++ [c]) = toBits l ++ bitsLow 8 c.toNat := by
  unfold toBits; rw [List.flatMap_append]; simp
theorem toBits_length (l : Sw.Bytes) : (toBits l).length = 8 * l.length := by
  induction l with
  | nil => rfl
  | cons c l ih =>
    show (bitsLow 8 c.toNat ++ toBits l).length = _
    rw [List.length_append, bitsLow_length, ih, List.length_cons]; omega
theorem take_succ_of {α : Type} {l : List α} {i : Nat} {x : α} (h : l[i]? = some x) : l.take (i + 1) = l.take i ++ [x] := by
  rw [List.take_add_one, h]; rfl
theorem map_get {α : Type} {f : α → V} {l : List α} {i : Nat} {v : V} (h : (l.map f)[i]? = some v) : ∃ x, l[i]? = some x ∧ v = f x := by
  rw [List.getElem?_map] at h
  cases e : l[i]? with
  | none => rw [e] at h; cases h
  | some x => rw [e] at h; exact ⟨x, rfl, (Option.some.inj h).symm⟩
/-! ### promises -/
def sp_low_first : Sp := fun vs H Q _ => ∃ (n k : Nat), vs = [.int n, .int k] ∧ k ≤ 100000 ∧
  ∀ H' p, Same H H' → H p = none → H' p = some (.lst ((bitsLow k n).map bV)) → Q (.ref p) H'
def sp_high_first : Sp := fun vs H Q _ => ∃ (n k : Nat), vs = [.int n, .int k] ∧ k ≤ 100000 ∧
  ∀ H' p, Same H H' → H p = none → H' p = some (.lst ((bitsHigh k n).map bV)) → Q (.ref p) H'
def sp_octets_of (K : PySem.W.Frag) : Sp := fun vs H Q _ => ∃ (a : Addr) (l : List Bool), vs = [.ref a] ∧ SqL K H a (l.map bV) ∧ l.length ≤ 1000000 ∧
  ∀ H' p, Same H H' → H p = none → H' p = some (.lst ((toBytes (l.length + 1) l).map bU)) → Q (.ref p) H'
def brF (a : Addr) (k : Nat) : List (Str × V) := [("bits", .ref a), ("taken", .int k)]
/-- a reader of bits, so many of them taken -/
def BR (C : Addr) (H : Hp) (p a : Addr) (bits : List Bool) (k : Nat) : Prop := ∃ dx, H p = some (.ins C dx (brF a k)) ∧ H a = some (.lst (bits.map bV))
theorem brF_bits (a : Addr) (k : Nat) : (brF a k).lookup ("bits" : Str) = some (.ref a) := lk_here
theorem brF_taken (a : Addr) (k : Nat) : (brF a k).lookup ("taken" : Str) = some (.int k) := (lk_past (by decide +kernel)).trans lk_here
theorem brF_put (a : Addr) (k : Nat) (j : Nat) : putF "taken" (.int j) (brF a k) = brF a j := (put_past (by decide +kernel)).trans (congrArg _ put_here)
theorem brF_meth {m : Str} (a : Addr) (k : Nat) (h1 : (m == ("bits" : Str)) = false) (h2 : (m == ("taken" : Str)) = false) : (brF a k).lookup m = none := (lk_past h1).trans ((lk_past h2).trans rfl)
def sp_BitReader_init (K : PySem.W.Frag) (C : Addr) : Sp := fun vs H Q _ => ∃ (p dx a : Addr) (bs : Sw.Bytes), vs = [.ref p, .ref a] ∧ H p = some (.ins C dx []) ∧ SqL K H a (bs.map bU) ∧ bs.length ≤ 100000 ∧
  ∀ H' b, H b = none → BR C H' p b (toBits bs) 0 → SameBut p H H' → Q .non H'
def sp_take_bit (c : CA) : Sp := fun vs H Q E => ∃ (p a : Addr) (bits : List Bool) (k : Nat), vs = [.ref p] ∧ BR c.BitReader H p a bits k ∧ k ≤ bits.length ∧ bits.length ≤ 1000000 ∧
  (k = bits.length → E (.ref c.NoCodedBlock) none H) ∧ ∀ b, bits[k]? = some b → ∀ H', BR c.BitReader H' p a bits (k + 1) → SameBut p H H' → Q (bV b) H'
def sp_take_number (c : CA) : Sp := fun vs H Q E => ∃ (p a : Addr) (bits : List Bool) (k n : Nat), vs = [.ref p, .int n] ∧ BR c.BitReader H p a bits k ∧ k ≤ bits.length ∧ bits.length ≤ 1000000 ∧ n ≤ 10000 ∧
  (bits.length < k + n → ∀ H', SameBut p H H' → E (.ref c.NoCodedBlock) none H') ∧ (k + n ≤ bits.length → ∀ H', BR c.BitReader H' p a bits (k + n) → SameBut p H H' → Q (.int (numAt (bits.drop k) n)) H')
def sp_bits_left (c : CA) : Sp := fun vs H Q _ => ∃ (p a : Addr) (bits : List Bool) (k : Nat), vs = [.ref p] ∧ BR c.BitReader H p a bits k ∧
  ∀ H' q, Same H H' → H q = none → H' q = some (.lst ((bits.drop k).map bV)) → Q (.ref q) H'
theorem sqL_but {K : PySem.W.Frag} {H H' : Hp} {a p C dx : Addr} {fs : List (Str × V)} {xs : List V} (h : SameBut p H H') (hp : H p = some (.ins C dx fs)) (hS : SqL K H a xs) : SqL K H' a xs := by
  rcases hS with (e | ⟨o, e⟩) | e
  · exact .inl (.inl (h a _ (ne_of e hp (by intro z; cases z)) e))
  · exact .inl (.inr ⟨o, h a _ (ne_of e hp (by intro z; cases z)) e⟩)
  · exact .inr e
section
variable {P : Program} {w : World} {K : PySem.W.Frag} {mg : Str → Option Value} {base : Heap}
/-- as Fun.okX, the errors' contexts being None -/
theorem okXN {x qual : Str} {st : Stmt} {f : Addr} {fd : FuncData} {N ps : List Str} {k : Nat} {sp : Sp} (F : Fun K x qual st f fd) (S : FnScope N ps (defScope st)) (len : ∀ vs H Q E, sp vs H Q E → vs.length = ps.length)
    (hbody : ∀ (cdv : Value) (A : Around) (outer : List Env) (s : Shared) (H : Hp) (vs : List V) (Q : VK) (E : XK), Room k (A.deeper (envOfC qual (defScope st) s.heap.objs.size f cdv)) → sp vs H Q E →
      ∃ t, PSs (cxOf (L2N.CX P w) P w K mg base N qual (defScope st) f cdv A outer s H E) (defBody st) t ∧ t { nx := fun _ H' => Q .non H', rt := Q } (start N vs) H) : FnOk P w K mg base (L2N.CX P w) (k + 1) f fd ps sp := by
  obtain ⟨oc, od, kV, doc, pm, an, cdv, ct, osl, rfl, lk, hcd⟩ := F.ex
  exact fn_of lk hcd S len fun A outer s H vs Q E hr hsp => hbody cdv A outer s H vs Q E hr hsp
end
/-! ### bodies -/
section
variable {P : Program} {w : World} {K : PySem.W.Frag} {mg : Str → Option Value} {base : Heap} {c : CA} {f : Addr} {fd : FuncData}
theorem ok_low_first (T : Tx K mg c) (F : Fun K "low_first" "low_first" s_low_first f fd) : FnOk P w K mg base CX0 1 f fd ["number", "width"] sp_low_first := by
  refine F.ok sc_low_first (fun vs H Q E h => ?_) (fun cdv A outer s H vs Q E hr h => ?_)
  · obtain ⟨n, k, rfl, _⟩ := h
    rfl
  · refine ⟨_, (pss_one (ps_ret (pe_lc (own := [("shift", 2)]) (g := gName 2) (tt := tYes) rfl sc_low_first.nd (pi_range1 rfl T.range (pa_cons (pv 1) pa_nil)) (blkOk_by (N := ["number", "width", "shift"]) (sc := defScope s_low_first) (by decide +kernel)) (fun _ _ _ _ _ => pg_name (i := 2) sc_low_first.nd rfl (Or.inl rfl)) (fun _ _ _ _ _ => pts_nil) (fun _ _ _ _ _ => (pe_op op_and (pe_op op_shr (pv 0) (pv 2)) pe_int))))), ?_⟩
    obtain ⟨n, k, rfl, hk, q⟩ := h
    refine ⟨_, rfl, k, rfl, by omega, by omega, fun D hD => lc_it walk_range (fun i H' => H' = upd H D (.lst ((bitsLow i n).map bV))) rfl (fun _ _ _ _ => trivial) (fun i x H' H2 hi e y => ?_) (fun H' e => ?_)⟩
    · obtain ⟨rfl, rfl⟩ := y
      subst e
      refine ⟨rfl, ?_⟩
      refine ⟨_, rfl, _, rfl, _, _, rfl, rfl, by omega, _, _, rfl, rfl, _, upd_same, ?_, ?_⟩
      · rw [List.length_map, bitsLow_length]
        exact line_lt (by omega)
      · rw [upd_upd, bitsLow_succ, List.map_append]
        have e : (0 + (i : Int)).toNat = i := by omega
        dsimp only
        rw [e, bit_of]
        rfl
    · subst e
      exact q _ D (same_new hD) hD upd_same
theorem ok_high_first (T : Tx K mg c) (F : Fun K "high_first" "high_first" s_high_first f fd) : FnOk P w K mg base CX0 1 f fd ["number", "width"] sp_high_first := by
  refine F.ok sc_high_first (fun vs H Q E h => ?_) (fun cdv A outer s H vs Q E hr h => ?_)
  · obtain ⟨n, k, rfl, _⟩ := h
    rfl
  · refine ⟨_, (pss_one (ps_ret (pe_lc (own := [("shift", 2)]) (g := gName 2) (tt := tYes) rfl sc_high_first.nd (pi_range3 rfl T.range (pa_cons (pe_op op_sub (pv 1) pe_int) (pa_cons (pe_un un_neg pe_int) (pa_cons (pe_un un_neg pe_int) pa_nil)))) (blkOk_by (N := ["number", "width", "shift"]) (sc := defScope s_high_first) (by decide +kernel)) (fun _ _ _ _ _ => pg_name (i := 2) sc_high_first.nd rfl (Or.inl rfl)) (fun _ _ _ _ _ => pts_nil) (fun _ _ _ _ _ => (pe_op op_and (pe_op op_shr (pv 0) (pv 2)) pe_int))))), ?_⟩
    obtain ⟨n, k, rfl, hk, q⟩ := h
    have hn : ((k : Int) - 1 - -1).toNat = k := by omega
    have hrg := RgC.neg (i := (k : Int) - 1) (j := -1) (by omega) (by omega) (by omega) (by omega)
    rw [hn] at hrg
    refine ⟨_, rfl, _, _, rfl, rfl, _, rfl, _, rfl, _, _, _, k, rfl, hrg, fun D hD => lc_it walk_rangeC (fun i H' => H' = upd H D (.lst (((List.range i).map fun j => n.testBit (k - 1 - j)).map bV))) rfl (fun _ _ _ _ => trivial) (fun i x H' H2 hi e y => ?_) (fun H' e => ?_)⟩
    · obtain ⟨rfl, rfl⟩ := y
      subst e
      refine ⟨rfl, ?_⟩
      refine ⟨_, rfl, _, rfl, _, _, rfl, rfl, by omega, _, _, rfl, rfl, _, upd_same, ?_, ?_⟩
      · rw [List.length_map, List.length_map, List.length_range]
        exact line_lt (by omega)
      · rw [upd_upd, List.range_succ, List.map_append, List.map_append]
        have e : ((k : Int) - 1 + (i : Int) * -1).toNat = k - 1 - i := by omega
        dsimp only
        rw [e, bit_of]
        rfl
    · subst e
      rw [high_list]
      exact q _ D (same_new hD) hD upd_same
theorem ok_octets_of (T : Tx K mg c) (F : Fun K "octets_of" "octets_of" s_octets_of f fd) : FnOk P w K mg base CX0 1 f fd ["bits"] (sp_octets_of K) := by
  refine F.ok sc_octets_of (fun vs H Q E h => ?_) (fun cdv A outer s H vs Q E hr h => ?_)
  · obtain ⟨a, l, rfl, _⟩ := h
    rfl
  · refine ⟨_, (pss_cons (ps_set (i := 1) sc_octets_of.nd rfl (Or.inl rfl) (pe_lst pa_nil))
  (pss_cons (ps_for PassesOwn.never rfl (pi_range3 rfl T.range (pa_cons pe_int (pa_cons (pe_callB call_len_seq (by rfl) T.len (by decide +kernel) (pa_cons (pv 0) pa_nil)) (pa_cons pe_int pa_nil)))) (pg_name (i := 2) sc_octets_of.nd rfl (Or.inl rfl)) (pss_cons (ps_set (i := 3) sc_octets_of.nd rfl (Or.inl rfl) pe_int)
    (pss_cons (ps_for PassesOwn.never rfl (pi_enum rfl T.enumerate (pa_cons (pe_slice sl_list (pv 0) (po_some (pv 2)) (po_some (pe_op op_add (pv 2) pe_int))) pa_nil)) (pg_tup rfl (pgs_cons (pg_name (i := 4) sc_octets_of.nd rfl (Or.inl rfl)) (pgs_cons (pg_name (i := 5) sc_octets_of.nd rfl (Or.inl rfl)) pgs_nil))) (pss_one (ps_aug (i := 3) sc_octets_of.nd rfl (Or.inl rfl) (pe_op op_shl (pv 5) (pv 4)) iop_or)))
    (pss_one (ps_expr (pe_bm PySem.F.plainAttrs_list PySem.F.slot_list_append PySem.F.type_list_append mt_append (pv 1) (pa_cons (pv 3) pa_nil)))))))
  (pss_one (ps_ret (pv 1))))), ?_⟩
    obtain ⟨a, l, rfl, hS, hl, q⟩ := h
    refine ⟨Nat.zero_le _, fun p hp => ?_⟩
    have hrg := rgc_pos (c := 8) (n := (l.length + 7) / 8) (lo := 0) (hi := (l.length : Int)) (by omega) (by omega) (by omega) (by omega) (by omega) (by omega)
    have hlen : (l.map bV).length = l.length := List.length_map ..
    refine ⟨_, rfl, _, _, rfl, .inl ((same_new hp).seq hS), _, _, _, _, rfl, by rw [hlen]; exact hrg, ?_⟩
    refine for_it walk_rangeC (fun i σ H' => ∃ v2 v3 v4 v5 : Option V, σ = [some (.ref a), some (.ref p), v2, v3, v4, v5] ∧ Same H H' ∧ H' p = some (.lst ((List.range i).map fun j => V.int (byteAt l j))))
      ⟨_, _, _, _, rfl, same_new hp, upd_same⟩ (fun _ _ _ _ _ => trivial) (fun i x σ H' H2 hi hP y => ?_) (fun σ H' hP => ?_)
    · obtain ⟨rfl, rfl⟩ := y
      obtain ⟨v2, v3, v4, v5, rfl, hs, hp2⟩ := hP
      have e1 : (0 : Int) + (i : Nat) * 8 = ((8 * i : Nat) : Int) := by omega
      have e2 : (0 : Int) + (i : Nat) * 8 + 8 = ((8 * i + 8 : Nat) : Int) := by omega
      refine ⟨_, rfl, _, rfl, _, rfl, _, rfl, _, _, rfl, rfl, _, rfl, _, _, rfl, hs.seq hS, fun r hr' => ?_⟩
      have ec : cutV (l.map bV) (some ((0 : Int) + (i : Nat) * 8)) (some ((0 : Int) + (i : Nat) * 8 + 8)) = ((l.drop (8 * i)).take 8).map bV := by
        rw [e1, show ((8 * i : Nat) : Int) + 8 = ((8 * i + 8 : Nat) : Int) by omega, cut_part _ _ _ (by omega), show 8 * i + 8 - 8 * i = 8 by omega, List.map_take, List.map_drop]
      rw [ec]
      have hrp : p ≠ r := ne_of_none hp2 hr'
      refine ⟨_, _, rfl, .inl (.inl upd_same), ?_⟩
      refine for_it walk_enum (fun j σ H3 => ∃ v4 v5 : Option V, σ = [some (.ref a), some (.ref p), some (.int (0 + (i : Nat) * 8)), some (.int (numAt ((l.drop (8 * i)).take 8) j : Nat)), v4, v5] ∧ Same H H3 ∧
          H3 p = some (.lst ((List.range i).map fun j => V.int (byteAt l j))) ∧ H3 r = some (.lst (((l.drop (8 * i)).take 8).map bV)))
        ⟨_, _, rfl, same_made hs hr', by rw [upd_ne hrp]; exact hp2, upd_same⟩ (fun j σ H3 _ hQ => by obtain ⟨_, _, _, _, _, h3⟩ := hQ; exact .inl (.inl h3)) (fun j x σ H3 H4 hj hQ y => ?_) (fun σ H3 hQ => ?_)
      · obtain ⟨v4, v5, rfl, hs3, hp3, hr3⟩ := hQ
        obtain ⟨t, x1, x2, rfl, ht, rfl, hx1, hx2⟩ := y
        cases hx1
        obtain ⟨b, hb, rfl⟩ := map_get hx2
        refine ⟨t, _, rfl, .inl (.inl upd_same), rfl, _, _, rfl, _, _, rfl, rfl, ?_⟩
        refine ⟨_, rfl, _, rfl, _, rfl, _, _, rfl, rfl, ⟨by omega, ?_, ?_⟩, _, _, rfl, rfl, ?_⟩
        · rw [List.length_map, List.length_take] at hj
          omega
        · cases b <;> decide
        · refine ⟨some (.int (j : Nat)), some (bV b), ?_, same_made hs3 ht, by rw [upd_ne (ne_of_none hp3 ht)]; exact hp3, by rw [upd_ne (ne_of_none hr3 ht)]; exact hr3⟩
          rw [numAt_succ hb]
          dsimp only
          rw [Int.toNat_natCast, bI_or (numAt_lt _ _)]
          rfl
      · obtain ⟨v4, v5, rfl, hs3, hp3, hr3⟩ := hQ
        refine ⟨_, rfl, .inl ⟨rfl, _, .inl (.inl hp3)⟩, _, rfl, _, _, _, rfl, rfl, hp3, ?_, ?_⟩
        · rw [List.length_map, List.length_range]
          exact line_lt (by omega)
        · refine ⟨_, _, _, _, rfl, same_upd hs3 hp, ?_⟩
          rw [upd_same, List.range_succ, List.map_append]
          have e : numAt ((l.drop (8 * i)).take 8) ((l.drop (8 * i)).take 8).length = byteAt l i := by
            unfold numAt byteAt
            rw [List.take_length]
          rw [List.length_map, e]
          rfl
    · obtain ⟨v2, v3, v4, v5, rfl, hs, hp2⟩ := hP
      refine ⟨_, rfl, q _ p hs hp ?_⟩
      rw [hp2, toBytes_V l _ (by omega)]
theorem ok_BitReader_init (T : Tx K mg c) (G : Hd P w K mg base CX0 1 "low_first" ["number", "width"] sp_low_first) (F : Fun K "__init__" "BitReader.__init__" s_BitReader_init f fd) : FnOk P w K mg base CX0 2 f fd ["self", "octets"] (sp_BitReader_init K c.BitReader) := by
  refine F.ok sc_BitReader_init (fun vs H Q E h => ?_) (fun cdv A outer s H vs Q E hr h => ?_)
  · obtain ⟨p, dx, a, bs, rfl, _⟩ := h
    rfl
  · refine ⟨_, (pss_cons (ps_fld (pv 0) (pe_lst pa_nil) rfl)
  (pss_cons (ps_for PassesOwn.never rfl (pi_list (pv 1)) (pg_name (i := 2) sc_BitReader_init.nd rfl (Or.inl rfl)) (pss_one (ps_expr (pe_bm PySem.F.plainAttrs_list PySem.F.slot_list_extend PySem.F.type_list_extend mt_extend (pe_fld (pv 0) rfl) (pa_cons (pe_cd G (hr.mono (by decide)) pass0 (pa_cons (pv 2) (pa_cons pe_int pa_nil))) pa_nil)))))
  (pss_one (ps_fld (pv 0) pe_int rfl)))), ?_⟩
    obtain ⟨p, dx, a, bs, rfl, hp, hS, hl, q⟩ := h
    refine ⟨Nat.zero_le _, fun l hl0 => ⟨_, rfl, p, _, dx, _, rfl, by rw [upd_ne (ne_of_none hp hl0)]; exact hp, T.c_BitReader, T.n_BitReader_bits, (by show 0 < 1000; decide), ?_⟩⟩
    have hpl : p ≠ l := ne_of_none hp hl0
    have lkb : List.lookup ("bits" : Str) [(("bits" : Str), V.ref l)] = some (.ref l) := lk_here
    refine ⟨_, rfl, a, rfl, ⟨bs.map bU, ?_⟩, for_it (walk_list (xs := bs.map bU)) (fun i σ H' => ∃ v2 : Option V, σ = [some (.ref p), some (.ref a), v2] ∧ H' p = some (.ins c.BitReader dx [("bits", .ref l)]) ∧
      H' l = some (.lst ((toBits (bs.take i)).map bV)) ∧ SameBut p H H') ⟨_, rfl, upd_same, by rw [upd_ne hpl.symm, upd_same]; rfl, fun b o hb e => ?_⟩ (fun i σ H' _ hP => ?_) (fun i x σ H' H2 hi hP y => ?_) (fun σ H' hP => ?_)⟩
    · exact sqL_but (fun b o hb e => by rw [upd_ne hb, upd_ne (ne_of_none e hl0)]; exact e) hp hS
    · rw [upd_ne hb, upd_ne (ne_of_none e hl0)]
      exact e
    · obtain ⟨_, _, _, _, hs⟩ := hP
      exact sqL_but hs hp hS
    · obtain ⟨rfl, hx⟩ := y
      obtain ⟨v2, rfl, hp2, hl2, hs⟩ := hP
      obtain ⟨o, ho, rfl⟩ := map_get hx
      refine ⟨_, rfl, p, _, dx, _, _, rfl, hp2, T.c_BitReader, T.n_BitReader_bits, lkb, .inl ⟨rfl, _, .inl (.inl hl2)⟩, _, rfl, ?_⟩
      refine ⟨o.toNat, 8, rfl, by decide, fun H3 r hs3 hr hr3 => ?_⟩
      refine ⟨_, _, _, _, rfl, rfl, hs3 _ _ hl2, hr3, ?_, ?_⟩
      · rw [List.length_map, toBits_length, List.length_map, bitsLow_length, List.length_take]
        exact line_le (by omega)
      · refine ⟨_, rfl, by rw [upd_ne hpl]; exact hs3 _ _ hp2, ?_, fun b u hb e => ?_⟩
        · rw [upd_same, take_succ_of ho, toBits_snoc, List.map_append]
        · rw [upd_ne (ne_of_none e hl0)]
          exact hs3 _ _ (hs b u hb e)
    · obtain ⟨v2, rfl, hp2, hl2, hs⟩ := hP
      refine ⟨_, rfl, p, _, dx, _, rfl, hp2, T.c_BitReader, T.n_BitReader_taken, (by show 1 < 1000; decide), ?_⟩
      rw [List.length_map, List.take_length] at hl2
      refine q _ l hl0 ⟨dx, ?_, ?_⟩ fun b u hb e => ?_
      · rw [upd_same]
        exact congrArg (fun q => some (HO.ins c.BitReader dx q)) ((put_past (by decide +kernel)).trans rfl)
      · rw [upd_ne hpl.symm]
        exact hl2
      · rw [upd_ne hb]
        exact hs b u hb e
theorem ok_BitReader_take_bit (T : Tx K mg c) (F : Fun K "take_bit" "BitReader.take_bit" s_BitReader_take_bit f fd) : FnOk P w K mg base (L2N.CX P w) 1 f fd ["self"] (sp_take_bit c) := by
  refine okXN F sc_BitReader_take_bit (fun vs H Q E h => ?_) (fun cdv A outer s H vs Q E hr h => ?_)
  · obtain ⟨p, a, bits, k, rfl, _⟩ := h
    rfl
  · refine ⟨_, (pss_cons (ps_if (pt_cmpR op_eq (pe_fld (pv 0) rfl) (pe_callB call_len_seq (by rfl) T.len (by decide +kernel) (pa_cons (pe_fld (pv 0) rfl) pa_nil)) (nomark _)) (pss_one (L2N.ps_raise rfl (L2N.takes_of rfl rfl rfl rfl) (pmk_own0N PySem.F.excBase_ValueError T.x_NoCodedBlock T.g_NoCodedBlock T.k_NoCodedBlock (raises_own T.b_NoCodedBlock T.t_NoCodedBlock) (by exact rfl)))) pss_nil)
  (pss_cons (ps_fldaug (pv 0) pe_int in_add)
  (pss_one (ps_ret (pe_ix ix_list (pe_fld (pv 0) rfl) (pe_op op_sub (pe_fld (pv 0) rfl) pe_int) (fun _ _ => rfl)))))), ?_⟩
    obtain ⟨p, a, bits, k, rfl, ⟨dx, hp, ha⟩, hk, hl, hE, q⟩ := h
    refine ⟨_, rfl, p, _, dx, _, _, rfl, hp, T.c_BitReader, T.n_BitReader_taken, brF_taken a k, _, rfl, p, _, dx, _, _, rfl, hp, T.c_BitReader, T.n_BitReader_bits, brF_bits a k, _, _, rfl, .inl (.inl (.inl ha)), ?_⟩
    refine ⟨rfl, _, rfl, ?_⟩
    refine ite2 (fun h1 => ?_) (fun h1 => ?_)
    · rw [List.length_map] at h1
      have h2 : k = bits.length := by
        have := of_decide_eq_true h1
        injection this with this
        omega
      exact hE h2
    · have h2 : k < bits.length := by
        rcases Nat.lt_or_ge k bits.length with h | h
        · exact h
        · exfalso
          apply h1
          rw [List.length_map, show k = bits.length by omega]
          exact decide_eq_true rfl
      refine ⟨_, rfl, p, _, dx, _, _, rfl, hp, T.c_BitReader, T.n_BitReader_taken, brF_taken a k, _, _, rfl, rfl, dx, _, hp, (by show 2 < 1000; decide), ?_⟩
      have hpa : a ≠ p := ne_of ha hp (by intro z; cases z)
      have e1 : (k : Int) + 1 = ((k + 1 : Nat) : Int) := by omega
      rw [e1, brF_put]
      have hp2 : upd H p (.ins c.BitReader dx (brF a (k + 1))) p = some (.ins c.BitReader dx (brF a (k + 1))) := upd_same
      have ha2 : upd H p (.ins c.BitReader dx (brF a (k + 1))) a = some (.lst (bits.map bV)) := by rw [upd_ne hpa]; exact ha
      have hs2 : SameBut p H (upd H p (.ins c.BitReader dx (brF a (k + 1)))) := fun b o hb e => by rw [upd_ne hb]; exact e
      generalize upd H p (.ins c.BitReader dx (brF a (k + 1))) = H2 at hp2 ha2 hs2 ⊢
      have hb : bits[k]? = some bits[k] := List.getElem?_eq_getElem h2
      refine ⟨_, rfl, p, _, dx, _, _, rfl, hp2, T.c_BitReader, T.n_BitReader_bits, brF_bits _ _, _, rfl, p, _, dx, _, _, rfl, hp2, T.c_BitReader, T.n_BitReader_taken, brF_taken _ _, _, _, rfl, rfl, ?_⟩
      refine ⟨_, _, _, _, rfl, rfl, .inl (.inl ha2), at_of (j := k) (by omega) (by rw [List.getElem?_map, hb]; rfl), ?_⟩
      exact q _ hb _ ⟨dx, hp2, ha2⟩ hs2
theorem ok_BitReader_take_number (T : Tx K mg c) (G : Hm P w K mg base (L2N.CX P w) 1 c.BitReader "take_bit" ["self"] (sp_take_bit c)) (F : Fun K "take_number" "BitReader.take_number" s_BitReader_take_number f fd) :
    FnOk P w K mg base (L2N.CX P w) 2 f fd ["self", "width"] (sp_take_number c) := by
  refine okXN F sc_BitReader_take_number (fun vs H Q E h => ?_) (fun cdv A outer s H vs Q E hr h => ?_)
  · obtain ⟨p, a, bits, k, n, rfl, _⟩ := h
    rfl
  · refine ⟨_, (pss_cons (ps_set (i := 2) sc_BitReader_take_number.nd rfl (Or.inl rfl) pe_int)
  (pss_cons (ps_for (passes_of rfl) rfl (pi_range1 rfl T.range (pa_cons (pv 1) pa_nil)) (pg_name (i := 3) sc_BitReader_take_number.nd rfl (Or.inl rfl)) (pss_one (ps_aug (i := 2) sc_BitReader_take_number.nd rfl (Or.inl rfl) (pe_op op_shl (pe_md0 T.c_BitReader G (hr.mono (by decide)) (L2N.passes_call (L2N.takes_of rfl rfl rfl rfl) (fun _ _ _ _ h => h)) (pv 0)) (pv 3)) iop_or)))
  (pss_one (ps_ret (pv 2))))), ?_⟩
    obtain ⟨p, a, bits, k, n, rfl, hB, hk, hl, hn, hE, q⟩ := h
    refine ⟨_, rfl, n, rfl, by omega, by omega, ?_⟩
    refine for_it (walk_range (lo := 0) (n := n)) (fun i σ H' => ∃ v3 : Option V, σ = [some (.ref p), some (.int n), some (.int (numAt (bits.drop k) i : Nat)), v3] ∧ BR c.BitReader H' p a bits (k + i) ∧ SameBut p H H' ∧ k + i ≤ bits.length)
      ⟨_, rfl, hB, fun _ _ _ e => e, hk⟩ (fun _ _ _ _ _ => trivial) (fun i x σ H' H2 hi hP y => ?_) (fun σ H' hP => ?_)
    · obtain ⟨rfl, rfl⟩ := y
      obtain ⟨v3, rfl, hB2, hs, hle⟩ := hP
      obtain ⟨dx, hp2, ha2⟩ := id hB2
      refine ⟨_, rfl, _, rfl, p, dx, _, rfl, hp2, brF_meth a _ (by decide +kernel) (by decide +kernel), ?_⟩
      refine ⟨p, a, bits, k + i, rfl, hB2, hle, hl, fun h => ?_, fun b hb H3 hB3 hs3 => ?_⟩
      · exact hE (by omega) _ hs
      · refine ⟨_, rfl, _, _, rfl, rfl, ⟨by omega, by omega, ?_⟩, _, _, rfl, rfl, ?_⟩
        · cases b <;> decide
        · have hlt := (List.getElem?_eq_some_iff.mp hb).1
          refine ⟨some (.int (0 + (i : Nat))), ?_, hB3, fun b o hb e => hs3 b o hb (hs b o hb e), by omega⟩
          have e : (bits.drop k)[i]? = some b := by rw [List.getElem?_drop]; exact hb
          rw [numAt_succ e]
          dsimp only
          rw [show (0 + (i : Int)).toNat = i by omega, bI_or (numAt_lt _ _)]
          rfl
    · obtain ⟨v3, rfl, hB2, hs, hle⟩ := hP
      exact ⟨_, rfl, q hle _ hB2 hs⟩
theorem ok_BitReader_bits_left (T : Tx K mg c) (F : Fun K "bits_left" "BitReader.bits_left" s_BitReader_bits_left f fd) : FnOk P w K mg base CX0 1 f fd ["self"] (sp_bits_left c) := by
  refine F.ok sc_BitReader_bits_left (fun vs H Q E h => ?_) (fun cdv A outer s H vs Q E hr h => ?_)
  · obtain ⟨p, a, bits, k, rfl, _⟩ := h
    rfl
  · refine ⟨_, (pss_one (ps_ret (pe_slice sl_list (pe_fld (pv 0) rfl) (po_some (pe_fld (pv 0) rfl)) po_none))), ?_⟩
    obtain ⟨p, a, bits, k, rfl, ⟨dx, hp, ha⟩, q⟩ := h
    refine ⟨_, rfl, p, _, dx, _, _, rfl, hp, T.c_BitReader, T.n_BitReader_bits, brF_bits a k, _, rfl, p, _, dx, _, _, rfl, hp, T.c_BitReader, T.n_BitReader_taken, brF_taken a k, _, rfl, _, _, rfl, .inl (.inl ha), fun r hr2 => ?_⟩
    refine q _ r (same_new hr2) hr2 ?_
    rw [upd_same, cut_drop, List.map_drop]
end
end Sq
end
section
/-! Codes: the rows of items without their symbols, and how many leaves are counted. -/
namespace MC
open SwSqueeze

/-! ### counting by increments -/
theorem set_getD_incr (a : Array Nat) (s i : Nat) : (a.set! s (a.getD s 0 + 1)).getD i 0 = if s = i ∧ s < a.size then a.getD i 0 + 1 else a.getD i 0 := by
  simp only [Array.set!_eq_setIfInBounds, Array.getD_eq_getD_getElem?, Array.getElem?_setIfInBounds]
  by_cases h : s = i
  · subst h
    by_cases h2 : s < a.size
    · simp [h2]
    · simp [h2]
  · simp [h]
def incs (a : Array Nat) (l : List Nat) : Array Nat := l.foldl (fun (a : Array Nat) (s : Nat) => a.set! s (a.getD s 0 + 1)) a
theorem incs_size : ∀ (l : List Nat) (a : Array Nat), (incs a l).size = a.size
  | [], a => rfl
  | s :: l, a => by
    show (incs (a.set! s (a.getD s 0 + 1)) l).size = a.size
    rw [incs_size l]; simp
theorem incs_getD : ∀ (l : List Nat) (a : Array Nat) (i : Nat), i < a.size → (incs a l).getD i 0 = a.getD i 0 + l.count i
  | [], a, i, _ => by simp [incs]
  | s :: l, a, i, h => by
    show (incs (a.set! s (a.getD s 0 + 1)) l).getD i 0 = _
    rw [incs_getD l _ i (by simpa using h), set_getD_incr, List.count_cons]
    by_cases e : s = i
    · subst e; simp [h]; omega
    · simp [e]
theorem incs_toList (n : Nat) (l : List Nat) : (incs (Array.replicate n 0) l).toList = (List.range n).map fun i => l.count i := by
  apply List.ext_getElem?
  intro i
  by_cases h : i < n
  · have hs : (incs (Array.replicate n 0) l).size = n := by rw [incs_size]; simp
    have hg := incs_getD l (Array.replicate n 0) i (by simpa using h)
    have : (incs (Array.replicate n 0) l).toList[i]? = some ((incs (Array.replicate n 0) l).getD i 0) := by
      rw [Array.getD_eq_getD_getElem?, Array.getElem?_toList, Array.getElem?_eq_getElem (by omega)]
      simp
    rw [this, hg]
    simp [h, Array.getD_eq_getD_getElem?]
  · have hs : (incs (Array.replicate n 0) l).size = n := by rw [incs_size]; simp
    rw [List.getElem?_eq_none (by simp [hs]; omega), List.getElem?_eq_none (by simp; omega)]

/-! ### rows with leaves marked -/
structure E where
  w : Nat
  leaf : Bool
  sy : List Nat
def E.item (e : E) : Item := ⟨e.w, e.sy⟩
def E.pi (e : E) : Nat × Bool := (e.w, e.leaf)
def emerge : (f : Nat) → List E → List E → List E
  | 0, _, _ => []
  | _ + 1, [], q => q
  | _ + 1, p, [] => p
  | f + 1, a :: p, b :: q => if a.w ≤ b.w then a :: emerge f p (b :: q) else b :: emerge f (a :: p) q
def epack : List E → List E
  | a :: b :: l => ⟨a.w + b.w, false, a.sy ++ b.sy⟩ :: epack l
  | _ => []
def erow (leaves : List E) : Nat → List E
  | 0 => leaves
  | n + 1 => let p := epack (erow leaves n); emerge (leaves.length + p.length + 1) leaves p
theorem emerge_item : ∀ (f : Nat) (p q : List E), (emerge f p q).map E.item = merge f (p.map E.item) (q.map E.item)
  | 0, _, _ => rfl
  | _ + 1, [], q => by simp [emerge, merge]
  | _ + 1, a :: p, [] => by simp [emerge, merge]
  | f + 1, a :: p, b :: q => by
    have h1 := emerge_item f p (b :: q)
    have h2 := emerge_item f (a :: p) q
    simp only [emerge, merge, List.map_cons] at *
    show (List.map E.item (if a.w ≤ b.w then _ else _)) = if a.w ≤ b.w then _ else _
    split
    · rw [List.map_cons, h1]
    · rw [List.map_cons, h2]
theorem epack_item : ∀ (l : List E), (epack l).map E.item = packages (l.map E.item)
  | [] => rfl
  | [_] => rfl
  | a :: b :: l => by
    show E.item ⟨a.w + b.w, false, a.sy ++ b.sy⟩ :: (epack l).map E.item = _
    rw [epack_item l]; rfl
theorem epack_length : ∀ (l : List E), (epack l).length = l.length / 2
  | [] => rfl
  | [_] => by simp [epack]
  | a :: b :: l => by
    show (epack l).length + 1 = (l.length + 2) / 2
    rw [epack_length l]; omega
theorem erow_item (leaves : List E) : ∀ n, (erow leaves n).map E.item = rowAfter (leaves.map E.item) n
  | 0 => rfl
  | n + 1 => by
    show (emerge (leaves.length + (epack (erow leaves n)).length + 1) leaves (epack (erow leaves n))).map E.item = _
    rw [emerge_item, epack_item, erow_item leaves n]
    show _ = merge ((leaves.map E.item).length + (packages (rowAfter (leaves.map E.item) n)).length + 1) _ _
    rw [← erow_item leaves n, ← epack_item]
    simp
/-! the merge: its length, its perm, what the first w are -/
theorem emerge_length : ∀ (f : Nat) (p q : List E), p.length + q.length < f → (emerge f p q).length = p.length + q.length
  | 0, _, _, h => by omega
  | _ + 1, [], q, _ => by simp [emerge]
  | _ + 1, a :: p, [], _ => by simp [emerge]
  | f + 1, a :: p, b :: q, h => by
    simp only [List.length_cons] at h
    simp only [emerge]
    split
    · rw [List.length_cons, emerge_length f p (b :: q) (by simp; omega)]; simp; omega
    · rw [List.length_cons, emerge_length f (a :: p) q (by simp; omega)]; simp; omega
/-- leaves among the first w -/
def alone (w : Nat) (l : List E) : Nat := ((l.take w).filter E.leaf).length
theorem filter_true {l : List E} (h : ∀ e ∈ l, e.leaf = true) : l.filter E.leaf = l := List.filter_eq_self.mpr h
theorem filter_false {l : List E} (h : ∀ e ∈ l, e.leaf = false) : l.filter E.leaf = [] := List.filter_eq_nil_iff.mpr (fun e he => by simp [h e he])
theorem alone_true (w : Nat) {l : List E} (h : ∀ e ∈ l, e.leaf = true) : alone w l = min w l.length := by
  unfold alone
  rw [filter_true (fun e he => h e (List.mem_of_mem_take he)), List.length_take]
theorem alone_false (w : Nat) {l : List E} (h : ∀ e ∈ l, e.leaf = false) : alone w l = 0 := by
  unfold alone
  rw [filter_false (fun e he => h e (List.mem_of_mem_take he))]; rfl
theorem take_emerge : ∀ (f : Nat) (p q : List E) (w : Nat), p.length + q.length < f → (∀ e ∈ p, e.leaf = true) → (∀ e ∈ q, e.leaf = false) →
    ((emerge f p q).take w).Perm (p.take (alone w (emerge f p q)) ++ q.take (w - alone w (emerge f p q))) ∧ alone w (emerge f p q) ≤ p.length ∧ alone w (emerge f p q) ≤ w
  | 0, _, _, _, h, _, _ => by omega
  | _ + 1, [], q, w, _, _, hq => by
    simp only [emerge]
    rw [alone_false w hq]
    simp
  | _ + 1, a :: p, [], w, _, hp, _ => by
    simp only [emerge]
    rw [alone_true w hp]
    refine ⟨?_, Nat.min_le_right _ _, Nat.min_le_left _ _⟩
    simp only [List.take_nil, List.append_nil]
    rw [← List.take_take, List.take_length]
  | f + 1, a :: p, b :: q, 0, h, hp, hq => by
    simp [alone]
  | f + 1, a :: p, b :: q, w + 1, h, hp, hq => by
    simp only [List.length_cons] at h
    have ha : a.leaf = true := hp a (List.mem_cons_self ..)
    have hb : b.leaf = false := hq b (List.mem_cons_self ..)
    simp only [emerge]
    split
    · obtain ⟨i1, i2, i3⟩ := take_emerge f p (b :: q) w (by simp; omega) (fun e he => hp e (List.mem_cons_of_mem _ he)) hq
      have e : alone (w + 1) (a :: emerge f p (b :: q)) = alone w (emerge f p (b :: q)) + 1 := by
        simp [alone, ha]
      rw [e]
      refine ⟨?_, by simp; omega, by omega⟩
      simp only [List.take_succ_cons, List.cons_append]
      refine List.Perm.cons _ ?_
      rw [show w + 1 - (alone w (emerge f p (b :: q)) + 1) = w - alone w (emerge f p (b :: q)) by omega]
      exact i1
    · obtain ⟨i1, i2, i3⟩ := take_emerge f (a :: p) q w (by simp; omega) hp (fun e he => hq e (List.mem_cons_of_mem _ he))
      have e : alone (w + 1) (b :: emerge f (a :: p) q) = alone w (emerge f (a :: p) q) := by
        simp [alone, hb]
      rw [e]
      refine ⟨?_, i2, by omega⟩
      rw [show w + 1 - alone w (emerge f (a :: p) q) = (w - alone w (emerge f (a :: p) q)) + 1 by omega]
      simp only [List.take_succ_cons]
      exact (List.Perm.cons _ i1).trans List.perm_middle.symm
theorem epack_leaf : ∀ (l : List E), ∀ e ∈ epack l, e.leaf = false
  | [], e, h => by cases h
  | [_], e, h => by cases h
  | a :: b :: l, e, h => by
    cases h with
    | head => rfl
    | tail _ h => exact epack_leaf l e h
theorem epack_take : ∀ (l : List E) (j : Nat), 2 * j ≤ l.length → ((epack l).take j).flatMap E.sy = (l.take (2 * j)).flatMap E.sy
  | _, 0, _ => by simp
  | [], j + 1, h => by simp at h
  | [_], j + 1, h => by simp at h; omega
  | a :: b :: l, j + 1, h => by
    simp only [List.length_cons] at h
    show ((⟨a.w + b.w, false, a.sy ++ b.sy⟩ :: epack l).take (j + 1)).flatMap E.sy = ((a :: b :: l).take (2 * j + 2)).flatMap E.sy
    simp only [List.take_succ_cons, List.flatMap_cons]
    rw [epack_take l j (by omega), List.append_assoc]
/-- of each row, the last first, how many leaves are counted -/
def counts (leaves : List E) : Nat → Nat → List Nat
  | 0, w => [alone w (erow leaves 0)]
  | n + 1, w => let a := alone w (erow leaves (n + 1)); a :: counts leaves n (2 * (w - a))
theorem erow_length (leaves : List E) (n : Nat) : (erow leaves (n + 1)).length = leaves.length + (erow leaves n).length / 2 := by
  show (emerge (leaves.length + (epack (erow leaves n)).length + 1) leaves (epack (erow leaves n))).length = _
  rw [emerge_length _ _ _ (by omega), epack_length]
theorem counts_perm (leaves : List E) (hl : ∀ e ∈ leaves, e.leaf = true) : ∀ (n w : Nat), w ≤ (erow leaves n).length →
    (((erow leaves n).take w).flatMap E.sy).Perm ((counts leaves n w).flatMap fun a => (leaves.take a).flatMap E.sy)
  | 0, w, h => by
    show ((leaves.take w).flatMap E.sy).Perm (([alone w leaves]).flatMap fun a => (leaves.take a).flatMap E.sy)
    have h' : w ≤ leaves.length := h
    rw [alone_true w hl, Nat.min_eq_left h']
    simp
  | n + 1, w, h => by
    have t := take_emerge (leaves.length + (epack (erow leaves n)).length + 1) leaves (epack (erow leaves n)) w (by omega) hl (epack_leaf _)
    have hle := erow_length leaves n
    generalize ha : alone w (erow leaves (n + 1)) = a at *
    have ha' : alone w (emerge (leaves.length + (epack (erow leaves n)).length + 1) leaves (epack (erow leaves n))) = a := ha
    rw [ha'] at t
    obtain ⟨t1, t2, t3⟩ := t
    have hj : 2 * (w - a) ≤ (erow leaves n).length := by
      have tl := t1.length_eq
      have e1 : ((emerge (leaves.length + (epack (erow leaves n)).length + 1) leaves (epack (erow leaves n))).take w).length = w := by
        rw [List.length_take, Nat.min_eq_left]
        exact h
      rw [e1] at tl
      simp only [List.length_append, List.length_take, epack_length] at tl
      omega
    have ih := counts_perm leaves hl n (2 * (w - a)) hj
    show (((erow leaves (n + 1)).take w).flatMap E.sy).Perm ((alone w (erow leaves (n + 1)) :: counts leaves n (2 * (w - alone w (erow leaves (n + 1))))).flatMap fun a => (leaves.take a).flatMap E.sy)
    rw [ha, List.flatMap_cons]
    refine (t1.flatMap_right E.sy).trans ?_
    rw [List.flatMap_append]
    refine List.Perm.append_left _ ?_
    rw [epack_take _ _ hj]
    exact ih
/-- the last row has as many items as are taken -/
theorem erow_long (leaves : List E) (h1 : 1 ≤ leaves.length) : ∀ n, 2 * leaves.length - 1 ≤ (erow leaves n).length + leaves.length / 2 ^ n
  | 0 => by
    show _ ≤ leaves.length + leaves.length / 1
    omega
  | n + 1 => by
    have ih := erow_long leaves h1 n
    rw [erow_length, Nat.pow_succ, ← Nat.div_div_eq_div_mul]
    omega
theorem erow14 (leaves : List E) (h1 : 1 ≤ leaves.length) (h2 : leaves.length ≤ 16384) : 2 * leaves.length - 2 ≤ (erow leaves 14).length := by
  have := erow_long leaves h1 14
  have h : leaves.length / 2 ^ 14 ≤ 1 := by
    have := Nat.div_le_div_right (c := 2 ^ 14) h2
    simpa using this
  omega
/-- some row counts all leaves -/
theorem counts_all (leaves : List E) (h2 : 2 ≤ leaves.length) (hl : ∀ e ∈ leaves, e.leaf = true) : ∀ (n w : Nat), 2 * leaves.length - 2 ≤ w → leaves.length ∈ counts leaves n w
  | 0, w, h => by
    show _ ∈ [alone w leaves]
    rw [alone_true w hl, Nat.min_eq_right (by omega)]
    exact List.mem_cons_self ..
  | n + 1, w, h => by
    show _ ∈ alone w (erow leaves (n + 1)) :: counts leaves n (2 * (w - alone w (erow leaves (n + 1))))
    by_cases e : alone w (erow leaves (n + 1)) = leaves.length
    · rw [e]; exact List.mem_cons_self ..
    · have t := take_emerge (leaves.length + (epack (erow leaves n)).length + 1) leaves (epack (erow leaves n)) w (by omega) hl (epack_leaf _)
      have t2 : alone w (erow leaves (n + 1)) ≤ leaves.length := t.2.1
      exact List.mem_cons_of_mem _ (counts_all leaves h2 hl n _ (by omega))
theorem counts_length (leaves : List E) : ∀ n w, (counts leaves n w).length = n + 1
  | 0, _ => rfl
  | n + 1, w => congrArg (· + 1) (counts_length leaves n _)
theorem counts_le (leaves : List E) (hl : ∀ e ∈ leaves, e.leaf = true) : ∀ n w, ∀ a ∈ counts leaves n w, a ≤ leaves.length
  | 0, w, a, h => by
    rw [show counts leaves 0 w = [alone w leaves] from rfl, List.mem_singleton] at h
    rw [h, alone_true w hl]
    exact Nat.min_le_right _ _
  | n + 1, w, a, h => by
    have h' : a ∈ alone w (erow leaves (n + 1)) :: counts leaves n (2 * (w - alone w (erow leaves (n + 1)))) := h
    have t := take_emerge (leaves.length + (epack (erow leaves n)).length + 1) leaves (epack (erow leaves n)) w (by omega) hl (epack_leaf _)
    cases List.mem_cons.mp h' with
    | inl e => rw [e]; exact t.2.1
    | inr e => exact counts_le leaves hl n _ a e

/-! ### sortedness: the stable sort of leaves and packages is the merge -/
def le1 (a b : E) : Bool := decide (a.w ≤ b.w)
def Srt (l : List E) : Prop := l.Pairwise fun a b => a.w ≤ b.w
theorem emerge_mem : ∀ (f : Nat) (p q : List E) (e : E), e ∈ emerge f p q → e ∈ p ∨ e ∈ q
  | 0, _, _, e, h => by cases h
  | _ + 1, [], q, e, h => .inr (by simpa [emerge] using h)
  | _ + 1, a :: p, [], e, h => .inl (by simpa [emerge] using h)
  | f + 1, a :: p, b :: q, e, h => by
    simp only [emerge] at h
    split at h
    · cases List.mem_cons.mp h with
      | inl x => exact .inl (x ▸ List.mem_cons_self ..)
      | inr x => exact (emerge_mem f p (b :: q) e x).imp (List.mem_cons_of_mem _) id
    · cases List.mem_cons.mp h with
      | inl x => exact .inr (x ▸ List.mem_cons_self ..)
      | inr x => exact (emerge_mem f (a :: p) q e x).imp id (List.mem_cons_of_mem _)
theorem emerge_srt : ∀ (f : Nat) (p q : List E), Srt p → Srt q → Srt (emerge f p q)
  | 0, _, _, _, _ => List.Pairwise.nil
  | _ + 1, [], q, _, hq => by simpa [emerge] using hq
  | _ + 1, a :: p, [], hp, _ => by simpa [emerge] using hp
  | f + 1, a :: p, b :: q, hp, hq => by
    have hp' := List.pairwise_cons.mp hp
    have hq' := List.pairwise_cons.mp hq
    simp only [emerge]
    split
    · rename_i c
      refine List.pairwise_cons.mpr ⟨fun e he => ?_, emerge_srt f p (b :: q) hp'.2 hq⟩
      cases emerge_mem f p (b :: q) e he with
      | inl x => exact hp'.1 e x
      | inr x => cases List.mem_cons.mp x with
        | inl y => rw [y]; exact c
        | inr y => exact Nat.le_trans c (hq'.1 e y)
    · rename_i c
      refine List.pairwise_cons.mpr ⟨fun e he => ?_, emerge_srt f (a :: p) q hp hq'.2⟩
      cases emerge_mem f (a :: p) q e he with
      | inr x => exact hq'.1 e x
      | inl x => cases List.mem_cons.mp x with
        | inl y => rw [y]; omega
        | inr y => exact Nat.le_trans (by omega) (hp'.1 e y)
theorem epack_mem_ge : ∀ (l : List E) (m : Nat), (∀ e ∈ l, m ≤ e.w) → ∀ e ∈ epack l, 2 * m ≤ e.w
  | [], m, h, e, he => by cases he
  | [_], m, h, e, he => by cases he
  | a :: b :: l, m, h, e, he => by
    have ha := h a (by simp)
    have hb := h b (by simp)
    cases he with
    | head => show 2 * m ≤ a.w + b.w; omega
    | tail _ he => exact epack_mem_ge l m (fun e he => h e (by simp [he])) e he
theorem epack_lb : ∀ (l : List E) (m : Nat), (∀ e ∈ l, m ≤ e.w) → ∀ n, (∀ e ∈ l, n ≤ e.w) → ∀ e ∈ epack l, m + n ≤ e.w
  | [], m, h, n, h2, e, he => by cases he
  | [_], m, h, n, h2, e, he => by cases he
  | a :: b :: l, m, h, n, h2, e, he => by
    have ha := h a (by simp)
    have hb := h2 b (by simp)
    cases he with
    | head => show m + n ≤ a.w + b.w; omega
    | tail _ he => exact epack_lb l m (fun e he => h e (by simp [he])) n (fun e he => h2 e (by simp [he])) e he
theorem epack_srt : ∀ (l : List E), Srt l → Srt (epack l)
  | [], _ => List.Pairwise.nil
  | [_], _ => List.Pairwise.nil
  | a :: b :: l, h => by
    have h1 := List.pairwise_cons.mp h
    have h2 := List.pairwise_cons.mp h1.2
    refine List.pairwise_cons.mpr ⟨fun e he => ?_, epack_srt l h2.2⟩
    exact epack_lb l a.w (fun e he => h1.1 e (by simp [he])) b.w (fun e he => h2.1 e he) e he
theorem erow_srt (leaves : List E) (h : Srt leaves) : ∀ n, Srt (erow leaves n)
  | 0 => h
  | n + 1 => emerge_srt _ _ _ h (epack_srt _ (erow_srt leaves h n))
/-- of one weight the items stand in the order leaves, packages -/
theorem emerge_filter (w : Nat) : ∀ (f : Nat) (p q : List E), p.length + q.length < f → Srt p → Srt q → (emerge f p q).filter (fun e => e.w == w) = p.filter (fun e => e.w == w) ++ q.filter (fun e => e.w == w)
  | 0, _, _, h, _, _ => by omega
  | _ + 1, [], q, _, _, _ => by simp [emerge]
  | _ + 1, a :: p, [], _, _, _ => by simp [emerge]
  | f + 1, a :: p, b :: q, h, hp, hq => by
    simp only [List.length_cons] at h
    have hp' := List.pairwise_cons.mp hp
    have hq' := List.pairwise_cons.mp hq
    simp only [emerge]
    split
    · have ih := emerge_filter w f p (b :: q) (by simp; omega) hp'.2 hq
      rw [List.filter_cons, ih, List.filter_cons (x := a) (xs := p)]
      split <;> simp
    · rename_i c
      have ih := emerge_filter w f (a :: p) q (by simp; omega) hp hq'.2
      rw [List.filter_cons, ih, List.filter_cons (x := b) (xs := q)]
      split
      · rename_i d
        have e1 : b.w = w := by simpa using d
        have : (a :: p).filter (fun e => e.w == w) = [] := by
          rw [List.filter_eq_nil_iff]
          intro e he
          have : a.w ≤ e.w := by
            cases List.mem_cons.mp he with
            | inl y => rw [y]; exact Nat.le_refl _
            | inr y => exact hp'.1 e y
          simp; omega
        rw [this]; simp
      · rfl
end MC
end
section
namespace MC
open SwSqueeze PySem.W

theorem le1_total : TotalLe le1 where
  trans := fun a b c h1 h2 => by simp [le1] at *; omega
  total := fun a b => by simp [le1]; omega
theorem rank_le1 (c a : E) : sameRank le1 c a = (a.w == c.w) := by
  unfold sameRank le1
  rw [Bool.eq_iff_iff]
  simp
  omega
theorem emerge_sort {p q : List E} (hp : Srt p) (hq : Srt q) : emerge (p.length + q.length + 1) p q = (p ++ q).mergeSort le1 := by
  apply sort_unique le1_total
  · have := emerge_srt (p.length + q.length + 1) p q hp hq
    exact this.imp (fun h => by simpa [le1] using h)
  · intro c
    have e : sameRank le1 c = fun a => a.w == c.w := funext (rank_le1 c)
    rw [e, List.filter_append]
    exact emerge_filter c.w _ p q (by omega) hp hq
/-- the program's packages and rows: weight and whether it's a leaf -/
def ppack : List (Nat × Bool) → List (Nat × Bool)
  | a :: b :: l => (a.1 + b.1, false) :: ppack l
  | _ => []
def leP (a b : Nat × Bool) : Bool := decide (a.1 ≤ b.1)
def rowBehind (leaves row : List (Nat × Bool)) : List (Nat × Bool) := (leaves ++ ppack row).mergeSort leP
def prow (leaves : List (Nat × Bool)) : Nat → List (Nat × Bool)
  | 0 => leaves
  | n + 1 => rowBehind leaves (prow leaves n)
theorem epack_pi : ∀ l : List E, (epack l).map E.pi = ppack (l.map E.pi)
  | [] => rfl
  | [_] => rfl
  | a :: b :: l => by
    show E.pi ⟨a.w + b.w, false, a.sy ++ b.sy⟩ :: (epack l).map E.pi = _
    rw [epack_pi l]; rfl
theorem erow_pi (leaves : List E) (h : Srt leaves) : ∀ n, (erow leaves n).map E.pi = prow (leaves.map E.pi) n
  | 0 => rfl
  | n + 1 => by
    show (emerge (leaves.length + (epack (erow leaves n)).length + 1) leaves (epack (erow leaves n))).map E.pi = ((leaves.map E.pi) ++ ppack (prow (leaves.map E.pi) n)).mergeSort leP
    rw [emerge_sort h (epack_srt _ (erow_srt leaves h n)), sort_maps (r := le1) (s := leP) E.pi (fun a _ b _ => rfl), List.map_append, epack_pi, erow_pi leaves h n]
/-- how many leaves of the first w -/
def palone (w : Nat) (row : List (Nat × Bool)) : Nat := ((row.take w).filter (·.2)).length
theorem alone_pi (w : Nat) (l : List E) : alone w l = palone w (l.map E.pi) := by
  unfold alone palone
  rw [← List.map_take, List.filter_map, List.length_map]
  rfl
/-- the counting over the rows, the last first -/
def pcounts (leaves : List (Nat × Bool)) : Nat → Nat → List Nat
  | 0, w => [palone w leaves]
  | n + 1, w => palone w (prow leaves (n + 1)) :: pcounts leaves n (2 * (w - palone w (prow leaves (n + 1))))
theorem counts_pi (leaves : List E) (h : Srt leaves) : ∀ n w, counts leaves n w = pcounts (leaves.map E.pi) n w
  | 0, w => by
    show [alone w leaves] = [palone w (leaves.map E.pi)]
    rw [alone_pi]
  | n + 1, w => by
    show alone w (erow leaves (n + 1)) :: counts leaves n (2 * (w - alone w (erow leaves (n + 1)))) = palone w (prow (leaves.map E.pi) (n + 1)) :: _
    rw [alone_pi, erow_pi leaves h, counts_pi leaves h n]
theorem palone_le (w : Nat) (row : List (Nat × Bool)) : palone w row ≤ w := by
  unfold palone
  exact Nat.le_trans (List.length_filter_le _ _) (by rw [List.length_take]; exact Nat.min_le_left _ _)

/-! ### the leaves of the document -/
/-- the symbols that come, by how often, of as often by the lesser -/
def symsOf (often : List Nat) : List Nat := ((List.range often.length).filter fun s => often.getD s 0 != 0).mergeSort fun a b => decide (often.getD a 0 ≤ often.getD b 0)
def eleaves (often : List Nat) : List E := (symsOf often).map fun s => ⟨often.getD s 0, true, [s]⟩
theorem zipIdx_range (l : List Nat) : l.zipIdx = (List.range l.length).map fun s => (l.getD s 0, s) := by
  apply List.ext_getElem?
  intro i
  simp [List.getElem?_zipIdx]
  by_cases h : i < l.length
  · simp [h]
  · simp [h]
theorem leaves_eq (often : List Nat) : leavesOf often = (eleaves often).map E.item := by
  unfold leavesOf eleaves
  rw [zipIdx_range, List.filter_map, List.map_map, List.map_map]
  unfold symsOf
  show _ = List.map (fun s => (⟨often.getD s 0, [s]⟩ : Item)) _
  have hf : ((fun q : Nat × Nat => q.1 != 0) ∘ fun s => (often.getD s 0, s)) = fun s => often.getD s 0 != 0 := rfl
  rw [hf]
  show ((List.filter (fun s => often.getD s 0 != 0) (List.range often.length)).map (fun s => (⟨often.getD s 0, [s]⟩ : Item))).mergeSort _ = _
  rw [← sort_maps (r := fun a b => decide (often.getD a 0 < often.getD b 0) || (often.getD a 0 == often.getD b 0 && decide (a ≤ b))) (fun s => (⟨often.getD s 0, [s]⟩ : Item)) (fun a _ b _ => by simp)]
  congr 1
  -- the two orders sort the rising list of symbols alike
  have ht2 : TotalLe (fun a b : Nat => decide (often.getD a 0 ≤ often.getD b 0)) := ⟨fun a b c h1 h2 => by simp at *; omega, fun a b => by simp; omega⟩
  apply sort_unique ht2
  · have ht1 : TotalLe (fun a b : Nat => decide (often.getD a 0 < often.getD b 0) || (often.getD a 0 == often.getD b 0 && decide (a ≤ b))) := ⟨fun a b c h1 h2 => by simp at *; omega, fun a b => by simp; omega⟩
    exact (sort_pairwise ht1 _).imp (fun h => by simp at *; omega)
  · intro c
    -- the items of one weight: in both cases in rising order
    have ht1 : TotalLe (fun a b : Nat => decide (often.getD a 0 < often.getD b 0) || (often.getD a 0 == often.getD b 0 && decide (a ≤ b))) := ⟨fun a b c h1 h2 => by simp at *; omega, fun a b => by simp; omega⟩
    have hlt : TotalLe (fun a b : Nat => decide (a ≤ b)) := ⟨fun a b c h1 h2 => by simp at *; omega, fun a b => by simp; omega⟩
    apply sort_one hlt
    · have := (sort_pairwise ht1 (List.filter (fun s => often.getD s 0 != 0) (List.range often.length)))
      have h2 := this.filter (sameRank (fun a b : Nat => decide (often.getD a 0 ≤ often.getD b 0)) c)
      rw [List.pairwise_iff_forall_sublist] at h2 ⊢
      intro a b hs
      have h3 := h2 hs
      have ma := (List.mem_filter.mp (hs.subset (List.mem_cons_self ..))).2
      have mb := (List.mem_filter.mp (hs.subset (List.mem_cons_of_mem _ (List.mem_cons_self ..)))).2
      simp [sameRank] at h3 ma mb ⊢
      omega
    · have : (List.range often.length).Pairwise (fun a b : Nat => decide (a ≤ b) = true) := by
        exact List.pairwise_lt_range.imp (fun h => by simp; omega)
      exact (this.filter _).filter _
    · intro d
      have hp : (List.mergeSort (List.filter (fun s => often.getD s 0 != 0) (List.range often.length)) (fun a b : Nat => decide (often.getD a 0 < often.getD b 0) || (often.getD a 0 == often.getD b 0 && decide (a ≤ b)))).Perm (List.filter (fun s => often.getD s 0 != 0) (List.range often.length)) := List.mergeSort_perm _ _
      have hp2 := (hp.filter (sameRank (fun a b : Nat => decide (often.getD a 0 ≤ often.getD b 0)) c)).filter (sameRank (fun a b : Nat => decide (a ≤ b)) d)
      -- both are repetitions of d
      have e : sameRank (fun a b : Nat => decide (a ≤ b)) d = fun x => x == d := by
        funext x
        unfold sameRank
        rw [Bool.eq_iff_iff]; simp; omega
      rw [e] at hp2 ⊢
      rw [List.filter_beq, List.filter_beq] at hp2 ⊢
      have := hp2.length_eq
      rw [List.length_replicate, List.length_replicate] at this
      rw [this]
theorem eleaves_leaf (often : List Nat) : ∀ e ∈ eleaves often, e.leaf = true := by
  intro e h
  obtain ⟨s, _, rfl⟩ := List.mem_map.mp h
  rfl
theorem eleaves_srt (often : List Nat) : Srt (eleaves often) := by
  unfold eleaves Srt
  rw [List.pairwise_map]
  have ht2 : TotalLe (fun a b : Nat => decide (often.getD a 0 ≤ often.getD b 0)) := ⟨fun a b c h1 h2 => by simp at *; omega, fun a b => by simp; omega⟩
  exact (sort_pairwise ht2 _).imp (fun h => by simpa using h)
theorem symsOf_mem (often : List Nat) (s : Nat) : s ∈ symsOf often ↔ s < often.length ∧ often.getD s 0 ≠ 0 := by
  unfold symsOf
  rw [List.mem_mergeSort, List.mem_filter, List.mem_range]
  simp
theorem symsOf_nodup (often : List Nat) : (symsOf often).Nodup := by
  unfold symsOf
  exact (List.mergeSort_perm _ _).nodup_iff.mpr ((List.nodup_range).filter _)
/-- the counts of the program's loop -/
def cnts (often : List Nat) : List Nat := pcounts ((symsOf often).map fun s => (often.getD s 0, true)) 14 (2 * (symsOf often).length - 2)
theorem lengths_eq (often : List Nat) (h2 : 2 ≤ (symsOf often).length) (hz : (symsOf often).length ≤ 16384) :
    lengths often = (List.range often.length).map fun i => ((cnts often).flatMap fun a => (symsOf often).take a).count i := by
  have hl : (leavesOf often).length = (symsOf often).length := by rw [leaves_eq]; simp [eleaves]
  unfold lengths
  dsimp only
  rw [if_neg (by omega), if_neg (by omega)]
  show (incs (Array.replicate often.length 0) _).toList = _
  rw [incs_toList]
  apply List.map_congr_left
  intro i _
  rw [hl, leaves_eq, ← erow_item]
  have hle : (eleaves often).length = (symsOf often).length := by simp [eleaves]
  have hp := counts_perm (eleaves often) (eleaves_leaf often) 14 (2 * (symsOf often).length - 2) (by rw [← hle]; exact erow14 _ (by omega) (by omega))
  have hc : counts (eleaves often) 14 (2 * (symsOf often).length - 2) = cnts often := by
    rw [counts_pi _ (eleaves_srt often)]
    unfold cnts eleaves
    rw [List.map_map]; rfl
  rw [hc] at hp
  have e1 : (List.take (2 * (symsOf often).length - 2) (List.map E.item (erow (eleaves often) 14))).flatMap Item.symbols = (List.take (2 * (symsOf often).length - 2) (erow (eleaves often) 14)).flatMap E.sy := by
    rw [← List.map_take, List.flatMap_map]; rfl
  rw [e1, hp.count_eq]
  have e2 : (fun a => (List.take a (eleaves often)).flatMap E.sy) = fun a => List.take a (symsOf often) := by
    funext a
    unfold eleaves
    rw [← List.map_take, List.flatMap_map]
    simp
  rw [e2]
theorem cnts_le (often : List Nat) : ∀ a ∈ cnts often, a ≤ (symsOf often).length := by
  have hc : counts (eleaves often) 14 (2 * (symsOf often).length - 2) = cnts often := by
    rw [counts_pi _ (eleaves_srt often)]
    unfold cnts eleaves
    rw [List.map_map]; rfl
  intro a h
  rw [← hc] at h
  have := counts_le _ (eleaves_leaf often) _ _ a h
  simpa [eleaves] using this
theorem cnts_length (often : List Nat) : (cnts often).length = 15 := by
  have hc : counts (eleaves often) 14 (2 * (symsOf often).length - 2) = cnts often := by
    rw [counts_pi _ (eleaves_srt often)]
    unfold cnts eleaves
    rw [List.map_map]; rfl
  rw [← hc, counts_length]
theorem cnts_all (often : List Nat) (h2 : 2 ≤ (symsOf often).length) : (symsOf often).length ∈ cnts often := by
  have hc : counts (eleaves often) 14 (2 * (symsOf often).length - 2) = cnts often := by
    rw [counts_pi _ (eleaves_srt often)]
    unfold cnts eleaves
    rw [List.map_map]; rfl
  rw [← hc]
  have hle : (eleaves often).length = (symsOf often).length := by simp [eleaves]
  rw [← hle]
  exact counts_all _ (by omega) (eleaves_leaf often) _ _ (by omega)
/-- a length is at most 15, and not 0 just where the symbol comes -/
theorem count_flat_le {syms : List Nat} (hn : syms.Nodup) (i : Nat) : ∀ cs : List Nat, (cs.flatMap fun a => syms.take a).count i ≤ cs.length
  | [] => by simp
  | c :: cs => by
    rw [List.flatMap_cons, List.count_append, List.length_cons]
    have h1 := count_flat_le hn i cs
    have h2 : (syms.take c).count i ≤ 1 := by
      have : (syms.take c).Nodup := hn.sublist (List.take_sublist _ _)
      exact List.nodup_iff_count.mp this i
    omega
theorem lengths_one (often : List Nat) (h : (symsOf often).length = 1) : lengths often = often.map fun n => if n = 0 then 0 else 1 := by
  have hl : (leavesOf often).length = (symsOf often).length := by rw [leaves_eq]; simp [eleaves]
  unfold lengths
  dsimp only
  rw [if_neg (by omega), if_pos (by omega)]
theorem lengths_none (often : List Nat) (h : (symsOf often).length = 0) : lengths often = often.map fun _ => 0 := by
  have hl : (leavesOf often).length = (symsOf often).length := by rw [leaves_eq]; simp [eleaves]
  unfold lengths
  dsimp only
  rw [if_pos (by omega)]
theorem symsOf_length_le (often : List Nat) : (symsOf often).length ≤ often.length := by
  unfold symsOf
  rw [List.length_mergeSort]
  exact Nat.le_trans (List.length_filter_le _ _) (by simp)
theorem lengths_length (often : List Nat) (hz : often.length ≤ 16384) : (lengths often).length = often.length := by
  have := symsOf_length_le often
  by_cases h0 : (symsOf often).length = 0
  · rw [lengths_none often h0]; simp
  · by_cases h1 : (symsOf often).length = 1
    · rw [lengths_one often h1]; simp
    · rw [lengths_eq often (by omega) (by omega)]; simp
theorem lengths_le (often : List Nat) (hz : often.length ≤ 16384) (i : Nat) : (lengths often).getD i 0 ≤ 15 := by
  have := symsOf_length_le often
  by_cases h0 : (symsOf often).length = 0
  · rw [lengths_none often h0]
    simp only [List.getD_eq_getElem?_getD, List.getElem?_map]
    cases often[i]? <;> simp
  · by_cases h1 : (symsOf often).length = 1
    · rw [lengths_one often h1]
      simp only [List.getD_eq_getElem?_getD, List.getElem?_map]
      cases often[i]? with
      | none => simp
      | some x => simp; split <;> omega
    · rw [lengths_eq often (by omega) (by omega)]
      simp only [List.getD_eq_getElem?_getD, List.getElem?_map]
      by_cases hi : i < often.length
      · have := count_flat_le (symsOf_nodup often) i (cnts often)
        rw [cnts_length] at this
        simp [hi]; exact this
      · rw [List.getElem?_eq_none (by simp; omega)]; simp
theorem lengths_pos (often : List Nat) (hz : often.length ≤ 16384) (i : Nat) : (lengths often).getD i 0 ≠ 0 ↔ i < often.length ∧ often.getD i 0 ≠ 0 := by
  have hlen := symsOf_length_le often
  rw [← symsOf_mem]
  by_cases h0 : (symsOf often).length = 0
  · rw [lengths_none often h0]
    have : symsOf often = [] := List.length_eq_zero_iff.mp h0
    rw [this]
    simp only [List.getD_eq_getElem?_getD, List.getElem?_map]
    cases often[i]? <;> simp
  · by_cases h1 : (symsOf often).length = 1
    · rw [lengths_one often h1, symsOf_mem]
      simp only [List.getD_eq_getElem?_getD, List.getElem?_map]
      cases e : often[i]? with
      | none => simp
      | some x =>
        have := (List.getElem?_eq_some_iff.mp e).1
        simp [this]
    · rw [lengths_eq often (by omega) (by omega)]
      simp only [List.getD_eq_getElem?_getD, List.getElem?_map]
      constructor
      · intro h
        by_cases hi : i < often.length
        · simp [hi] at h
          have h' : i ∈ (cnts often).flatMap fun a => (symsOf often).take a := List.count_pos_iff.mp (Nat.pos_of_ne_zero h)
          obtain ⟨a, _, hb⟩ := List.mem_flatMap.mp h'
          exact List.mem_of_mem_take hb
        · rw [List.getElem?_eq_none (by simp; omega)] at h; simp at h
      · intro h
        have hi := (symsOf_mem often i).mp h
        simp [hi.1]
        have h' : i ∈ (cnts often).flatMap fun a => (symsOf often).take a := List.mem_flatMap.mpr ⟨_, cnts_all often (by omega), by rw [List.take_length]; exact h⟩
        exact Nat.pos_iff_ne_zero.mp (List.count_pos_iff.mpr h')
end MC
end
section
set_option Elab.async false
set_option maxRecDepth 100000
set_option maxHeartbeats 2000000
/-! classes and codes: the defs and their promises. -/
namespace Sq
open PySem PySem.Spec PyProof.Rows L2 SqX LamX
open SwSqueeze (classOf further wholeCode)
theorem bits_class (n : Nat) : Builtin.Int.intBits (n : Int) = classOf n := bits_nn n
/-! ### promises -/
def sp_class_of : Sp := fun vs H Q _ => ∃ n : Nat, vs = [.int n] ∧ Q (.int (classOf n : Nat)) H
def sp_further_width : Sp := fun vs H Q _ => ∃ n : Nat, vs = [.int n] ∧ Q (.int (n - 1 : Nat)) H
/-- the least number of a class -/
def least (k : Nat) : Nat := if k = 0 then 0 else 2 ^ (k - 1)
def sp_class_start : Sp := fun vs H Q _ => ∃ n : Nat, vs = [.int n] ∧ n ≤ 100000 ∧ Q (.int (least n : Nat)) H
def sp_weight_of : Sp := fun vs H Q _ => ∃ (t : Addr) (n : Int) (x : V), vs = [.ref t] ∧ H t = some (.tup [.int n, x]) ∧ Q (.int n) H
def sp_is_leaf : Sp := fun vs H Q _ => ∃ (t : Addr) (n : Int) (b : Bool), vs = [.ref t] ∧ H t = some (.tup [.int n, .bl b]) ∧ Q (.bl b) H
section
variable {P : Program} {w : World} {K : PySem.W.Frag} {mg : Str → Option Value} {base : Heap} {c : CA} {f : Addr} {fd : FuncData}
theorem ok_class_of (T : Tx K mg c) (F : Fun K "class_of" "class_of" s_class_of f fd) : FnOk P w K mg base CX0 1 f fd ["number"] sp_class_of := by
  refine F.ok sc_class_of (fun vs H Q E h => ?_) (fun cdv A outer s H vs Q E hr h => ?_)
  · obtain ⟨n, rfl, _⟩ := h
    rfl
  · refine ⟨_, (pss_one (ps_ret (pe_bits (pv 0)))), ?_⟩
    obtain ⟨n, rfl, q⟩ := h
    refine ⟨_, rfl, _, rfl, ?_⟩
    rw [bits_class]
    exact q
theorem ok_further_width (T : Tx K mg c) (F : Fun K "further_width" "further_width" s_further_width f fd) : FnOk P w K mg base CX0 1 f fd ["kind"] sp_further_width := by
  refine F.ok sc_further_width (fun vs H Q E h => ?_) (fun cdv A outer s H vs Q E hr h => ?_)
  · obtain ⟨n, rfl, _⟩ := h
    rfl
  · refine ⟨_, (pss_one (ps_ret (pe_ifExp (pt_truth (pv 0) (by intro _; rfl)) (pe_op op_sub (pv 0) pe_int) pe_int))), ?_⟩
    obtain ⟨n, rfl, q⟩ := h
    refine ⟨_, rfl, ?_⟩
    cases n with
    | zero => exact ⟨false, rfl, q⟩
    | succ n =>
      refine ⟨true, rfl, ?_⟩
      refine ⟨_, rfl, _, _, rfl, rfl, ?_⟩
      dsimp only
      rw [show ((n + 1 : Nat) : Int) - 1 = ((n + 1 - 1 : Nat) : Int) by omega]
      exact q
theorem ok_class_start (T : Tx K mg c) (F : Fun K "class_start" "class_start" s_class_start f fd) : FnOk P w K mg base CX0 1 f fd ["kind"] sp_class_start := by
  refine F.ok sc_class_start (fun vs H Q E h => ?_) (fun cdv A outer s H vs Q E hr h => ?_)
  · obtain ⟨n, rfl, _⟩ := h
    rfl
  · refine ⟨_, (pss_one (ps_ret (pe_ifExp (pt_truth (pv 0) (by intro _; rfl)) (pe_op op_shl pe_int (pe_op op_sub (pv 0) pe_int)) pe_int))), ?_⟩
    obtain ⟨n, rfl, hn, q⟩ := h
    refine ⟨_, rfl, ?_⟩
    cases n with
    | zero => exact ⟨false, rfl, q⟩
    | succ n =>
      refine ⟨true, rfl, ?_⟩
      refine ⟨_, rfl, _, _, rfl, rfl, _, _, rfl, rfl, ⟨by omega, by omega, by decide⟩, ?_⟩
      have e : ((1 : Int) * 2 ^ (((n + 1 : Nat) : Int) - 1).toNat) = ((least (n + 1) : Nat) : Int) := by
        rw [show (((n + 1 : Nat) : Int) - 1).toNat = n by omega]
        simp [least]
      dsimp only
      rw [e]
      exact q
theorem ok_weight_of (T : Tx K mg c) (F : Fun K "weight_of" "weight_of" s_weight_of f fd) : FnOk P w K mg base CX0 1 f fd ["item"] sp_weight_of := by
  refine F.ok sc_weight_of (fun vs H Q E h => ?_) (fun cdv A outer s H vs Q E hr h => ?_)
  · obtain ⟨t, n, x, rfl, _⟩ := h
    rfl
  · refine ⟨_, (pss_one (ps_ret (pe_ix ix_tup (pv 0) pe_int (fun _ _ => rfl)))), ?_⟩
    obtain ⟨t, n, x, rfl, ht, q⟩ := h
    refine ⟨_, rfl, ?_⟩
    exact ⟨_, _, _, _, rfl, rfl, .inl (.inl ht), rfl, q⟩
theorem ok_is_leaf (T : Tx K mg c) (F : Fun K "is_leaf" "is_leaf" s_is_leaf f fd) : FnOk P w K mg base CX0 1 f fd ["item"] sp_is_leaf := by
  refine F.ok sc_is_leaf (fun vs H Q E h => ?_) (fun cdv A outer s H vs Q E hr h => ?_)
  · obtain ⟨t, n, x, rfl, _⟩ := h
    rfl
  · refine ⟨_, (pss_one (ps_ret (pe_ix ix_tup (pv 0) pe_int (fun _ _ => rfl)))), ?_⟩
    obtain ⟨t, n, x, rfl, ht, q⟩ := h
    refine ⟨_, rfl, ?_⟩
    exact ⟨_, _, _, _, rfl, rfl, .inl (.inl ht), rfl, q⟩
end
/-! ### rows of items -/
/-- an item: where its tuple is, its weight, whether it's a leaf -/
abbrev It2 := Addr × Nat × Bool
def refs (bs : List It2) : List V := bs.map fun x => V.ref x.1
def pis (bs : List It2) : List (Nat × Bool) := bs.map Prod.snd
def Its (H : Hp) (bs : List It2) : Prop := ∀ x ∈ bs, H x.1 = some (.tup [.int x.2.1, .bl x.2.2])
theorem Its.same {H H' : Hp} {bs : List It2} (h : Its H bs) (s : Same H H') : Its H' bs := fun x hx => s _ _ (h x hx)
theorem Its.snoc {H : Hp} {bs : List It2} {x : It2} (h : Its H bs) (hx : H x.1 = some (.tup [.int x.2.1, .bl x.2.2])) : Its H (bs ++ [x]) := fun y hy => by
  rcases List.mem_append.mp hy with k | k
  · exact h y k
  · rw [List.mem_singleton.mp k]; exact hx
theorem ppack_length : ∀ l : List (Nat × Bool), (MC.ppack l).length = l.length / 2
  | [] => rfl
  | [_] => by rw [List.length_singleton]; rfl
  | a :: b :: l => by
    show (MC.ppack l).length + 1 = _
    rw [ppack_length l, List.length_cons, List.length_cons]; omega
theorem ppack_get : ∀ (l : List (Nat × Bool)) (i : Nat) (a b : Nat × Bool), l[2 * i]? = some a → l[2 * i + 1]? = some b → (MC.ppack l)[i]? = some (a.1 + b.1, false)
  | [], _, _, _, h, _ => by simp at h
  | [_], 0, _, _, _, h => by simp at h
  | [_], i + 1, _, _, h, _ => by simp at h
  | x :: y :: l, 0, a, b, h, k => by
    simp at h k
    subst h; subst k
    rfl
  | x :: y :: l, i + 1, a, b, h, k => by
    show (MC.ppack l)[i]? = _
    exact ppack_get l i a b (by simpa [Nat.mul_add] using h) (by simpa [Nat.mul_add] using k)
theorem sort_its (bs : List It2) : pis (bs.mergeSort fun x y => decide (x.2.1 ≤ y.2.1)) = (pis bs).mergeSort MC.leP :=
  PySem.W.sort_maps Prod.snd fun _ _ _ _ => rfl
def sp_row_behind (K : PySem.W.Frag) : Sp := fun vs H Q _ => ∃ (a b : Addr) (ls rs : List It2), vs = [.ref a, .ref b] ∧ H a = some (.lst (refs ls)) ∧ SqL K H b (refs rs) ∧ Its H ls ∧ Its H rs ∧ 2 ≤ rs.length ∧ rs.length ≤ 100000 ∧ ls.length ≤ 100000 ∧
  ∀ H' p bs, Same H H' → H p = none → H' p = some (.lst (refs bs)) → Its H' bs → pis bs = MC.rowBehind (pis ls) (pis rs) → Q (.ref p) H'
section
variable {P : Program} {w : World} {K : PySem.W.Frag} {mg : Str → Option Value} {base : Heap} {c : CA} {f fw : Addr} {fd fdw : FuncData}
theorem ok_row_behind (T : Tx K mg c) (G : Hd P w K mg base CX0 1 "weight_of" ["item"] sp_weight_of) (gw : mg "weight_of" = some (.ref fw)) (FW : Fun K "weight_of" "weight_of" s_weight_of fw fdw)
    (F : Fun K "row_behind" "row_behind" s_row_behind f fd) : FnOk P w K mg base CX0 2 f fd ["leaves", "row"] (sp_row_behind K) := by
  refine F.ok sc_row_behind (fun vs H Q E h => ?_) (fun cdv A outer s H vs Q E hr h => ?_)
  · obtain ⟨a, b, ls, rs, rfl, _⟩ := h
    rfl
  · refine ⟨_, (pss_cons (ps_setLc (i := 2) (own := [("k", 3)]) (g := gName 3) (tt := tYes) rfl sc_row_behind.nd rfl rfl (sw_true rfl rfl rfl (by decide +kernel)) (pi_range3 rfl T.range (pa_cons pe_int (pa_cons (pe_op op_sub (pe_callB call_len_seq (by rfl) T.len (by decide +kernel) (pa_cons (pv 1) pa_nil)) pe_int) (pa_cons pe_int pa_nil)))) (blkOk_by (N := ["leaves", "row", "packages", "k"]) (sc := defScope s_row_behind) (by decide +kernel)) (fun _ _ _ _ _ => pg_name (i := 3) sc_row_behind.nd rfl (Or.inl rfl)) (fun _ _ _ _ _ => pts_nil) (fun _ _ _ _ _ => (pe_tup (pa_cons (pe_op op_add (pe_cd G (hr.mono (by decide)) pass0 (pa_cons (pe_ix (ix_list : IxR _ (rIxL K)) (pv 1) (pv 3) (fun _ _ => rfl)) pa_nil)) (pe_cd G (hr.mono (by decide)) pass0 (pa_cons (pe_ix (ix_list : IxR _ (rIxL K)) (pv 1) (pe_op op_add (pv 3) pe_int) (fun _ _ => rfl)) pa_nil))) (pa_cons pe_bl pa_nil)))))
  (pss_one (ps_ret (pe_callBK (cr_sortW (k := 0) FW (hr.mono (by decide)) rfl ⟨rfl, rfl, rfl, by decide +kernel, rfl⟩ (fun _ _ _ _ _ _ _ => rfl) (by decide +kernel)) (by rfl) T.sorted (by decide +kernel) (pa_cons (pe_op op_cat (pv 0) (pv 2)) pa_nil) (pk_cons (pe_glob (v := .ref fw) rfl gw rfl) pk_nil))))), ?_⟩
    obtain ⟨a, b, ls, rs, rfl, ha, hb, hls, hrs, h2, h3, h4, q⟩ := h
    have hrl : (refs rs).length = rs.length := List.length_map ..
    have hrg := rgc_pos (c := 2) (n := rs.length / 2) (lo := 0) (hi := (rs.length : Int) - 1) (by omega) (by omega) (by omega) (by omega) (by omega) (by omega)
    rw [← hrl] at hrg
    refine ⟨_, rfl, _, _, rfl, .inl hb, _, _, rfl, rfl, _, _, _, (refs rs).length / 2, rfl, hrg, fun D hD => lc_it walk_rangeC (fun i H' => ∃ ps : List It2, H' D = some (.lst (refs ps)) ∧ Its H' ps ∧ pis ps = (MC.ppack (pis rs)).take i ∧ ps.length = i ∧ Same H H')
      ⟨[], upd_same, nofun, by simp [pis], rfl, same_new hD⟩ (fun _ _ _ _ => trivial) (fun i x H' H2 hi hP y => ?_) (fun H' hP => ?_)⟩
    · obtain ⟨rfl, rfl⟩ := y
      obtain ⟨ps, hp, hps, hpe, hpl, hs⟩ := hP
      rw [hrl] at hi
      have g1 : rs[2 * i]? = some (rs[2 * i]'(by omega)) := List.getElem?_eq_getElem (by omega)
      have g2 : rs[2 * i + 1]? = some (rs[2 * i + 1]'(by omega)) := List.getElem?_eq_getElem (by omega)
      generalize rs[2 * i]'(by omega) = x1 at g1
      generalize rs[2 * i + 1]'(by omega) = x2 at g2
      refine ⟨rfl, ?_⟩
      refine ⟨_, rfl, _, rfl, b, _, _, _, rfl, rfl, hs.seq hb, at_of (j := 2 * i) (by omega) (by rw [refs, List.getElem?_map, g1]; rfl), ?_⟩
      refine ⟨x1.1, x1.2.1, .bl x1.2.2, rfl, hs _ _ (hrs _ (List.mem_of_getElem? g1)), ?_⟩
      refine ⟨_, rfl, _, rfl, _, _, rfl, rfl, b, _, _, _, rfl, rfl, hs.seq hb, at_of (j := 2 * i + 1) (by omega) (by rw [refs, List.getElem?_map, g2]; rfl), ?_⟩
      refine ⟨x2.1, x2.2.1, .bl x2.2.2, rfl, hs _ _ (hrs _ (List.mem_of_getElem? g2)), ?_⟩
      refine ⟨_, _, rfl, rfl, by show 2 ≤ _; decide, fun t ht => ?_⟩
      have htD : D ≠ t := ne_of_none hp ht
      refine ⟨refs ps, by rw [upd_ne htD]; exact hp, ?_, ps ++ [(t, x1.2.1 + x2.2.1, false)], ?_, ?_, ?_, ?_, ?_⟩
      · rw [refs, List.length_map, hpl]
        exact line_lt (by omega)
      · rw [upd_same, refs, refs, List.map_append]
        rfl
      · refine Its.snoc (fun x hx => ?_) ?_
        · have hn : x.1 ≠ D := ne_of (hps x hx) hp (by intro z; cases z)
          rw [upd_ne hn, upd_ne (ne_of_none (hps x hx) ht)]
          exact hps x hx
        · rw [upd_ne htD.symm, upd_same]
          simp
      · rw [pis, List.map_append]
        show pis ps ++ _ = _
        rw [hpe, take_succ_of (ppack_get (pis rs) i x1.2 x2.2 (by rw [pis, List.getElem?_map, g1]; rfl) (by rw [pis, List.getElem?_map, g2]; rfl))]
        rfl
      · rw [List.length_append, hpl]
        rfl
      · exact same_upd (same_made hs ht) hD
    · obtain ⟨ps, hp, hps, hpe, hpl, hs⟩ := hP
      have hpe2 : pis ps = MC.ppack (pis rs) := by
        rw [hpe, List.take_of_length_le]
        rw [ppack_length, pis, List.length_map, hrl]
        exact Nat.le_refl _
      rw [hrl] at hpl
      refine ⟨_, rfl, _, rfl, a, D, _, _, rfl, rfl, hs _ _ ha, hp, ?_, fun r hr2 => ?_⟩
      · rw [refs, refs, List.length_map, List.length_map]
        exact line_le (by omega)
      · have hsr := same_made (o := .lst (refs ls ++ refs ps)) hs hr2
        have hi : Its (upd H' r (.lst (refs ls ++ refs ps))) (ls ++ ps) := fun x hx => by
          rcases List.mem_append.mp hx with k | k
          · exact hsr _ _ (hls x k)
          · exact same_new hr2 _ _ (hps x k)
        refine ⟨r, (ls ++ ps).map fun x => (x.1, (x.2.1 : Int), V.bl x.2.2), rfl, rfl, .inl (.inl ?_), ?_, fun z hz => ?_⟩
        · rw [upd_same, List.map_map, refs, refs, ← List.map_append]
          rfl
        · intro x hx
          obtain ⟨y, hy, rfl⟩ := List.mem_map.mp hx
          exact hi y hy
        · rw [← PySem.W.sort_maps (r := fun x y : It2 => decide (x.2.1 ≤ y.2.1)) (fun x : It2 => (x.1, (x.2.1 : Int), V.bl x.2.2)) (fun x _ y _ => by simp), List.map_map]
          have e : List.map ((fun x : Addr × Int × V => V.ref x.1) ∘ fun x : It2 => (x.1, (x.2.1 : Int), V.bl x.2.2)) ((ls ++ ps).mergeSort fun x y => decide (x.2.1 ≤ y.2.1)) = refs ((ls ++ ps).mergeSort fun x y => decide (x.2.1 ≤ y.2.1)) := rfl
          rw [e]
          refine q _ z ((ls ++ ps).mergeSort fun x y => decide (x.2.1 ≤ y.2.1)) (same_made hsr hz) (hsr.free hz) upd_same (fun x hx => ?_) ?_
          · have := (List.mergeSort_perm (ls ++ ps) _).mem_iff.mp hx
            exact same_new hz _ _ (hi x this)
          · rw [sort_its, pis, List.map_append]
            show (pis ls ++ pis ps).mergeSort MC.leP = _
            rw [hpe2]
            rfl
end
theorem rowBehind_length (l r : List (Nat × Bool)) : (MC.rowBehind l r).length = l.length + r.length / 2 := by
  unfold MC.rowBehind
  rw [List.length_mergeSort, List.length_append, ppack_length]
theorem prow_length (l : List (Nat × Bool)) : ∀ n, l.length ≤ (MC.prow l n).length ∧ (MC.prow l n).length ≤ 2 * l.length
  | 0 => ⟨Nat.le_refl _, by show l.length ≤ _; omega⟩
  | n + 1 => by
    have := prow_length l n
    show l.length ≤ (MC.rowBehind l (MC.prow l n)).length ∧ (MC.rowBehind l (MC.prow l n)).length ≤ _
    rw [rowBehind_length]
    omega
def natsV (l : List Nat) : List V := l.map fun n : Nat => V.int n
def sp_leaf_counts : Sp := fun vs H Q _ => ∃ (a : Addr) (ls : List It2), vs = [.ref a] ∧ H a = some (.lst (refs ls)) ∧ Its H ls ∧ 2 ≤ ls.length ∧ ls.length ≤ 10000 ∧
  ∀ H' p, Same H H' → H p = none → H' p = some (.lst (natsV (MC.pcounts (pis ls) 14 (2 * ls.length - 2)))) → Q (.ref p) H'
theorem at_neg1 {xs : List V} {v : V} (h0 : 1 ≤ xs.length) (h : xs[xs.length - 1]? = some v) : atI xs (-1) = some v := by
  obtain ⟨ys, z, rfl⟩ : ∃ ys z, xs = ys ++ [z] := by
    rcases List.eq_nil_or_concat xs with e | ⟨r, b, e⟩
    · rw [e] at h0; simp at h0
    · exact ⟨r, b, by rw [e, List.concat_eq_append]⟩
  have : z = v := by simpa using h
  subst this
  exact atI_last _ _
/-- rows of items, each where its list is -/
def Rws (H : Hp) (p : Addr) (rws : List (Addr × List It2)) : Prop := ∀ x ∈ rws, H x.1 = some (.lst (refs x.2)) ∧ Its H x.2 ∧ x.1 ≠ p
theorem Rws.same {H H' : Hp} {p : Addr} {r : List (Addr × List It2)} (h : Rws H p r) (s : Same H H') : Rws H' p r := fun x hx => ⟨s _ _ (h x hx).1, (h x hx).2.1.same s, (h x hx).2.2⟩
theorem Its.put {H : Hp} {p : Addr} {xs : List V} {o : HO} {bs : List It2} (h : Its H bs) (hp : H p = some (.lst xs)) : Its (upd H p o) bs := fun x hx => by
  rw [upd_ne (ne_of (h x hx) hp (by intro z; cases z))]
  exact h x hx
theorem Rws.put {H : Hp} {p : Addr} {xs : List V} {o : HO} {r : List (Addr × List It2)} (h : Rws H p r) (hp : H p = some (.lst xs)) : Rws (upd H p o) p r := fun x hx => by
  obtain ⟨h1, h2, h3⟩ := h x hx
  exact ⟨by rw [upd_ne h3]; exact h1, h2.put hp, h3⟩
theorem Rws.snoc {H : Hp} {p : Addr} {r : List (Addr × List It2)} {x : Addr × List It2} (h : Rws H p r) (hx : H x.1 = some (.lst (refs x.2)) ∧ Its H x.2 ∧ x.1 ≠ p) : Rws H p (r ++ [x]) := fun y hy => by
  rcases List.mem_append.mp hy with k | k
  · exact h y k
  · rw [List.mem_singleton.mp k]; exact hx
section
variable {P : Program} {w : World} {K : PySem.W.Frag} {mg : Str → Option Value} {base : Heap} {c : CA} {f : Addr} {fd : FuncData}
theorem ok_leaf_counts (T : Tx K mg c) (G : Hd P w K mg base CX0 2 "row_behind" ["leaves", "row"] (sp_row_behind K)) (GL : Hd P w K mg base CX0 1 "is_leaf" ["item"] sp_is_leaf)
    (F : Fun K "leaf_counts" "leaf_counts" s_leaf_counts f fd) : FnOk P w K mg base CX0 3 f fd ["leaves"] sp_leaf_counts := by
  refine F.ok sc_leaf_counts (fun vs H Q E h => ?_) (fun cdv A outer s H vs Q E hr h => ?_)
  · obtain ⟨a, ls, rfl, _⟩ := h
    rfl
  · refine ⟨_, (pss_cons (ps_set (i := 1) sc_leaf_counts.nd rfl (Or.inl rfl) (pe_lst (pa_cons (pv 0) pa_nil)))
  (pss_cons (ps_while PassesOwn.never (pt_cmpR op_lt (pe_callB call_len_seq (by rfl) T.len (by decide +kernel) (pa_cons (pv 1) pa_nil)) (pe_gI rfl T.LONGEST_WORD) (nomark _)) (pss_one (ps_expr (pe_bm PySem.F.plainAttrs_list PySem.F.slot_list_append PySem.F.type_list_append mt_append (pv 1) (pa_cons (pe_cd G (hr.mono (by decide)) pass0 (pa_cons (pv 0) (pa_cons (pe_ix ix_list (pv 1) (pe_un un_neg pe_int) (fun _ _ => rfl)) pa_nil))) pa_nil)))))
  (pss_cons (ps_set (i := 2) sc_leaf_counts.nd rfl (Or.inl rfl) (pe_lst pa_nil))
  (pss_cons (ps_set (i := 3) sc_leaf_counts.nd rfl (Or.inl rfl) (pe_op op_sub (pe_op op_mul pe_int (pe_callB call_len_seq (by rfl) T.len (by decide +kernel) (pa_cons (pv 0) pa_nil))) pe_int))
  (pss_cons (ps_for PassesOwn.never rfl (pi_reversed rfl T.reversed (pa_cons (pv 1) pa_nil)) (pg_name (i := 4) sc_leaf_counts.nd rfl (Or.inl rfl)) (pss_cons (ps_set (i := 5) sc_leaf_counts.nd rfl (Or.inl rfl) (pe_callB call_len_seq (by rfl) T.len (by decide +kernel) (pa_cons (pe_lc (own := [("item", 6)]) (g := gName 6) rfl sc_leaf_counts.nd (pi_list (pe_slice sl_list (pv 4) po_none (po_some (pv 3)))) (blkOk_by (N := ["leaves", "rows", "counts", "wanted", "row", "alone", "item"]) (sc := defScope s_leaf_counts) (by decide +kernel)) (fun _ _ _ _ _ => pg_name (i := 6) sc_leaf_counts.nd rfl (Or.inl rfl)) (fun _ _ _ _ _ => pts_one (pt_val (pe_cd GL (hr.mono (by decide)) pass0 (pa_cons (pv 6) pa_nil)))) (fun _ _ _ _ _ => (pv 6))) pa_nil)))
    (pss_cons (ps_expr (pe_bm PySem.F.plainAttrs_list PySem.F.slot_list_append PySem.F.type_list_append mt_append (pv 2) (pa_cons (pv 5) pa_nil)))
    (pss_one (ps_set (i := 3) sc_leaf_counts.nd rfl (Or.inl rfl) (pe_op op_mul pe_int (pe_op op_sub (pv 3) (pv 5))))))))
  (pss_one (ps_ret (pv 2)))))))), ?_⟩
    obtain ⟨a, ls, rfl, ha, hls, h2, h3, q⟩ := h
    refine ⟨_, rfl, by show 1 ≤ _; decide, fun p hp => ?_⟩
    have hpi : (pis ls).length = ls.length := List.length_map ..
    refine ⟨fun m σ H' => ∃ rws : List (Addr × List It2), σ = [some (.ref a), some (.ref p), none, none, none, none, none] ∧ Same H H' ∧ H' p = some (.lst (rws.map fun x => .ref x.1)) ∧ Rws H' p rws ∧ rws.length + m = 15 ∧ 1 ≤ rws.length ∧
      rws.map (fun x => pis x.2) = (List.range rws.length).map (MC.prow (pis ls)), ⟨14, [(a, ls)], rfl, same_new hp, upd_same, fun x hx => ?_, rfl, Nat.le_refl _, rfl⟩, fun m σ H1 hW => ?_⟩
    · rw [List.mem_singleton.mp hx]
      exact ⟨same_new hp _ _ ha, hls.same (same_new hp), ne_of_none ha hp⟩
    · obtain ⟨rws, rfl, hs, hp1, hR, hm, h1, hE⟩ := hW
      have hlast : rws[rws.length - 1]? = some (rws[rws.length - 1]'(by omega)) := List.getElem?_eq_getElem (by omega)
      generalize rws[rws.length - 1]'(by omega) = lr at hlast
      have hlr := hR lr (List.mem_of_getElem? hlast)
      have hle : pis lr.2 = MC.prow (pis ls) (rws.length - 1) := by
        have e1 : (rws.map fun x => pis x.2)[rws.length - 1]? = some (pis lr.2) := by rw [List.getElem?_map, hlast]; rfl
        rw [hE, List.getElem?_map, List.getElem?_range (by omega)] at e1
        exact (Option.some.inj e1).symm
      have hll : lr.2.length = (MC.prow (pis ls) (rws.length - 1)).length := by rw [← hle, pis, List.length_map]
      have hpl := prow_length (pis ls) (rws.length - 1)
      refine ⟨_, rfl, _, _, rfl, .inl (.inl (.inl hp1)), _, _, rfl, rfl, _, rfl, ?_⟩
      refine ite2 (fun hlt => ?_) (fun hlt => ?_)
      · have hn : rws.length < 15 := by
          have := of_decide_eq_true hlt
          rw [List.length_map] at this
          omega
        refine ⟨fun σ' H' => ∃ m', m' < m ∧ ∃ rws : List (Addr × List It2), σ' = [some (.ref a), some (.ref p), none, none, none, none, none] ∧ Same H H' ∧ H' p = some (.lst (rws.map fun x => .ref x.1)) ∧ Rws H' p rws ∧ rws.length + m' = 15 ∧ 1 ≤ rws.length ∧
          rws.map (fun x => pis x.2) = (List.range rws.length).map (MC.prow (pis ls)), fun _ _ h => h, ?_⟩
        refine ⟨_, rfl, .inl ⟨rfl, _, .inl (.inl hp1)⟩, _, rfl, _, rfl, ?_⟩
        refine ⟨_, rfl, p, _, _, _, rfl, rfl, .inl (.inl hp1), at_neg1 (by rw [List.length_map]; exact h1) (by rw [List.getElem?_map, List.length_map, hlast]; rfl), ?_⟩
        refine ⟨a, lr.1, ls, lr.2, rfl, hs _ _ ha, .inl (.inl hlr.1), hls.same hs, hlr.2.1, by omega, by omega, by omega, fun H2 r bs hs2 hr0 hr1 hIt hpe => ?_⟩
        have hpr : p ≠ r := ne_of_none hp1 hr0
        refine ⟨_, _, _, rfl, rfl, hs2 _ _ hp1, ?_, ?_⟩
        · rw [List.length_map]; exact line_lt (by omega)
        · refine ⟨m - 1, by omega, rws ++ [(r, bs)], rfl, ?_, ?_, ?_, ?_, ?_, ?_⟩
          · exact same_upd (hs.trans hs2) hp
          · rw [upd_same, List.map_append]; rfl
          · exact ((hR.same hs2).snoc (x := (r, bs)) ⟨hr1, hIt, hpr.symm⟩).put (hs2 _ _ hp1)
          · rw [List.length_append, List.length_singleton]; omega
          · rw [List.length_append]; omega
          · rw [List.map_append, hE, List.length_append, List.length_singleton, List.range_succ, List.map_append]
            have : pis bs = MC.prow (pis ls) rws.length := by
              rw [hpe, hle]
              obtain ⟨k, hk⟩ : ∃ k, rws.length = k + 1 := ⟨rws.length - 1, by omega⟩
              rw [hk]
              rfl
            show _ ++ [pis bs] = _
            rw [this]
            rfl
      · have hm0 : rws.length = 15 := by
          have : ¬ (rws.length : Int) < 15 := fun h => hlt (by rw [List.length_map]; exact decide_eq_true h)
          omega
        refine ⟨Nat.zero_le _, fun pc hpc => ?_⟩
        have hpn : p ≠ pc := ne_of_none hp1 hpc
        refine ⟨_, rfl, _, _, rfl, .inl (.inl (.inl (same_made hs hpc _ _ ha))), _, _, rfl, rfl, .inl ⟨by decide, by decide⟩, _, _, rfl, rfl, ?_⟩
        refine ⟨_, rfl, p, _, rfl, .inl (.inl (by rw [upd_ne hpn]; exact hp1)), ?_⟩
        have hrl : (refs ls).length = ls.length := List.length_map ..
        refine for_it walk_rev (fun i σ H' => ∃ (v4 v5 : Option V) (done : List Nat) (wt : Nat), σ = [some (.ref a), some (.ref p), some (.ref pc), some (.int wt), v4, v5, none] ∧ Same H H' ∧
          H' p = some (.lst (rws.map fun x => .ref x.1)) ∧ Rws H' p rws ∧ H' pc = some (.lst (natsV done)) ∧ done.length = i ∧ wt ≤ 2 ^ i * 20000 ∧
          (i ≤ 14 → MC.pcounts (pis ls) 14 (2 * ls.length - 2) = done ++ MC.pcounts (pis ls) (14 - i) wt) ∧ (i = 15 → MC.pcounts (pis ls) 14 (2 * ls.length - 2) = done))
          ⟨none, none, [], 2 * ls.length - 2, ?_, same_made hs hpc, by rw [upd_ne hpn]; exact hp1, hR.same (same_new hpc), upd_same, rfl, by omega, fun _ => rfl, fun h => by omega⟩ (fun i σ H' _ hP => ?_) (fun i x σ H' H2 hi hP y => ?_) (fun σ H' hP => ?_)
        · rw [hrl]
          show [some (V.ref a), some (V.ref p), some (V.ref pc), some (V.int (2 * ((ls.length : Nat) : Int) - 2)), none, none, none] = _
          rw [show (2 : Int) * ((ls.length : Nat) : Int) - 2 = ((2 * ls.length - 2 : Nat) : Int) by omega]
        · obtain ⟨_, _, _, _, _, _, h, _⟩ := hP
          exact .inl (.inl h)
        · obtain ⟨rfl, hx⟩ := y
          obtain ⟨v4, v5, done, wt, rfl, hs2, hp2, hR2, hpc2, hdl, hwt, hT, _⟩ := hP
          rw [List.length_map, hm0] at hi hx
          have hT := hT (by omega)
          obtain ⟨rw0, hrw, rfl⟩ := map_get hx
          obtain ⟨hl1, hl2, hl3⟩ := hR2 rw0 (List.mem_of_getElem? hrw)
          have hle : pis rw0.2 = MC.prow (pis ls) (14 - i) := by
            have e1 : (rws.map fun x => pis x.2)[14 - i]? = some (pis rw0.2) := by
              rw [List.getElem?_map, show 14 - i = 15 - 1 - i by omega, hrw]; rfl
            rw [hE, List.getElem?_map, List.getElem?_range (by omega)] at e1
            exact (Option.some.inj e1).symm
          have hlen0 : rw0.2.length ≤ 20000 := by
            have e := (prow_length (pis ls) (14 - i)).2
            rw [← hle, pis, pis, List.length_map, List.length_map] at e
            omega
          refine ⟨_, rfl, _, rfl, _, rfl, _, _, rfl, .inl (.inl hl1), fun r hr0 => ?_⟩
          rw [cut_take]
          refine ⟨r, rfl, ⟨_, .inl (.inl upd_same)⟩, fun D hD => lc_it (walk_list (xs := (refs rw0.2).take wt)) (fun j H3 => H3 D = some (.lst (refs ((rw0.2.take j).filter fun x => x.2.2))) ∧ Same (upd H2 r (.lst ((refs rw0.2).take wt))) H3)
            ⟨upd_same, same_new hD⟩ (fun j H3 _ hQ => .inl (.inl (hQ.2 _ _ upd_same))) (fun j x H3 H4 hj hQ y => ?_) (fun H3 hQ => ?_)⟩
          · obtain ⟨rfl, hx⟩ := y
            have hjw : j < wt ∧ j < rw0.2.length := by
              rw [List.length_take, refs, List.length_map] at hj
              omega
            rw [refs, ← List.map_take] at hx
            obtain ⟨z, hz, rfl⟩ := map_get hx
            have hz2 : rw0.2[j]? = some z := by
              rw [List.getElem?_take, if_pos hjw.1] at hz; exact hz
            have hS : Same H2 H4 := (same_new hr0).trans hQ.2
            refine ⟨rfl, ?_⟩
            refine ⟨_, rfl, z.1, _, z.2.2, rfl, hS _ _ (hl2 z (List.mem_of_getElem? hz2)), ?_⟩
            refine ⟨_, rfl, ?_⟩
            have hflt : ((rw0.2.take j).filter fun x => x.2.2).length ≤ j := Nat.le_trans (List.length_filter_le _ _) (by rw [List.length_take]; omega)
            refine ite2 (fun hb => ?_) (fun hb => ?_)
            · refine ⟨_, rfl, _, hQ.1, ?_, ?_, same_upd hQ.2 hD⟩
              · rw [refs, List.length_map]
                exact line_lt (by omega)
              · rw [upd_same, take_succ_of hz2, List.filter_append, List.filter_cons_of_pos (p := fun x : It2 => x.2.2) hb, refs, refs, List.map_append]
                rfl
            · refine ⟨?_, hQ.2⟩
              rw [take_succ_of hz2, List.filter_append, List.filter_cons_of_neg (p := fun x : It2 => x.2.2) hb, List.filter_nil, List.append_nil]
              exact hQ.1
          · have htk : rw0.2.take ((refs rw0.2).take wt).length = rw0.2.take wt := by
              rw [List.length_take, refs, List.length_map, List.take_eq_take_iff]
              omega
            rw [htk] at hQ
            have hS : Same H2 H3 := (same_new hr0).trans hQ.2
            have hpa : MC.palone wt (MC.prow (pis ls) (14 - i)) = ((rw0.2.take wt).filter fun x => x.2.2).length := by
              rw [← hle]
              unfold MC.palone pis
              rw [← List.map_take, List.filter_map, List.length_map]
              rfl
            have hpw := MC.palone_le wt (MC.prow (pis ls) (14 - i))
            have h2i : 2 ^ i ≤ 2 ^ 14 := Nat.pow_le_pow_right (by decide) (by omega)
            refine ⟨_, _, rfl, .inl (.inl (.inl hQ.1)), ?_⟩
            rw [show (refs ((rw0.2.take wt).filter fun x => x.2.2)).length = MC.palone wt (MC.prow (pis ls) (14 - i)) by rw [refs, List.length_map, hpa]]
            refine ⟨_, rfl, .inl ⟨rfl, _, .inl (.inl (hS _ _ hpc2))⟩, _, rfl, _, _, _, rfl, rfl, hS _ _ hpc2, ?_, ?_⟩
            · rw [natsV, List.length_map]
              exact line_lt (by omega)
            · refine ⟨_, rfl, _, rfl, _, _, rfl, rfl, _, _, rfl, rfl, .inl ⟨by decide, by decide⟩, ?_⟩
              refine ⟨some (.ref rw0.1), some (.int (MC.palone wt (MC.prow (pis ls) (14 - i)) : Nat)), done ++ [MC.palone wt (MC.prow (pis ls) (14 - i))], 2 * (wt - MC.palone wt (MC.prow (pis ls) (14 - i))), ?_, same_upd (hs2.trans hS) (hs.free hpc), ?_, ?_, ?_, ?_, ?_, ?_, ?_⟩
              · have e : (2 : Int) * (((wt : Nat) : Int) - ((MC.palone wt (MC.prow (pis ls) (14 - i)) : Nat) : Int)) = ((2 * (wt - MC.palone wt (MC.prow (pis ls) (14 - i))) : Nat) : Int) := by omega
                show [some (V.ref a), some (V.ref p), some (V.ref pc), some (V.int ((2 : Int) * (((wt : Nat) : Int) - ((MC.palone wt (MC.prow (pis ls) (14 - i)) : Nat) : Int)))), some (.ref rw0.1), some (.int (MC.palone wt (MC.prow (pis ls) (14 - i)) : Nat)), none] = _
                rw [e]
              · rw [upd_ne hpn]
                exact hS _ _ hp2
              · intro x hx
                obtain ⟨k1, k2, k3⟩ := (hR2.same hS) x hx
                exact ⟨by rw [upd_ne (ne_of_none (hR x hx).1 hpc)]; exact k1, k2.put (hS _ _ hpc2), k3⟩
              · rw [upd_same, natsV, natsV, List.map_append]
                rfl
              · rw [List.length_append, hdl]
                rfl
              · rw [Nat.pow_succ]
                omega
              · intro h14
                rw [hT, List.append_assoc]
                congr 1
                obtain ⟨k, hk⟩ : ∃ k, 14 - i = k + 1 := ⟨13 - i, by omega⟩
                rw [show 14 - (i + 1) = k by omega, hk]
                rfl
              · intro h15
                rw [hT, show 14 - i = 0 by omega]
                rfl
        · obtain ⟨v4, v5, done, wt, rfl, hs2, hp2, hR2, hpc2, hdl, hwt, _, hT⟩ := hP
          refine ⟨_, rfl, q _ pc hs2 (hs.free hpc) ?_⟩
          · rw [hT (by rw [List.length_map]; exact hm0)]
            exact hpc2
end
end Sq
end
section
namespace MC
open SwSqueeze PySem.W

/-! ### codewords -/
theorem byLength_eq (ls : List Nat) (h15 : ∀ i, ls.getD i 0 ≤ 15) : byLength ls = symsOf ls := by
  have ht2 : TotalLe (fun a b : Nat => decide (ls.getD a 0 ≤ ls.getD b 0)) := ⟨fun a b c h1 h2 => by simp at *; omega, fun a b => by simp; omega⟩
  have e : byLength ls = (List.range 15).flatMap fun k => (List.range ls.length).filter fun s => ls.getD s 0 == k + 1 := by
    unfold byLength
    congr 1
    funext k
    rw [zipIdx_range, List.filter_map, List.map_map]
    show List.map id _ = _
    rw [List.map_id]
    rfl
  rw [e]
  unfold symsOf
  apply sort_unique ht2
  · rw [List.pairwise_flatMap]
    refine ⟨fun k _ => ?_, ?_⟩
    · rw [List.pairwise_iff_forall_sublist]
      intro a b hs
      have ma := (List.mem_filter.mp (hs.subset (List.mem_cons_self ..))).2
      have mb := (List.mem_filter.mp (hs.subset (List.mem_cons_of_mem _ (List.mem_cons_self ..)))).2
      simp at ma mb ⊢
      omega
    · refine List.pairwise_lt_range.imp ?_
      intro k1 k2 hk a ha b hb
      have ma := (List.mem_filter.mp ha).2
      have mb := (List.mem_filter.mp hb).2
      simp at ma mb ⊢
      omega
  · intro c
    have er : sameRank (fun a b : Nat => decide (ls.getD a 0 ≤ ls.getD b 0)) c = fun s => ls.getD s 0 == ls.getD c 0 := by
      funext x
      unfold sameRank
      rw [Bool.eq_iff_iff]; simp; omega
    rw [er, List.filter_filter, List.filter_flatMap]
    have hc := h15 c
    generalize ls.getD c 0 = m at hc ⊢
    by_cases h0 : m = 0
    · subst h0
      rw [List.flatMap_eq_nil_iff.mpr, List.filter_eq_nil_iff.mpr]
      · intro a _; simp; 
      · intro k _
        rw [List.filter_filter, List.filter_eq_nil_iff]
        intro a _; simp; omega
    · have key : ∀ n, ((List.range n).flatMap fun k => ((List.range ls.length).filter fun s => ls.getD s 0 == k + 1).filter fun s => ls.getD s 0 == m) = if m ≤ n then (List.range ls.length).filter fun s => ls.getD s 0 == m else [] := by
        intro n
        induction n with
        | zero => rw [if_neg (by omega)]; rfl
        | succ n ih =>
          rw [List.range_succ, List.flatMap_append, ih]
          simp only [List.flatMap_cons, List.flatMap_nil, List.append_nil, List.filter_filter]
          by_cases h1 : m ≤ n
          · rw [if_pos h1, if_pos (by omega)]
            have : (List.range ls.length).filter (fun a => (ls.getD a 0 == m) && (ls.getD a 0 == n + 1)) = [] := by
              rw [List.filter_eq_nil_iff]; intro a _; simp; omega
            rw [this, List.append_nil]
          · rw [if_neg h1]
            by_cases h2 : m = n + 1
            · rw [if_pos (by omega)]
              subst h2
              simp
            · rw [if_neg (by omega)]
              have : (List.range ls.length).filter (fun a => (ls.getD a 0 == m) && (ls.getD a 0 == n + 1)) = [] := by
                rw [List.filter_eq_nil_iff]; intro a _; simp; omega
              rw [this]; rfl
      rw [key 15, if_pos hc]
      apply List.filter_congr
      intro a _
      rw [Bool.eq_iff_iff]; simp; omega

/-- the program's loop: of the symbols in order, each with its word -/
def wfold (ls : List Nat) : List Nat → Nat → Nat → List (Nat × Nat × Nat)
  | [], _, _ => []
  | s :: r, up, bf => (s, ls.getD s 0, up * 2 ^ (ls.getD s 0 - bf)) :: wfold ls r (up * 2 ^ (ls.getD s 0 - bf) + 1) (ls.getD s 0)
theorem wfold_eq (ls : List Nat) : ∀ (r : List Nat) (acc : List (Nat × Nat × Nat)) (x : Option (Nat × Nat)) (up bf : Nat), (x = none → up = 0 ∧ bf = 0) → (∀ n c, x = some (n, c) → up = c + 1 ∧ bf = n) →
    (r.foldl (fun (x : List (Nat × Nat × Nat) × Option (Nat × Nat)) (s : Nat) => let n := ls.getD s 0; let c := match x.2 with
    | none => 0
    | some q => (q.2 + 1) * 2 ^ (n - q.1); (x.1 ++ [(s, n, c)], some (n, c))) (acc, x)).1 = acc ++ wfold ls r up bf
  | [], acc, x, up, bf, _, _ => by simp [wfold]
  | s :: r, acc, x, up, bf, h0, h1 => by
    rw [List.foldl_cons]
    cases x with
    | none =>
      obtain ⟨rfl, rfl⟩ := h0 rfl
      dsimp only
      rw [wfold_eq ls r _ _ (0 * 2 ^ (ls.getD s 0 - 0) + 1) (ls.getD s 0) (by intro h; cases h) (by intro n c h; cases h; exact ⟨by simp, rfl⟩), List.append_assoc]
      simp [wfold]
    | some q =>
      obtain ⟨rfl, rfl⟩ := h1 q.1 q.2 rfl
      dsimp only
      rw [wfold_eq ls r _ _ ((q.2 + 1) * 2 ^ (ls.getD s 0 - q.1) + 1) (ls.getD s 0) (by intro h; cases h) (by intro n c h; cases h; exact ⟨rfl, rfl⟩), List.append_assoc]
      rfl
theorem codewords_eq (ls : List Nat) (h15 : ∀ i, ls.getD i 0 ≤ 15) : codewords ls = wfold ls (symsOf ls) 0 0 := by
  unfold codewords
  rw [byLength_eq ls h15]
  exact (wfold_eq ls (symsOf ls) [] none 0 0 (fun _ => ⟨rfl, rfl⟩) (by intro n c h; cases h)).trans (List.nil_append _)
theorem wfold_append (ls : List Nat) : ∀ (r1 r2 : List Nat) (up bf : Nat), ∃ up' bf', wfold ls (r1 ++ r2) up bf = wfold ls r1 up bf ++ wfold ls r2 up' bf'
  | [], r2, up, bf => ⟨up, bf, rfl⟩
  | s :: r1, r2, up, bf => by
    obtain ⟨u, b, h⟩ := wfold_append ls r1 r2 (up * 2 ^ (ls.getD s 0 - bf) + 1) (ls.getD s 0)
    exact ⟨u, b, by simp only [List.cons_append, wfold]; rw [h]⟩
theorem wfold_syms (ls : List Nat) : ∀ (r : List Nat) (up bf : Nat), (wfold ls r up bf).map (·.1) = r
  | [], _, _ => rfl
  | s :: r, up, bf => by simp [wfold, wfold_syms ls r]
theorem wfold_len (ls : List Nat) : ∀ (r : List Nat) (up bf : Nat), ∀ q ∈ wfold ls r up bf, q.2.1 = ls.getD q.1 0
  | [], _, _, q, h => by cases h
  | s :: r, up, bf, q, h => by
    cases List.mem_cons.mp h with
    | inl e => rw [e]
    | inr e => exact wfold_len ls r _ _ q e
/-- words in units of the longest -/
theorem wfold_kraft (ls : List Nat) (h15 : ∀ i, ls.getD i 0 ≤ 15) : ∀ (r : List Nat) (up bf : Nat), bf ≤ 15 → (∀ s ∈ r, bf ≤ ls.getD s 0) → (r.Pairwise fun a b => ls.getD a 0 ≤ ls.getD b 0) →
    (∀ q ∈ wfold ls r up bf, up * 2 ^ (15 - bf) ≤ q.2.2 * 2 ^ (15 - q.2.1) ∧ (q.2.2 + 1) * 2 ^ (15 - q.2.1) ≤ up * 2 ^ (15 - bf) + (r.map fun s => 2 ^ (15 - ls.getD s 0)).sum) ∧
    (wfold ls r up bf).Pairwise fun a b => a.2.1 ≤ b.2.1 ∧ (a.2.2 + 1) * 2 ^ (15 - a.2.1) ≤ b.2.2 * 2 ^ (15 - b.2.1)
  | [], up, bf, _, _, _ => ⟨fun q h => (List.not_mem_nil h).elim, List.Pairwise.nil⟩
  | s :: r, up, bf, hb, hs, hp => by
    have h1 := hs s (List.mem_cons_self ..)
    have h2 := h15 s
    have hp' := List.pairwise_cons.mp hp
    obtain ⟨i1, i2⟩ := wfold_kraft ls h15 r (up * 2 ^ (ls.getD s 0 - bf) + 1) (ls.getD s 0) h2 (fun t ht => hp'.1 t ht) hp'.2
    have e : up * 2 ^ (ls.getD s 0 - bf) * 2 ^ (15 - ls.getD s 0) = up * 2 ^ (15 - bf) := by
      rw [Nat.mul_assoc, ← Nat.pow_add]
      congr 2; omega
    have e1 : (up * 2 ^ (ls.getD s 0 - bf) + 1) * 2 ^ (15 - ls.getD s 0) = up * 2 ^ (15 - bf) + 2 ^ (15 - ls.getD s 0) := by
      rw [Nat.add_mul, e, Nat.one_mul]
    refine ⟨?_, ?_⟩
    · intro q h
      rw [List.map_cons, List.sum_cons]
      cases List.mem_cons.mp h with
      | inl x =>
        subst x
        refine ⟨by rw [e]; exact Nat.le_refl _, ?_⟩
        dsimp only
        rw [e1]; omega
      | inr x =>
        obtain ⟨j1, j2⟩ := i1 q x
        rw [e1] at j1 j2
        have hpos : 0 < 2 ^ (15 - ls.getD s 0) := Nat.pow_pos (by decide)
        exact ⟨by omega, by omega⟩
    · refine List.pairwise_cons.mpr ⟨fun q hq => ?_, i2⟩
      obtain ⟨j1, j2⟩ := i1 q hq
      refine ⟨?_, j1⟩
      rw [wfold_len ls _ _ _ q hq]
      have : q.1 ∈ (wfold ls r (up * 2 ^ (ls.getD s 0 - bf) + 1) (ls.getD s 0)).map (·.1) := List.mem_map.mpr ⟨q, hq, rfl⟩
      rw [wfold_syms] at this
      exact hp'.1 q.1 this
theorem symsOf_srt (ls : List Nat) : (symsOf ls).Pairwise fun a b => ls.getD a 0 ≤ ls.getD b 0 := by
  unfold symsOf
  have ht2 : TotalLe (fun a b : Nat => decide (ls.getD a 0 ≤ ls.getD b 0)) := ⟨fun a b c h1 h2 => by simp at *; omega, fun a b => by simp; omega⟩
  exact (sort_pairwise ht2 _).imp (fun h => by simpa using h)
theorem sum_perm {a b : List Nat} (h : a.Perm b) : a.sum = b.sum := by
  induction h with
  | nil => rfl
  | cons x _ ih => simp [ih]
  | swap x y l => simp; omega
  | trans _ _ i1 i2 => exact i1.trans i2
theorem filter_getD : ∀ (ls : List Nat), ls.filter (fun n => n != 0) = ((List.range ls.length).filter fun s => ls.getD s 0 != 0).map fun s => ls.getD s 0 := by
  intro ls
  have : ls = (List.range ls.length).map fun s => ls.getD s 0 := by
    apply List.ext_getElem?
    intro i
    by_cases h : i < ls.length
    · simp [h]
    · simp [h]
  conv => lhs; rw [this]
  rw [List.filter_map]
  rfl
theorem told_perm (ls : List Nat) : (ls.filter fun n => n != 0).Perm ((symsOf ls).map fun s => ls.getD s 0) := by
  rw [filter_getD]
  exact ((List.mergeSort_perm _ _).symm).map _
theorem whole_sum (ls : List Nat) (h : wholeCode ls = true) : ((symsOf ls).map fun s => 2 ^ (15 - ls.getD s 0)).sum ≤ 2 ^ 15 := by
  have hp := (told_perm ls).map fun n => 2 ^ (15 - n)
  rw [List.map_map] at hp
  have := sum_perm hp
  show (List.map ((fun n => 2 ^ (15 - n)) ∘ fun s => ls.getD s 0) (symsOf ls)).sum ≤ 2 ^ 15
  rw [← this]
  unfold wholeCode at h
  dsimp only at h
  generalize ls.filter (fun n => n != 0) = l at h
  by_cases hl : l.length ≤ 1
  · rw [if_pos hl] at h
    match l, hl, h with
    | [], _, _ => simp
    | [n], _, h =>
      simp at h
      subst h
      decide
  · rw [if_neg hl] at h
    have : (l.map fun n => 2 ^ (15 - n)).sum = 2 ^ 15 := by simpa using h
    rw [this]; exact Nat.le_refl _
structure GoodWords (ws : List (Nat × Nat × Nat)) : Prop where
  lt : ∀ q ∈ ws, q.2.2 < 2 ^ q.2.1
  len : ∀ q ∈ ws, 1 ≤ q.2.1 ∧ q.2.1 ≤ 15
  ord : ws.Pairwise fun a b => a.2.1 ≤ b.2.1 ∧ (a.2.1 = b.2.1 → a.2.2 < b.2.2)
theorem good_words (ls : List Nat) (h15 : ∀ i, ls.getD i 0 ≤ 15) (h : wholeCode ls = true) : GoodWords (codewords ls) := by
  rw [codewords_eq ls h15]
  obtain ⟨k1, k2⟩ := wfold_kraft ls h15 (symsOf ls) 0 0 (by omega) (fun _ _ => Nat.zero_le _) (symsOf_srt ls)
  have hlen : ∀ q ∈ wfold ls (symsOf ls) 0 0, 1 ≤ q.2.1 ∧ q.2.1 ≤ 15 := by
    intro q hq
    rw [wfold_len ls _ _ _ q hq]
    have : q.1 ∈ (wfold ls (symsOf ls) 0 0).map (·.1) := List.mem_map.mpr ⟨q, hq, rfl⟩
    rw [wfold_syms, symsOf_mem] at this
    have := h15 q.1
    omega
  refine ⟨?_, hlen, ?_⟩
  · intro q hq
    have hk := (k1 q hq).2
    have hl := hlen q hq
    have hs := whole_sum ls h
    have : (q.2.2 + 1) * 2 ^ (15 - q.2.1) ≤ 2 ^ 15 := by omega
    have e : (2 : Nat) ^ 15 = 2 ^ q.2.1 * 2 ^ (15 - q.2.1) := by rw [← Nat.pow_add]; congr 1; omega
    rw [e] at this
    have := Nat.le_of_mul_le_mul_right this (Nat.pow_pos (by decide))
    omega
  · refine k2.imp ?_
    intro a b ⟨h1, h2⟩
    refine ⟨h1, fun h3 => ?_⟩
    rw [h3] at h2
    have := Nat.le_of_mul_le_mul_right h2 (Nat.pow_pos (by decide))
    omega
/-! ### reading a symbol -/
/-- the number of bits, the highest first -/
def hv (l : List Bool) : Nat := l.foldl (fun n b => 2 * n + cond b 1 0) 0
theorem hv_snoc (l : List Bool) (b : Bool) : hv (l ++ [b]) = 2 * hv l + cond b 1 0 := by
  unfold hv; rw [List.foldl_append]; rfl
theorem bitsHigh_succ (k n : Nat) : bitsHigh (k + 1) n = bitsHigh k (n / 2) ++ [n.testBit 0] := by
  unfold bitsHigh bitsLow
  rw [List.range_succ_eq_map, List.map_cons, List.reverse_cons, List.map_map]
  congr 3
  funext i
  simp [Nat.testBit_succ]
theorem bitsHigh_hv : ∀ (k : Nat) (l : List Bool), l.length = k → bitsHigh k (hv l) = l
  | 0, l, h => by rw [List.length_eq_zero_iff.mp h]; rfl
  | k + 1, l, h => by
    rcases List.eq_nil_or_concat l with e | ⟨r, b, e⟩
    · rw [e] at h; simp at h
    · rw [List.concat_eq_append] at e
      subst e
      rw [List.length_append, List.length_singleton] at h
      rw [bitsHigh_succ, hv_snoc]
      have e1 : (2 * hv r + cond b 1 0) / 2 = hv r := by cases b <;> simp <;> omega
      have e2 : (2 * hv r + cond b 1 0).testBit 0 = b := by cases b <;> simp [Nat.testBit_zero] <;> omega
      rw [e1, e2, bitsHigh_hv k r (by omega)]
theorem hv_bitsHigh : ∀ (k n : Nat), n < 2 ^ k → hv (bitsHigh k n) = n
  | 0, n, h => by
    have : n = 0 := by simpa using h
    subst this; rfl
  | k + 1, n, h => by
    rw [bitsHigh_succ, hv_snoc, hv_bitsHigh k (n / 2) (by rw [Nat.pow_succ] at h; omega)]
    rw [Nat.testBit_zero]
    by_cases e : n % 2 = 1 <;> simp [e] <;> omega
theorem bitsHigh_length (k n : Nat) : (bitsHigh k n).length = k := by simp [bitsHigh, bitsLow]
def hits (q : Nat × Nat × Nat) (l : List Bool) : Prop := q.2.1 ≤ l.length ∧ q.2.2 = hv (l.take q.2.1)
theorem hits_iff {q : Nat × Nat × Nat} {l : List Bool} (h : q.2.2 < 2 ^ q.2.1) : (decide (q.2.1 ≤ l.length) && bitsHigh q.2.1 q.2.2 == l.take q.2.1) = true ↔ hits q l := by
  simp only [Bool.and_eq_true, decide_eq_true_eq, beq_iff_eq]
  constructor
  · rintro ⟨h1, h2⟩
    refine ⟨h1, ?_⟩
    rw [← h2, hv_bitsHigh _ _ h]
  · rintro ⟨h1, h2⟩
    refine ⟨h1, ?_⟩
    rw [h2]
    exact bitsHigh_hv _ _ (by rw [List.length_take]; omega)
theorem read_none {ws : List (Nat × Nat × Nat)} (g : GoodWords ws) {l : List Bool} (h : ∀ q ∈ ws, ¬ hits q l) : readSymbol ws l = none := by
  unfold readSymbol
  rw [List.find?_eq_none.mpr]
  · rfl
  · intro q hq c
    exact h q hq ((hits_iff (g.lt q hq)).mp c)
theorem read_some {ws : List (Nat × Nat × Nat)} (g : GoodWords ws) {l : List Bool} {q0 : Nat × Nat × Nat} (hm : q0 ∈ ws) (h0 : hits q0 l) (h : ∀ q ∈ ws, q.2.1 < q0.2.1 → ¬ hits q l) : readSymbol ws l = some (q0.1, l.drop q0.2.1) := by
  unfold readSymbol
  have : ws.find? (fun q => decide (q.2.1 ≤ l.length) && bitsHigh q.2.1 q.2.2 == l.take q.2.1) = some q0 := by
    rw [List.find?_eq_some_iff_append]
    refine ⟨(hits_iff (g.lt q0 hm)).mpr h0, ?_⟩
    obtain ⟨as, bs, e⟩ := List.append_of_mem hm
    refine ⟨as, bs, e, ?_⟩
    intro a ha
    have ho := g.ord
    rw [e, List.pairwise_append] at ho
    have hao := ho.2.2 a ha q0 (List.mem_cons_self ..)
    have hma : a ∈ ws := by rw [e]; exact List.mem_append_left _ ha
    cases hc : (decide (a.2.1 ≤ l.length) && bitsHigh a.2.1 a.2.2 == l.take a.2.1) with
    | false => rfl
    | true =>
      have hh := (hits_iff (g.lt a hma)).mp hc
      exfalso
      by_cases hl : a.2.1 < q0.2.1
      · exact h a hma hl hh
      · have he : a.2.1 = q0.2.1 := by omega
        have := hao.2 he
        have h1 := hh.2
        have h2 := h0.2
        rw [he] at h1
        omega
  rw [this]
  rfl
/-- the words of one length and number are one symbol's -/
theorem good_one {ws : List (Nat × Nat × Nat)} (g : GoodWords ws) {a b : Nat × Nat × Nat} (ha : a ∈ ws) (hb : b ∈ ws) (h1 : a.2.1 = b.2.1) (h2 : a.2.2 = b.2.2) : a = b := by
  rcases Classical.em (a = b) with e | e
  · exact e
  · exfalso
    have := g.ord
    have sym : ∀ x y : Nat × Nat × Nat, (x.2.1 ≤ y.2.1 ∧ (x.2.1 = y.2.1 → x.2.2 < y.2.2)) → ¬ (x.2.1 = y.2.1 ∧ x.2.2 = y.2.2) := by
      intro x y h c; have := h.2 c.1; omega
    obtain ⟨as, bs, e1⟩ := List.append_of_mem ha
    rw [e1] at hb this
    rw [List.pairwise_append] at this
    rcases List.mem_append.mp hb with x | x
    · exact sym b a (this.2.2 b x a (List.mem_cons_self ..)) ⟨h1.symm, h2.symm⟩
    · cases List.mem_cons.mp x with
      | inl y => exact e y.symm
      | inr y => exact sym a b ((List.pairwise_cons.mp this.2.1).1 b y) ⟨h1, h2⟩
/-! ### the table of the codewords -/
theorem codewords_syms (ls : List Nat) (h15 : ∀ i, ls.getD i 0 ≤ 15) : (codewords ls).map (·.1) = symsOf ls := by
  rw [codewords_eq ls h15, wfold_syms]
theorem codewords_len (ls : List Nat) (h15 : ∀ i, ls.getD i 0 ≤ 15) : ∀ q ∈ codewords ls, q.2.1 = ls.getD q.1 0 := by
  rw [codewords_eq ls h15]; exact wfold_len ls _ _ _
theorem table_fold : ∀ (ws : List (Nat × Nat × Nat)) (a : Array (List Bool)) (s : Nat), (ws.map (·.1)).Nodup →
    (ws.foldl (fun (a : Array (List Bool)) (q : Nat × Nat × Nat) => a.set! q.1 (bitsHigh q.2.1 q.2.2)) a).getD s [] = match ws.find? (fun q => q.1 == s) with
      | some q => if s < a.size then bitsHigh q.2.1 q.2.2 else []
      | none => a.getD s []
  | [], a, s, _ => rfl
  | q :: ws, a, s, hn => by
    rw [List.map_cons, List.nodup_cons] at hn
    rw [List.foldl_cons, table_fold ws _ s hn.2, List.find?_cons]
    by_cases e : q.1 = s
    · have : ws.find? (fun q => q.1 == s) = none := by
        rw [List.find?_eq_none]
        intro x hx c
        apply hn.1
        rw [e]
        exact List.mem_map.mpr ⟨x, hx, by simpa using c⟩
      rw [this]
      simp only [e, beq_self_eq_true]
      simp only [Array.set!_eq_setIfInBounds, Array.getD_eq_getD_getElem?, Array.getElem?_setIfInBounds]
      by_cases h2 : s < a.size <;> simp [h2]
    · have : (q.1 == s) = false := by simpa using e
      rw [this]
      simp only [Array.set!_eq_setIfInBounds, Array.size_setIfInBounds, Array.getD_eq_getD_getElem?, Array.getElem?_setIfInBounds]
      simp [e]
theorem table_word (ls : List Nat) (h15 : ∀ i, ls.getD i 0 ≤ 15) {n s : Nat} (hn : n = ls.length) {q : Nat × Nat × Nat} (hq : q ∈ codewords ls) (e : q.1 = s) : (codeTable n ls).getD s [] = bitsHigh (ls.getD s 0) q.2.2 := by
  unfold codeTable
  rw [table_fold _ _ _ (by rw [codewords_syms ls h15]; exact symsOf_nodup ls)]
  have hf : (codewords ls).find? (fun q => q.1 == s) = some q := by
    rw [List.find?_eq_some_iff_append]
    refine ⟨by simp [e], ?_⟩
    obtain ⟨as, bs, e2⟩ := List.append_of_mem hq
    refine ⟨as, bs, e2, ?_⟩
    intro a ha
    have hnd : ((codewords ls).map (·.1)).Nodup := by rw [codewords_syms ls h15]; exact symsOf_nodup ls
    rw [e2, List.map_append, List.nodup_append] at hnd
    have := hnd.2.2 a.1 (List.mem_map.mpr ⟨a, ha, rfl⟩) q.1 (by simp)
    simp
    rw [← e]; exact this
  rw [hf]
  have hs : q.1 ∈ symsOf ls := by rw [← codewords_syms ls h15]; exact List.mem_map.mpr ⟨q, hq, rfl⟩
  rw [symsOf_mem, e] at hs
  dsimp only
  rw [if_pos (by simp; omega), codewords_len ls h15 q hq, e]
theorem codewords_has (ls : List Nat) (h15 : ∀ i, ls.getD i 0 ≤ 15) {s : Nat} (hs : s < ls.length) (h0 : ls.getD s 0 ≠ 0) : ∃ q ∈ codewords ls, q.1 = s := by
  have : s ∈ (codewords ls).map (·.1) := by rw [codewords_syms ls h15, symsOf_mem]; exact ⟨hs, h0⟩
  obtain ⟨q, h, e⟩ := List.mem_map.mp this
  exact ⟨q, h, e⟩
end MC
end
section
set_option Elab.async false
set_option maxRecDepth 100000
set_option maxHeartbeats 2000000
/-! codes: lists compared, is_whole. -/
namespace Sq
open PySem PySem.Spec PyProof.Rows L2 SqX LamX
open SwSqueeze (classOf further wholeCode)
def tTruK (K : PySem.W.Frag) (ta : TE) : TT := fun σ H Q => ta σ H fun x H' => ∃ k, TruV K x H' k ∧ Q k H'
theorem pt_truK {X : Cx} {K : PySem.W.Frag} {a : Expr} {ta : TE} (hK : X.K = K) (ha : PE X a ta) (he : ∀ whole, isTrue a X.env whole = (do let v ← whole; standAt a.pos; holding [v] (truthy v))) :
    PT X a (tTruK K ta) := by
  subst hK
  exact pt_truth ha he
/-! ### lists of ints compared -/
def dInts (ns : List Int) : List PyData := ns.map PyData.int
theorem dp_ints {K : PySem.W.Frag} {H : Hp} : ∀ ns : List Int, DpAll K H (ns.map V.int) (dInts ns)
  | [] => .nil
  | n :: ns => .cons (.int n) (dp_ints ns)
theorem shaped_ints (ns : List Int) : SeqAt.shaped (.list (dInts ns)) = true := by
  have h1 : ∀ l : List Int, PyData.canLayAll0 (dInts l) = true := fun l => by
    induction l with
    | nil => rfl
    | cons a l ih => exact ih
  have h2 : ∀ l : List Int, PyData.depthAll (dInts l) = 0 := fun l => by
    induction l with
    | nil => rfl
    | cons a l ih =>
      show max 0 (PyData.depthAll (dInts l)) = 0
      rw [ih]; rfl
  show (PyData.canLayAll0 (dInts ns) && decide (PyData.depthAll (dInts ns) + 1 ≤ 64)) = true
  rw [h1, h2]
  rfl
theorem eqv_ints : ∀ ns ms : List Int, PyData.eqvAll (dInts ns) (dInts ms) = decide (ns = ms)
  | [], [] => rfl
  | [], _ :: _ => rfl
  | _ :: _, [] => rfl
  | n :: ns, m :: ms => by
    show (n == m && PyData.eqvAll (dInts ns) (dInts ms)) = _
    rw [eqv_ints ns ms, Bool.eq_iff_iff]
    simp
theorem sum_pows : ∀ told : List Nat, (told.map fun n => (2 : Int) ^ (15 - n)).sum = (((told.map fun n => 2 ^ (15 - n)).sum : Nat) : Int)
  | [] => rfl
  | n :: told => by
    rw [List.map_cons, List.map_cons, List.sum_cons, List.sum_cons, sum_pows told]
    simp
def sp_is_whole (K : PySem.W.Frag) : Sp := fun vs H Q _ => ∃ (a : Addr) (ls : List Nat), vs = [.ref a] ∧ SqL K H a (natsV ls) ∧ (∀ n ∈ ls, n ≤ 15) ∧ ls.length ≤ 10000 ∧
  ∀ H', Same H H' → Q (.bl (wholeCode ls)) H'
section
variable {P : Program} {w : World} {K : PySem.W.Frag} {mg : Str → Option Value} {base : Heap} {c : CA} {f : Addr} {fd : FuncData}
theorem ok_is_whole (T : Tx K mg c) (F : Fun K "is_whole" "is_whole" s_is_whole f fd) : FnOk P w K mg base CX0 1 f fd ["lengths"] (sp_is_whole K) := by
  refine F.ok sc_is_whole (fun vs H Q E h => ?_) (fun cdv A outer s H vs Q E hr h => ?_)
  · obtain ⟨n, ls, rfl, _⟩ := h
    rfl
  · refine ⟨_, (pss_cons (ps_setLc (i := 1) (own := [("length", 2)]) (g := gName 2) rfl sc_is_whole.nd rfl rfl (sw_true rfl rfl rfl (by decide +kernel)) (pi_list (pv 0)) (blkOk_by (N := ["lengths", "told", "length"]) (sc := defScope s_is_whole) (by decide +kernel)) (fun _ _ _ _ _ => pg_name (i := 2) sc_is_whole.nd rfl (Or.inl rfl)) (fun _ _ _ _ _ => pts_one (pt_truK (K := K) rfl (pv 2) (by intro _; rfl))) (fun _ _ _ _ _ => (pv 2)))
  (pss_cons (ps_if (pt_cmpR op_lt (pe_callB call_len_seq (by rfl) T.len (by decide +kernel) (pa_cons (pv 1) pa_nil)) pe_int (nomark _)) (pss_one (ps_ret (pe_or (pe_cmpR (op_eqD hr.units) (pv 1) (pe_lst pa_nil) (nomark _)) (pe_one (pe_cmpR (op_eqD hr.units) (pv 1) (pe_lst (pa_cons pe_int pa_nil)) (nomark _)))))) pss_nil)
  (pss_one (ps_ret (pe_cmpR op_eq (pe_callB (cr_sum rfl) (by rfl) T.sum (by decide +kernel) (pa_cons (pe_lc (own := [("length", 2)]) (g := gName 2) (tt := tYes) rfl sc_is_whole.nd (pi_list (pv 1)) (blkOk_by (N := ["lengths", "told", "length"]) (sc := defScope s_is_whole) (by decide +kernel)) (fun _ _ _ _ _ => pg_name (i := 2) sc_is_whole.nd rfl (Or.inl rfl)) (fun _ _ _ _ _ => pts_nil) (fun _ _ _ _ _ => (pe_op op_shl pe_int (pe_op op_sub (pe_gI rfl T.LONGEST_WORD) (pv 2))))) pa_nil)) (pe_op op_shl pe_int (pe_gI rfl T.LONGEST_WORD)) (nomark _)))))), ?_⟩
    obtain ⟨a, ls, rfl, hS, h15, hl, q⟩ := h
    refine ⟨_, rfl, a, rfl, ⟨natsV ls, hS⟩, fun D hD => lc_it (walk_list (xs := natsV ls)) (fun j H' => H' D = some (.lst (natsV ((ls.take j).filter fun n => n != 0))) ∧ Same H H')
      ⟨upd_same, same_new hD⟩ (fun j H' _ hP => hP.2.seq hS) (fun j x H' H2 hj hP y => ?_) (fun H' hP => ?_)⟩
    · obtain ⟨rfl, hx⟩ := y
      obtain ⟨n, hn, rfl⟩ := map_get hx
      refine ⟨rfl, ?_⟩
      have e : ((n : Int) != 0) = (n != 0) := by cases n <;> rfl
      refine ⟨_, rfl, ((n : Int) != 0), rfl, ?_⟩
      refine ite2 (fun hb => ?_) (fun hb => ?_)
      · have hb2 : (n != 0) = true := by rw [← e]; exact hb
        refine ⟨_, rfl, _, hP.1, ?_, ?_, same_upd hP.2 hD⟩
        · rw [natsV, List.length_map]
          have : ((ls.take j).filter fun n => n != 0).length ≤ j := Nat.le_trans (List.length_filter_le _ _) (by rw [List.length_take]; omega)
          rw [natsV, List.length_map] at hj
          exact line_lt (by omega)
        · rw [upd_same, take_succ_of hn, List.filter_append, List.filter_cons_of_pos (p := fun n : Nat => n != 0) hb2, natsV, natsV, List.map_append]
          rfl
      · have hb2 : ¬ (n != 0) = true := by
          rw [← e]; exact hb
        refine ⟨?_, hP.2⟩
        rw [take_succ_of hn, List.filter_append, List.filter_cons_of_neg (p := fun n : Nat => n != 0) hb2, List.filter_nil, List.append_nil]
        exact hP.1
    · rw [show ls.take (natsV ls).length = ls from by rw [natsV, List.length_map, List.take_length]] at hP
      have h15' : ∀ n ∈ ls.filter (fun n => n != 0), 1 ≤ n ∧ n ≤ 15 := fun n hn => by
        have := List.mem_filter.mp hn
        have h1 : n ≠ 0 := by simpa using this.2
        exact ⟨by omega, h15 n this.1⟩
      have hwc : wholeCode ls = (if (ls.filter fun n => n != 0).length ≤ 1 then (ls.filter fun n => n != 0).all fun n => n == 1 else ((ls.filter fun n => n != 0).map fun n => 2 ^ (15 - n)).sum == 2 ^ 15) := rfl
      have hflen : (ls.filter fun n => n != 0).length ≤ 10000 := Nat.le_trans (List.length_filter_le _ _) hl
      generalize ls.filter (fun n => n != 0) = told at hP h15' hwc hflen
      rw [hwc] at q
      refine ⟨_, rfl, _, _, rfl, .inl (.inl (.inl hP.1)), _, _, rfl, rfl, _, rfl, ?_⟩
      have htl : (natsV told).length = told.length := List.length_map ..
      refine ite2 (fun hlt => ?_) (fun hlt => ?_)
      · have hlt2 : told.length < 2 := by
          have := of_decide_eq_true hlt
          omega
        rw [if_pos (by omega)] at q
        refine ⟨_, rfl, Nat.zero_le _, fun z hz => ?_⟩
        have hS1 := same_made (o := .lst []) hP.2 hz
        have hD1 := same_new (o := .lst []) hz _ _ hP.1
        have hz1 : upd H' z (.lst []) z = some (.lst []) := upd_same
        generalize upd H' z (.lst []) = H1 at hS1 hD1 hz1 ⊢
        have dpt : ∀ H1 : Hp, H1 D = some (.lst (natsV told)) → Dp K H1 (.ref D) (.list (dInts (told.map Int.ofNat))) := fun H1 h => by
          refine .lst (.inl (.inl h)) ?_
          have := dp_ints (K := K) (H := H1) (told.map Int.ofNat)
          rw [List.map_map] at this
          exact this
        refine ⟨_, _, dpt H1 hD1, .lst (.inl (.inl hz1)) (dp_ints []), shaped_ints _, shaped_ints _, ?_⟩
        refine ⟨_, rfl, ?_⟩
        refine ite2 (fun he => ?_) (fun he => ?_)
        · have : told = [] := by
            have := of_decide_eq_true ((eqv_ints _ _).symm.trans he)
            simpa using this
          subst this
          exact q _ hS1
        · refine ⟨_, rfl, by show 1 ≤ _; decide, fun z2 hz2 => ?_⟩
          have hS2 := same_made (o := .lst [V.int 1]) hS1 hz2
          have hD2 := same_new (o := .lst [V.int 1]) hz2 _ _ hD1
          have hz3 : upd H1 z2 (.lst [V.int 1]) z2 = some (.lst [V.int 1]) := upd_same
          generalize upd H1 z2 (.lst [V.int 1]) = H2 at hS2 hD2 hz3 ⊢
          refine ⟨_, _, dpt H2 hD2, .lst (.inl (.inl hz3)) (dp_ints [1]), shaped_ints _, shaped_ints _, ?_⟩
          have e2 : PyData.eqv (.list (dInts (told.map Int.ofNat))) (.list (dInts [1])) = told.all fun n => n == 1 := by
            refine (eqv_ints _ _).trans ?_
            match told, hlt2, he with
            | [], _, he => exact absurd rfl he
            | [n], _, _ => 
              rw [Bool.eq_iff_iff]
              simp
              omega
          rw [e2]
          exact q _ hS2
      · have hlt2 : ¬ told.length < 2 := by
          intro h
          apply hlt
          rw [htl]
          exact decide_eq_true (by omega)
        rw [if_neg (by omega)] at q
        refine ⟨_, rfl, D, rfl, ⟨natsV told, .inl (.inl hP.1)⟩, fun D2 hD2 => lc_it (walk_list (xs := natsV told)) (fun j H2 => H2 D2 = some (.lst (((told.take j).map fun n => (2 : Int) ^ (15 - n)).map V.int)) ∧ Same H' H2)
          ⟨upd_same, same_new hD2⟩ (fun j H2 _ hP2 => hP2.2.seq (.inl (.inl hP.1))) (fun j x H1 H2 hj hP2 y => ?_) (fun H2 hP2 => ?_)⟩
        · obtain ⟨rfl, hx⟩ := y
          obtain ⟨n, hn, rfl⟩ := map_get hx
          have hn15 := h15' n (List.mem_of_getElem? hn)
          refine ⟨rfl, ?_⟩
          refine ⟨_, rfl, _, _, rfl, rfl, _, _, rfl, rfl, ⟨by omega, by omega, by decide⟩, _, hP2.1, ?_, ?_, same_upd hP2.2 hD2⟩
          · rw [List.length_map, List.length_map, List.length_take]
            exact line_lt (by omega)
          · rw [upd_same, take_succ_of hn, List.map_append, List.map_append]
            have e3 : ((15 : Int) - (n : Int)).toNat = 15 - n := by omega
            dsimp only
            rw [e3, Int.one_mul]
            rfl
        · rw [htl, List.take_length] at hP2
          refine ⟨_, _, rfl, .inl (.inl hP2.1), _, _, rfl, rfl, ⟨by decide, by decide, by decide⟩, ?_⟩
          refine ⟨rfl, ?_⟩
          have e4 : decide (V.int (told.map fun n => (2 : Int) ^ (15 - n)).sum = V.int (1 * 2 ^ (Int.toNat 15))) = ((told.map fun n => 2 ^ (15 - n)).sum == 2 ^ 15) := by
            rw [dec_int, sum_pows, Bool.eq_iff_iff]
            simp
            omega
          dsimp only
          rw [e4]
          exact q _ (hP.2.trans hP2.2)
end
end Sq
end
section
set_option Elab.async false
set_option maxRecDepth 100000
set_option maxHeartbeats 2000000
/-! codes: defs with lambdas. -/
namespace Sq
open PySem PySem.Spec PyProof.Rows L2 SqX LamX
section
variable {P : Program} {w : World} {K : PySem.W.Frag} {mg : Str → Option Value} {base : Heap}
/-- as Fun.ok, the code object known -/
theorem okL {x qual : Str} {st : Stmt} {f cd : Addr} {fd : FuncData} {N ps : List Str} {k : Nat} {sp : Sp} (F : Fun K x qual st f fd) (hc : fd.code = .ref cd) (S : FnScope N ps (defScope st)) (len : ∀ vs H Q E, sp vs H Q E → vs.length = ps.length)
    (hbody : ∀ (A : Around) (outer : List Env) (s : Shared) (H : Hp) (vs : List V) (Q : VK) (E : XK), Room k (A.deeper (envOfC qual (defScope st) s.heap.objs.size f (.ref cd))) → sp vs H Q E →
      ∃ t, PSs (cxOf CX0 P w K mg base N qual (defScope st) f (.ref cd) A outer s H E).nox (defBody st) t ∧ t { nx := fun _ H' => Q .non H', rt := Q } (start N vs) H) : FnOk P w K mg base CX0 (k + 1) f fd ps sp := by
  obtain ⟨oc, od, kV, doc, pm, an, cdv, ct, osl, rfl, lk, hcd⟩ := F.ex
  obtain rfl : cdv = .ref cd := hc
  refine fn_of lk hcd S len fun A outer s H vs Q E hr hsp => ?_
  obtain ⟨t, h, q⟩ := hbody A outer s H vs Q E hr hsp
  exact ⟨t, h.nox, q⟩
end
theorem free2 {x y : Str} {L : List (Str × NameKind)} (h : L.lookup y = some .cell) : ∀ z ∈ [(x, NameKind.local), (y, NameKind.free)], z.2 = .free → L.lookup z.1 = some .cell ∨ L.lookup z.1 = some .free := by
  intro z hz e
  rcases List.mem_cons.mp hz with rfl | hz
  · cases e
  · rw [List.mem_singleton.mp hz]
    exact .inl h
/-- the name of the lambda of a def -/
def lamN (qual : Str) : Str := qual ++ ".<locals>." ++ "<lambda>"
theorem ixN_nat {n j : Nat} {k : Int} (e : k = (j : Int)) (h : j < n) : ixN n k = some j := by
  subst e
  unfold ixN
  rw [if_pos (by omega), if_pos (by omega)]
  simp
open MC (symsOf cnts)
def intsOf (ls : List Nat) : List Int := ls.map Int.ofNat
theorem intsV (ls : List Nat) : (intsOf ls).map V.int = natsV ls := by
  unfold intsOf natsV
  rw [List.map_map]
  rfl
theorem intsGet (ls : List Nat) (i : Nat) : (intsOf ls).getD i 0 = ((ls.getD i 0 : Nat) : Int) := by
  unfold intsOf
  rw [List.getD_eq_getElem?_getD, List.getElem?_map, List.getD_eq_getElem?_getD]
  cases ls[i]? <;> rfl
theorem sort_syms (ls : List Nat) : (((List.range ls.length).filter fun s => ls.getD s 0 != 0).mergeSort fun x y => decide ((intsOf ls).getD x 0 ≤ (intsOf ls).getD y 0)) = symsOf ls := by
  unfold symsOf
  congr 1
  funext x y
  rw [intsGet, intsGet]
  simp
theorem nat_get {ls : List Nat} {i : Nat} (h : i < ls.length) : (natsV ls)[i]? = some (V.int (ls.getD i 0 : Nat)) := by
  unfold natsV
  rw [List.getElem?_map, List.getElem?_eq_getElem h, List.getD_eq_getElem?_getD, List.getElem?_eq_getElem h]
  rfl
/-- the places whose numbers aren't 0, of the first j -/
def placesTo (ls : List Nat) (j : Nat) : List Nat := (List.range j).filter fun s => ls.getD s 0 != 0
theorem placesTo_succ (ls : List Nat) (j : Nat) : placesTo ls (j + 1) = placesTo ls j ++ (if ls.getD j 0 != 0 then [j] else []) := by
  unfold placesTo
  rw [List.range_succ, List.filter_append]
  congr 1
  by_cases h : (ls.getD j 0 != 0) = true
  · rw [List.filter_cons_of_pos (p := fun s => ls.getD s 0 != 0) h, if_pos h]; rfl
  · rw [List.filter_cons_of_neg (p := fun s => ls.getD s 0 != 0) h, if_neg h]; rfl
theorem placesTo_len (ls : List Nat) (j : Nat) : (placesTo ls j).length ≤ j := by
  unfold placesTo
  exact Nat.le_trans (List.length_filter_le _ _) (by rw [List.length_range]; exact Nat.le_refl _)
theorem placesTo_lt (ls : List Nat) (j : Nat) : ∀ n ∈ placesTo ls j, n < j := fun n hn => List.mem_range.mp (List.mem_filter.mp hn).1
/-- how often each number below n is in the list -/
def tally (n : Nat) (l : List Nat) : List Nat := (List.range n).map fun s => l.count s
theorem tally_nil (n : Nat) : tally n [] = List.replicate n 0 := by
  unfold tally
  rw [List.eq_replicate_iff]
  simp
theorem tally_get {n s : Nat} (l : List Nat) (h : s < n) : (natsV (tally n l))[s]? = some (V.int (l.count s : Nat)) := by
  unfold natsV tally
  rw [List.getElem?_map, List.getElem?_map, List.getElem?_range h]
  rfl
theorem tally_length (n : Nat) (l : List Nat) : (natsV (tally n l)).length = n := by simp [natsV, tally]
theorem tally_set {n s : Nat} (l : List Nat) (h : s < n) : (natsV (tally n l)).set s (V.int ((l.count s : Nat) + 1)) = natsV (tally n (l ++ [s])) := by
  apply List.ext_getElem
  · rw [List.length_set, tally_length, tally_length]
  · intro i k1 k2
    rw [List.getElem_set]
    have hi : i < n := by rw [tally_length] at k2; exact k2
    simp only [natsV, tally, List.getElem_map, List.getElem_range, List.count_append]
    by_cases e : s = i
    · subst e
      rw [if_pos rfl]
      simp
    · rw [if_neg e, List.count_singleton, if_neg (by simpa using e)]
      rfl
/-- neither a table of code objects nor a code object -/
def Plain (o : HO) : Prop := (∀ ps, o ≠ .tbl ps) ∧ ∀ c q, o ≠ CodeO c q
theorem plain_lst (xs : List V) : Plain (.lst xs) := ⟨fun _ z => (nomatch z), fun c q z => by unfold CodeO at z; cases z⟩
theorem plain_ins (C dx : Addr) (fs : List (Str × V)) : Plain (.ins C dx fs) := ⟨fun _ z => (nomatch z), fun c q z => by unfold CodeO at z; cases z⟩
theorem plain_dK (xs : List (Key × V)) : Plain (.dK xs) := ⟨fun _ z => (nomatch z), fun c q z => by unfold CodeO at z; cases z⟩
theorem Tabs.but {TT : List (Addr × Str)} {H H' : Hp} {p : Addr} {o : HO} (hT : Tabs TT H) (hp : H p = some o) (ho : Plain o) (s : SameBut p H H') : Tabs TT H' := fun x hx => by
  obtain ⟨ps, h1, h2, h3⟩ := hT x hx
  refine ⟨ps, s _ _ (ne_of h1 hp (fun z => ho.1 ps z.symm)) h1, h2, fun pos cv hc => ?_⟩
  obtain ⟨c, e1, e2⟩ := h3 pos cv hc
  exact ⟨c, e1, s _ _ (ne_of e2 hp (fun z => ho.2 _ _ z.symm)) e2⟩
theorem Tabs.put {TT : List (Addr × Str)} {H : Hp} {p : Addr} {o u : HO} (hT : Tabs TT H) (hp : H p = some o) (ho : Plain o) : Tabs TT (upd H p u) := Tabs.but hT hp ho fun b v hb e => by rw [upd_ne hb]; exact e
theorem ExtN.put {H H' : Hp} {p : Addr} {u : HO} (e : ExtN H H') (hp : H p = none) : ExtN H (upd H' p u) := fun b o hb hn => by
  rw [upd_ne (ne_of_none hb hp)]
  exact e b o hb hn
theorem set_one {often : List Nat} {s0 : Nat} (h1 : s0 < often.length) (h2 : often.getD s0 0 ≠ 0) (h : ∀ i, i < often.length → i ≠ s0 → often.getD i 0 = 0) : (natsV (List.replicate often.length 0)).set s0 (V.int 1) = natsV (often.map fun n => if n = 0 then 0 else 1) := by
  apply List.ext_getElem
  · simp [natsV]
  · intro i k1 k2
    rw [List.getElem_set]
    have hi : i < often.length := by simpa [natsV] using k1
    by_cases e : s0 = i
    · subst e
      rw [if_pos rfl]
      simp only [natsV, List.getElem_map]
      rw [if_neg (by rw [List.getD_eq_getElem?_getD, List.getElem?_eq_getElem h1] at h2; exact h2)]
      rfl
    · rw [if_neg e]
      have := h i hi (fun z => e z.symm)
      rw [List.getD_eq_getElem?_getD, List.getElem?_eq_getElem hi] at this
      have : often[i] = 0 := this
      simp only [natsV, List.getElem_map, List.getElem_replicate]
      rw [this, if_pos rfl]
def sp_code_lengths (K : PySem.W.Frag) (TT : List (Addr × Str)) : Sp := fun vs H Q _ => ∃ (a : Addr) (often : List Nat), vs = [.ref a] ∧ SqL K H a (natsV often) ∧ often.length ≤ 5000 ∧ Tabs TT H ∧
  ∀ H' p, ExtN H H' → Tabs TT H' → H p = none → H' p = some (.lst (natsV (SwSqueeze.lengths often))) → Q (.ref p) H'
section
variable {P : Program} {w : World} {K : PySem.W.Frag} {mg : Str → Option Value} {base : Heap} {c : CA} {f cd Pt : Addr} {fd : FuncData} {TT : List (Addr × Str)}
theorem ok_code_lengths (T : Tx K mg c) (G : Hd P w K mg base CX0 3 "leaf_counts" ["leaves"] sp_leaf_counts) (hc : fd.code = .ref cd) (TB : TabB base mg cd Pt) (hm : (Pt, lamN "code_lengths") ∈ TT) (hu : ∀ q ∈ TT, q.1 = Pt → q.2 = lamN "code_lengths")
    (F : Fun K "code_lengths" "code_lengths" s_code_lengths f fd) : FnOk P w K mg base CX0 4 f fd ["often"] (sp_code_lengths K TT) := by
  refine okL F hc sc_code_lengths (fun vs H Q E h => ?_) (fun A outer s H vs Q E hr h => ?_)
  · obtain ⟨a, ls, rfl, _⟩ := h
    rfl
  · refine ⟨_, (pss_cons (ps_set (i := 1) sc_code_lengths.nd rfl (Or.inl rfl) (pe_op op_rep (pe_lst (pa_cons pe_int pa_nil)) (pe_callB call_len_seq (by rfl) T.len (by decide +kernel) (pa_cons (pv 0) pa_nil))))
  (pss_cons (ps_set (i := 2) sc_code_lengths.nd rfl (Or.inl rfl) (pe_sortLam (T := TT) (x := "symbol") (y := "often") (j := 0) (k := 0) (hr.mono (by decide)) TB rfl hm hu rfl T.sorted (pa_cons (pe_lc (own := [("symbol", 3), ("times", 4)]) (g := gTup K 2 (gCons (gName 3) (gCons (gName 4) gNil))) rfl sc_code_lengths.nd (pi_enum rfl T.enumerate (pa_cons (pv 0) pa_nil)) (blkOk_by (N := ["often", "lengths", "symbols", "symbol", "times", "alone"]) (sc := defScope s_code_lengths) (by decide +kernel)) (fun _ _ _ _ _ => pg_tup rfl (pgs_cons (pg_name (i := 3) sc_code_lengths.nd rfl (Or.inl rfl)) (pgs_cons (pg_name (i := 4) sc_code_lengths.nd rfl (Or.inl rfl)) pgs_nil))) (fun _ _ _ _ _ => pts_one (pt_truK (K := K) rfl (pv 4) (by intro _; rfl))) (fun _ _ _ _ _ => (pv 3))) pa_nil)
      rfl (free2 rfl) ⟨rfl, rfl, rfl, by decide +kernel, rfl, rfl⟩ rfl rfl (fun _ _ _ _ _ => rfl) (by decide +kernel) (by decide +kernel) (by decide +kernel)))
  (pss_cons (ps_if (pt_cmpR op_eq (pe_callB call_len_seq (by rfl) T.len (by decide +kernel) (pa_cons (pv 2) pa_nil)) pe_int (nomark _)) (pss_one (ps_asg pe_int (pg_sub (pv 1) (pe_ix ix_list (pv 2) pe_int (fun _ _ => rfl)) set_list))) pss_nil)
  (pss_cons (ps_if (pt_cmpR op_lt (pe_callB call_len_seq (by rfl) T.len (by decide +kernel) (pa_cons (pv 2) pa_nil)) pe_int (nomark _)) (pss_one (ps_ret (pv 1))) pss_nil)
  (pss_cons (ps_for PassesOwn.never rfl (pi_list (pe_cd G (hr.mono (by decide)) pass0 (pa_cons (pe_lc (own := [("symbol", 3)]) (g := gName 3) (tt := tYes) rfl sc_code_lengths.nd (pi_list (pv 2)) (blkOk_by (N := ["often", "lengths", "symbols", "symbol", "times", "alone"]) (sc := defScope s_code_lengths) (by decide +kernel)) (fun _ _ _ _ _ => pg_name (i := 3) sc_code_lengths.nd rfl (Or.inl rfl)) (fun _ _ _ _ _ => pts_nil) (fun _ _ _ _ _ => (pe_tup (pa_cons (pe_ix (ix_list : IxR _ (rIxL K)) (pv 0) (pv 3) (fun _ _ => rfl)) (pa_cons pe_bl pa_nil))))) pa_nil))) (pg_name (i := 5) sc_code_lengths.nd rfl (Or.inl rfl)) (pss_one (ps_for PassesOwn.never rfl (pi_list (pe_slice sl_list (pv 2) po_none (po_some (pv 5)))) (pg_name (i := 3) sc_code_lengths.nd rfl (Or.inl rfl)) (pss_one (ps_augS (pv 1) (pv 3) get_list pe_int ip_add set_list)))))
  (pss_one (ps_ret (pv 1)))))))), ?_⟩
    obtain ⟨a, often, rfl, hS, hl, hT, q⟩ := h
    have hol : (natsV often).length = often.length := List.length_map ..
    refine ⟨by show 1 ≤ _; decide, fun z hz => ⟨_, rfl, _, _, rfl, .inl ((same_new hz).seq hS), z, _, _, rfl, rfl, upd_same, by omega, by omega, ?_, fun p hp => ?_⟩⟩
    · rw [List.length_singleton, hol]
      exact line_le (by omega)
    · have hS1 := same_made (o := .lst (List.replicate (((natsV often).length : Nat) : Int).toNat [V.int 0]).flatten) (same_new (o := .lst [V.int 0]) hz) hp
      have hp1 : upd (upd H z (.lst [V.int 0])) p (.lst (List.replicate (((natsV often).length : Nat) : Int).toNat [V.int 0]).flatten) p = some (.lst (natsV (List.replicate often.length 0))) := by
        rw [upd_same, hol, Int.toNat_natCast]
        congr 2
        unfold natsV
        induction often.length with
        | zero => rfl
        | succ n ih => rw [List.replicate_succ, List.flatten_cons, ih, List.replicate_succ]; rfl
      have hp0 : H p = none := (same_new hz).free hp
      generalize upd (upd H z (.lst [V.int 0])) p (.lst (List.replicate (((natsV often).length : Nat) : Int).toNat [V.int 0]).flatten) = H1 at hS1 hp1 ⊢
      refine ⟨_, rfl, a, _, rfl, hS1.seq hS, fun D hD => lc_it walk_enum (fun j H' => Same H1 H' ∧ H' D = some (.lst (natsV (placesTo often j))))
        ⟨same_new hD, upd_same⟩ (fun j H' _ hP => (hS1.trans hP.1).seq hS) (fun j x H' H2 hj hP y => ?_) (fun H' hP => ?_)⟩
      · obtain ⟨t, x1, x2, rfl, ht, rfl, hx1, hx2⟩ := y
        cases hx1
        rw [hol] at hj
        obtain rfl := Option.some.inj ((nat_get hj).symm.trans hx2)
        refine ⟨t, _, rfl, .inl (.inl upd_same), rfl, _, _, rfl, _, _, rfl, rfl, ?_⟩
        refine ⟨rfl, ?_⟩
        have e : (((often.getD j 0 : Nat) : Int) != 0) = (often.getD j 0 != 0) := by cases often.getD j 0 <;> rfl
        refine ⟨_, rfl, _, rfl, ?_⟩
        have hDt := ne_of_none hP.2 ht
        have hsu := placesTo_succ often j
        have hpl := placesTo_len often j
        refine ite2 (fun hb => ?_) (fun hb => ?_)
        · rw [e] at hb
          rw [if_pos hb] at hsu
          refine ⟨_, rfl, _, by rw [upd_ne hDt]; exact hP.2, ?_, same_upd (same_made hP.1 ht) hD, ?_⟩
          · rw [natsV, List.length_map]
            exact line_lt (by omega)
          · rw [upd_same, hsu, natsV, natsV, List.map_append]
            rfl
        · rw [e] at hb
          rw [if_neg hb, List.append_nil] at hsu
          refine ⟨same_made hP.1 ht, ?_⟩
          rw [hsu, upd_ne hDt]
          exact hP.2
      · rw [hol] at hP
        have hS2 := hS1.trans hP.1
        refine ⟨D, a, placesTo often often.length, intsOf often, rfl, .inl (.inl hP.2), rfl, by rw [intsV]; exact hS2.seq hS, fun n hn => by rw [intsOf, List.length_map]; exact placesTo_lt _ _ n hn, hT.ext hS2, fun H2 r eN hT2 hr2 => ?_⟩
        have hsy : (((placesTo often often.length).mergeSort fun x y => decide ((intsOf often).getD x 0 ≤ (intsOf often).getD y 0)).map fun n : Nat => V.int n) = natsV (symsOf often) := by
          rw [placesTo, sort_syms]; rfl
        rw [hsy]
        have eN1 : ExtN H H2 := (ExtN.of hS2).trans eN
        have eN2 : ExtN H (upd H2 r (.lst (natsV (symsOf often)))) := eN1.trans (ExtN.of (same_new hr2))
        have hT3 : Tabs TT (upd H2 r (.lst (natsV (symsOf often)))) := hT2.ext (same_new hr2)
        have hr3 : upd H2 r (.lst (natsV (symsOf often))) r = some (.lst (natsV (symsOf often))) := upd_same
        have hp3 : upd H2 r (.lst (natsV (symsOf often))) p = some (.lst (natsV (List.replicate often.length 0))) := same_new hr2 _ _ (eN _ _ (hP.1 _ _ hp1) (by intro ps z; cases z))
        have hpr : p ≠ r := ne_of_none (eN _ _ (hP.1 _ _ hp1) (by intro ps z; cases z)) hr2
        generalize upd H2 r (.lst (natsV (symsOf often))) = H3 at eN2 hT3 hr3 hp3 ⊢
        have hS3 : SqL K H3 a (natsV often) := ExtN.seq eN2 hS
        have hsl : (natsV (symsOf often)).length = (symsOf often).length := List.length_map ..
        have hsb := MC.symsOf_length_le often
        refine ⟨_, rfl, _, _, rfl, .inl (.inl (.inl hr3)), rfl, _, rfl, ?_⟩
        refine ite2 (fun h1 => ?_) (fun h1 => ?_)
        · have h1' : (symsOf often).length = 1 := by
            rw [hsl] at h1
            have := of_decide_eq_true h1
            injection this with this
            omega
          obtain ⟨s0, hs0⟩ : ∃ s0, symsOf often = [s0] := by
            match symsOf often, h1' with
            | [x], _ => exact ⟨x, rfl⟩
          have hs0m : s0 < often.length ∧ often.getD s0 0 ≠ 0 := (MC.symsOf_mem often s0).mp (by rw [hs0]; exact List.mem_singleton.mpr rfl)
          refine ⟨_, rfl, _, rfl, r, _, _, _, rfl, rfl, .inl (.inl hr3), at_of (j := 0) (v := V.int s0) (by omega) (by rw [hs0]; rfl), ?_⟩
          refine ⟨p, _, _, s0, rfl, rfl, hp3, ixN_nat rfl (by rw [natsV, List.length_map, List.length_replicate]; exact hs0m.1), ?_⟩
          have e1 : (natsV (List.replicate often.length 0)).set s0 (V.int 1) = natsV (SwSqueeze.lengths often) := by
            rw [MC.lengths_one often h1']
            refine set_one hs0m.1 hs0m.2 fun i hi hne => ?_
            by_cases hz0 : often.getD i 0 = 0
            · exact hz0
            · have := (MC.symsOf_mem often i).mpr ⟨hi, hz0⟩
              rw [hs0, List.mem_singleton] at this
              exact absurd this hne
          rw [e1]
          have hr4 : upd H3 p (.lst (natsV (SwSqueeze.lengths often))) r = some (.lst (natsV (symsOf often))) := by rw [upd_ne hpr.symm]; exact hr3
          refine ⟨_, rfl, _, _, rfl, .inl (.inl (.inl hr4)), _, _, rfl, rfl, _, rfl, ?_⟩
          refine ite2 (fun h2 => ?_) (fun h2 => ?_)
          · refine ⟨_, rfl, q _ p ?_ ?_ hp0 upd_same⟩
            · intro b o hb hn
              rw [upd_ne (ne_of_none hb hp0)]
              exact eN2 b o hb hn
            · exact Tabs.put hT3 hp3 (plain_lst _)
          · exact absurd (decide_eq_true (by rw [hsl]; omega)) h2
        · have h1' : (symsOf often).length ≠ 1 := by
            intro h; apply h1
            rw [hsl, h]; rfl
          refine ⟨_, rfl, _, _, rfl, .inl (.inl (.inl hr3)), _, _, rfl, rfl, _, rfl, ?_⟩
          refine ite2 (fun h2 => ?_) (fun h2 => ?_)
          · have h0 : (symsOf often).length = 0 := by
              have := of_decide_eq_true h2
              rw [hsl] at this
              omega
            refine ⟨_, rfl, q _ p eN2 hT3 hp0 ?_⟩
            rw [hp3, MC.lengths_none often h0, List.map_const']
          · have h2' : 2 ≤ (symsOf often).length := by
              have : ¬ ((natsV (symsOf often)).length : Int) < 2 := fun h => h2 (decide_eq_true h)
              rw [hsl] at this
              omega
            refine ⟨_, rfl, r, rfl, ⟨natsV (symsOf often), .inl (.inl hr3)⟩, fun D2 hD2 => lc_it (walk_list (xs := natsV (symsOf often))) (fun j H' => Same H3 H' ∧ ∃ bs : List It2, H' D2 = some (.lst (refs bs)) ∧ Its H' bs ∧ pis bs = ((symsOf often).take j).map fun s => (often.getD s 0, true))
              ⟨same_new hD2, [], upd_same, nofun, rfl⟩ (fun j H' _ hP => .inl (.inl (hP.1 _ _ hr3))) (fun j x H' H4 hj hP y => ?_) (fun H4 hP4 => ?_)⟩
            · obtain ⟨rfl, hx⟩ := y
              obtain ⟨hs4, bs, hb1, hb2, hb3⟩ := hP
              obtain ⟨s0, hs0, rfl⟩ := map_get hx
              have hs0m := (MC.symsOf_mem often s0).mp (List.mem_of_getElem? hs0)
              have hbl : bs.length = j := by
                have : (pis bs).length = j := by rw [hb3, List.length_map, List.length_take]; omega
                rw [← this, pis, List.length_map]
              refine ⟨rfl, ?_⟩
              refine ⟨_, rfl, _, rfl, a, _, _, _, rfl, rfl, hs4.seq hS3, at_of rfl (nat_get hs0m.1), ?_⟩
              refine ⟨by show 2 ≤ _; decide, fun t ht => ?_⟩
              have htD : D2 ≠ t := ne_of_none hb1 ht
              refine ⟨refs bs, by rw [upd_ne htD]; exact hb1, ?_, same_upd (same_made hs4 ht) hD2, bs ++ [(t, often.getD s0 0, true)], ?_, ?_, ?_⟩
              · rw [refs, List.length_map, hbl]
                exact line_lt (by omega)
              · rw [upd_same, refs, refs, List.map_append]
                rfl
              · refine Its.snoc (fun x hx => ?_) ?_
                · have hn : x.1 ≠ D2 := ne_of (hb2 x hx) hb1 (by intro z; cases z)
                  rw [upd_ne hn, upd_ne (ne_of_none (hb2 x hx) ht)]
                  exact hb2 x hx
                · rw [upd_ne htD.symm, upd_same]
              · rw [pis, List.map_append]
                show pis bs ++ _ = _
                rw [hb3, take_succ_of hs0, List.map_append]
                rfl
            · obtain ⟨hs4, bs, hb1, hb2, hb3⟩ := hP4
              rw [hsl, List.take_length] at hb3
              have hbl : bs.length = (symsOf often).length := by
                have : (pis bs).length = (symsOf often).length := by rw [hb3, List.length_map]
                rw [← this, pis, List.length_map]
              refine ⟨D2, bs, rfl, hb1, hb2, by omega, by omega, fun H5 rc hs5 hrc0 hrc1 => ?_⟩
              have hcn : MC.pcounts (pis bs) 14 (2 * bs.length - 2) = cnts often := by
                rw [hb3, hbl]; rfl
              rw [hcn] at hrc1
              have hpc : p ≠ rc := ne_of_none (hs4 _ _ hp3) hrc0
              have hrc : r ≠ rc := ne_of_none (hs4 _ _ hr3) hrc0
              refine ⟨rc, rfl, ⟨natsV (cnts often), .inl (.inl hrc1)⟩, for_it (walk_list (xs := natsV (cnts often))) (fun i σ H' => ∃ v3 v4 v5 : Option V, σ = [some (.ref a), some (.ref p), some (.ref r), v3, v4, v5] ∧ ExtN H H' ∧ Tabs TT H' ∧
                H' p = some (.lst (natsV (tally often.length (((cnts often).take i).flatMap fun a => (symsOf often).take a)))) ∧ H' r = some (.lst (natsV (symsOf often))) ∧ H' rc = some (.lst (natsV (cnts often))))
                ⟨_, _, _, rfl, eN2.trans (ExtN.of (hs4.trans hs5)), hT3.ext (hs4.trans hs5), ?_, hs5 _ _ (hs4 _ _ hr3), hrc1⟩ (fun i σ H' _ hP => ?_) (fun i x σ H' H6 hi hP y => ?_) (fun σ H' hP => ?_)⟩
              · rw [hs5 _ _ (hs4 _ _ hp3), List.take_zero, List.flatMap_nil, tally_nil]
              · obtain ⟨_, _, _, _, _, _, _, _, h⟩ := hP
                exact .inl (.inl h)
              · obtain ⟨rfl, hx⟩ := y
                obtain ⟨v3, v4, v5, rfl, e6, t6, hp6, hr6, hrc6⟩ := hP
                obtain ⟨al, hal, rfl⟩ := map_get hx
                refine ⟨_, rfl, _, rfl, _, rfl, _, _, rfl, .inl (.inl hr6), fun z3 hz3 => ?_⟩
                rw [cut_take]
                have hpz : p ≠ z3 := ne_of_none hp6 hz3
                have hrz : r ≠ z3 := ne_of_none hr6 hz3
                have hcz : rc ≠ z3 := ne_of_none hrc6 hz3
                refine ⟨z3, rfl, ⟨_, .inl (.inl upd_same)⟩, for_it (walk_list (xs := (natsV (symsOf often)).take al)) (fun j σ H' => ∃ v3 v4 : Option V, σ = [some (.ref a), some (.ref p), some (.ref r), v3, v4, some (.int al)] ∧ ExtN H H' ∧ Tabs TT H' ∧
                  H' p = some (.lst (natsV (tally often.length ((((cnts often).take i).flatMap fun a => (symsOf often).take a) ++ ((symsOf often).take al).take j)))) ∧ H' r = some (.lst (natsV (symsOf often))) ∧ H' rc = some (.lst (natsV (cnts often))) ∧
                  H' z3 = some (.lst ((natsV (symsOf often)).take al)))
                  ⟨_, _, rfl, ?_, ?_, ?_, ?_, ?_, upd_same⟩ (fun j σ H' _ hP => ?_) (fun j x σ H' H7 hj hP y => ?_) (fun σ H' hP => ?_)⟩
                · exact e6.trans (ExtN.of (same_new hz3))
                · exact t6.ext (same_new hz3)
                · rw [upd_ne hpz, hp6, List.take_zero, List.append_nil]
                · rw [upd_ne hrz, hr6]
                · rw [upd_ne hcz, hrc6]
                · obtain ⟨_, _, _, _, _, _, _, _, h⟩ := hP
                  exact .inl (.inl h)
                · obtain ⟨rfl, hx⟩ := y
                  obtain ⟨v3, v4, rfl, e7, t7, hp7, hr7, hrc7, hz7⟩ := hP
                  rw [natsV, ← List.map_take] at hx
                  obtain ⟨s0, hs0, rfl⟩ := map_get hx
                  have hs0m := (MC.symsOf_mem often s0).mp (List.mem_of_mem_take (List.mem_of_getElem? hs0))
                  refine ⟨_, rfl, _, rfl, p, _, s0, _, rfl, rfl, .inl (.inl hp7), tally_get _ hs0m.1, ?_⟩
                  refine ⟨_, _, rfl, rfl, p, _, _, s0, rfl, rfl, hp7, ixN_nat rfl (by rw [tally_length]; exact hs0m.1), ?_⟩
                  rw [tally_set _ hs0m.1, List.append_assoc, ← take_succ_of hs0]
                  refine ⟨_, _, rfl, ExtN.put e7 hp0, Tabs.put t7 hp7 (plain_lst _), upd_same, ?_, ?_, ?_⟩
                  · rw [upd_ne hpr.symm]; exact hr7
                  · rw [upd_ne hpc.symm]; exact hrc7
                  · rw [upd_ne hpz.symm]; exact hz7
                · obtain ⟨v3, v4, rfl, e7, t7, hp7, hr7, hrc7, hz7⟩ := hP
                  refine ⟨_, _, _, rfl, e7, t7, ?_, hr7, hrc7⟩
                  rw [hp7, take_succ_of hal, List.flatMap_append, List.take_of_length_le (i := ((natsV (symsOf often)).take al).length)]
                  · simp
                  · rw [List.length_take, List.length_take, hsl]
                    exact Nat.le_refl _
              · obtain ⟨v3, v4, v5, rfl, e6, t6, hp6, hr6, hrc6⟩ := hP
                refine ⟨_, rfl, q _ p e6 t6 hp0 ?_⟩
                rw [hp6, MC.lengths_eq often h2' (by omega), show (natsV (cnts often)).length = (cnts often).length from List.length_map .., List.take_length]
                rfl
end
end Sq
end
section
set_option Elab.async false
set_option maxRecDepth 100000
set_option maxHeartbeats 2000000
/-! codewords. -/
namespace Sq
open PySem PySem.Spec PyProof.Rows L2 SqX LamX
open MC (symsOf wfold)
/-- the dict of the words -/
def wordsK (ws : List (Nat × Nat × Nat)) : List (Key × V) := ws.map fun q => (Sum.inl (q.1 : Int), V.int q.2.2)
theorem wordsK_val (ws : List (Nat × Nat × Nat)) (s : Nat) : valV (wordsK ws) (Sum.inl (s : Int)) = (ws.find? fun q => q.1 == s).map fun q => V.int q.2.2 := by
  induction ws with
  | nil => rfl
  | cons q ws ih =>
    by_cases h : q.1 = s
    · rw [List.find?_cons_of_pos (by simpa using h)]
      exact valV_pos (by simp [h])
    · rw [List.find?_cons_of_neg (by simpa using h), ← ih]
      exact valV_neg (fun z => h (by injection z with z; omega))
theorem wordsK_new {ws : List (Nat × Nat × Nat)} {s : Nat} (h : s ∉ ws.map (·.1)) : valV (wordsK ws) (Sum.inl (s : Int)) = none := by
  rw [wordsK_val, List.find?_eq_none.mpr]
  · rfl
  · intro q hq e
    exact h (List.mem_map.mpr ⟨q, hq, by simpa using e⟩)
def sp_codewords (K : PySem.W.Frag) (TT : List (Addr × Str)) : Sp := fun vs H Q _ => ∃ (a : Addr) (ls : List Nat), vs = [.ref a] ∧ SqL K H a (natsV ls) ∧ ls.length ≤ 5000 ∧ (∀ i, ls.getD i 0 ≤ 15) ∧ Tabs TT H ∧
  ∀ H' p, ExtN H H' → Tabs TT H' → H p = none → H' p = some (.dK (wordsK (SwSqueeze.codewords ls))) → Q (.ref p) H'
section
variable {P : Program} {w : World} {K : PySem.W.Frag} {mg : Str → Option Value} {base : Heap} {c : CA} {f cd Pt : Addr} {fd : FuncData} {TT : List (Addr × Str)}
theorem ok_codewords (T : Tx K mg c) (hc : fd.code = .ref cd) (TB : TabB base mg cd Pt) (hm : (Pt, lamN "codewords") ∈ TT) (hu : ∀ q ∈ TT, q.1 = Pt → q.2 = lamN "codewords")
    (F : Fun K "codewords" "codewords" s_codewords f fd) : FnOk P w K mg base CX0 1 f fd ["lengths"] (sp_codewords K TT) := by
  refine okL F hc sc_codewords (fun vs H Q E h => ?_) (fun A outer s H vs Q E hr h => ?_)
  · obtain ⟨a, ls, rfl, _⟩ := h
    rfl
  · refine ⟨_, (pss_cons (ps_set (i := 1) sc_codewords.nd rfl (Or.inl rfl) pe_dnewK)
  (pss_cons (ps_set (i := 2) sc_codewords.nd rfl (Or.inl rfl) (pe_sortLam (T := TT) (x := "symbol") (y := "lengths") (j := 0) (k := 0) (hr.mono (by decide)) TB rfl hm hu rfl T.sorted (pa_cons (pe_lc (own := [("symbol", 3), ("length", 4)]) (g := gTup K 2 (gCons (gName 3) (gCons (gName 4) gNil))) rfl sc_codewords.nd (pi_enum rfl T.enumerate (pa_cons (pv 0) pa_nil)) (blkOk_by (N := ["lengths", "words", "symbols", "symbol", "length", "upcoming", "before"]) (sc := defScope s_codewords) (by decide +kernel)) (fun _ _ _ _ _ => pg_tup rfl (pgs_cons (pg_name (i := 3) sc_codewords.nd rfl (Or.inl rfl)) (pgs_cons (pg_name (i := 4) sc_codewords.nd rfl (Or.inl rfl)) pgs_nil))) (fun _ _ _ _ _ => pts_one (pt_truK (K := K) rfl (pv 4) (by intro _; rfl))) (fun _ _ _ _ _ => (pv 3))) pa_nil)
      rfl (free2 rfl) ⟨rfl, rfl, rfl, by decide +kernel, rfl, rfl⟩ rfl rfl (fun _ _ _ _ _ => rfl) (by decide +kernel) (by decide +kernel) (by decide +kernel)))
  (pss_cons (ps_set (i := 5) sc_codewords.nd rfl (Or.inl rfl) pe_int)
  (pss_cons (ps_set (i := 6) sc_codewords.nd rfl (Or.inl rfl) pe_int)
  (pss_cons (ps_for PassesOwn.never rfl (pi_list (pv 2)) (pg_name (i := 3) sc_codewords.nd rfl (Or.inl rfl)) (pss_cons (ps_aug (i := 5) sc_codewords.nd rfl (Or.inl rfl) (pe_op op_sub (pe_ix ix_list (pv 0) (pv 3) (fun _ _ => rfl)) (pv 6)) iop_shl)
    (pss_cons (ps_dput (hu_of hr) (pv 1) (pv 3) (pv 5) rfl)
    (pss_cons (ps_aug (i := 5) sc_codewords.nd rfl (Or.inl rfl) pe_int ip_add)
    (pss_one (ps_set (i := 6) sc_codewords.nd rfl (Or.inl rfl) (pe_ix ix_list (pv 0) (pv 3) (fun _ _ => rfl))))))))
  (pss_one (ps_ret (pv 1)))))))), ?_⟩
    obtain ⟨a, ls, rfl, hS, hl, h15, hT, q⟩ := h
    have hol : (natsV ls).length = ls.length := List.length_map ..
    refine fun p hp0 => ?_
    have hS1 := same_new (o := .dK []) hp0
    have hp1 : upd H p (.dK []) p = some (.dK []) := upd_same
    generalize upd H p (.dK []) = H1 at hS1 hp1 ⊢
    refine ⟨_, rfl, a, _, rfl, hS1.seq hS, fun D hD => lc_it walk_enum (fun j H' => Same H1 H' ∧ H' D = some (.lst (natsV (placesTo ls j))))
      ⟨same_new hD, upd_same⟩ (fun j H' _ hP => (hS1.trans hP.1).seq hS) (fun j x H' H2 hj hP y => ?_) (fun H' hP => ?_)⟩
    · obtain ⟨t, x1, x2, rfl, ht, rfl, hx1, hx2⟩ := y
      cases hx1
      rw [hol] at hj
      obtain rfl := Option.some.inj ((nat_get hj).symm.trans hx2)
      refine ⟨t, _, rfl, .inl (.inl upd_same), rfl, _, _, rfl, _, _, rfl, rfl, ?_⟩
      refine ⟨rfl, ?_⟩
      have e : (((ls.getD j 0 : Nat) : Int) != 0) = (ls.getD j 0 != 0) := by cases ls.getD j 0 <;> rfl
      refine ⟨_, rfl, _, rfl, ?_⟩
      have hDt := ne_of_none hP.2 ht
      have hsu := placesTo_succ ls j
      have hpl := placesTo_len ls j
      refine ite2 (fun hb => ?_) (fun hb => ?_)
      · rw [e] at hb
        rw [if_pos hb] at hsu
        refine ⟨_, rfl, _, by rw [upd_ne hDt]; exact hP.2, ?_, same_upd (same_made hP.1 ht) hD, ?_⟩
        · rw [natsV, List.length_map]
          exact line_lt (by omega)
        · rw [upd_same, hsu, natsV, natsV, List.map_append]
          rfl
      · rw [e] at hb
        rw [if_neg hb, List.append_nil] at hsu
        refine ⟨same_made hP.1 ht, ?_⟩
        rw [hsu, upd_ne hDt]
        exact hP.2
    · rw [hol] at hP
      have hS2 := hS1.trans hP.1
      refine ⟨D, a, placesTo ls ls.length, intsOf ls, rfl, .inl (.inl hP.2), rfl, by rw [intsV]; exact hS2.seq hS, fun n hn => by rw [intsOf, List.length_map]; exact placesTo_lt _ _ n hn, hT.ext hS2, fun H2 r eN hT2 hr2 => ?_⟩
      have hsy : (((placesTo ls ls.length).mergeSort fun x y => decide ((intsOf ls).getD x 0 ≤ (intsOf ls).getD y 0)).map fun n : Nat => V.int n) = natsV (symsOf ls) := by
        rw [placesTo, sort_syms]; rfl
      rw [hsy]
      have eN1 : ExtN H H2 := (ExtN.of hS2).trans eN
      have eN2 : ExtN H (upd H2 r (.lst (natsV (symsOf ls)))) := eN1.trans (ExtN.of (same_new hr2))
      have hT3 : Tabs TT (upd H2 r (.lst (natsV (symsOf ls)))) := hT2.ext (same_new hr2)
      have hr3 : upd H2 r (.lst (natsV (symsOf ls))) r = some (.lst (natsV (symsOf ls))) := upd_same
      have hp2 := eN _ _ (hP.1 _ _ hp1) (by intro ps z; cases z)
      have hp3 : upd H2 r (.lst (natsV (symsOf ls))) p = some (.dK []) := same_new hr2 _ _ hp2
      have hpr : p ≠ r := ne_of_none hp2 hr2
      generalize upd H2 r (.lst (natsV (symsOf ls))) = H3 at eN2 hT3 hr3 hp3 ⊢
      have hsl : (natsV (symsOf ls)).length = (symsOf ls).length := List.length_map ..
      have hsb := MC.symsOf_length_le ls
      have hnd := MC.symsOf_nodup ls
      have hsr := MC.symsOf_srt ls
      refine ⟨_, rfl, r, rfl, ⟨natsV (symsOf ls), .inl (.inl hr3)⟩, for_it (walk_list (xs := natsV (symsOf ls))) (fun i σ H' => ∃ (v3 v4 : Option V) (up bf : Nat) (done : List (Nat × Nat × Nat)), σ = [some (.ref a), some (.ref p), some (.ref r), v3, v4, some (.int up), some (.int bf)] ∧ ExtN H H' ∧ Tabs TT H' ∧
        H' p = some (.dK (wordsK done)) ∧ H' r = some (.lst (natsV (symsOf ls))) ∧ wfold ls (symsOf ls) 0 0 = done ++ wfold ls ((symsOf ls).drop i) up bf ∧ done.map (·.1) = (symsOf ls).take i ∧ up ≤ i * 2 ^ bf ∧ bf ≤ 15 ∧ ∀ s ∈ (symsOf ls).drop i, bf ≤ ls.getD s 0)
        ⟨_, _, 0, 0, [], rfl, eN2, hT3, hp3, hr3, rfl, rfl, by omega, by omega, fun _ _ => Nat.zero_le _⟩ (fun i σ H' _ hP => ?_) (fun i x σ H' H6 hi hP y => ?_) (fun σ H' hP => ?_)⟩
      · obtain ⟨_, _, _, _, _, _, _, _, _, h, _⟩ := hP
        exact .inl (.inl h)
      · obtain ⟨rfl, hx⟩ := y
        obtain ⟨v3, v4, up, bf, done, rfl, e6, t6, hp6, hr6, hw, hd, hup, hbf, hge⟩ := hP
        rw [hsl] at hi
        obtain ⟨s0, hs0, rfl⟩ := map_get hx
        have hs0m := (MC.symsOf_mem ls s0).mp (List.mem_of_getElem? hs0)
        have hdr : (symsOf ls).drop i = s0 :: (symsOf ls).drop (i + 1) := by
          rw [List.drop_eq_getElem_cons hi]
          congr 1
          rw [List.getElem?_eq_getElem hi] at hs0
          exact Option.some.inj hs0
        have hle := hge s0 (by rw [hdr]; exact List.mem_cons_self)
        have hS6 : SqL K H6 a (natsV ls) := ExtN.seq e6 hS
        have h15s := h15 s0
        have hdl : done.length = i := by
          have := congrArg List.length hd
          rw [List.length_map, List.length_take] at this
          omega
        have hpw : (2 : Nat) ^ bf * 2 ^ (ls.getD s0 0 - bf) = 2 ^ ls.getD s0 0 := by
          rw [← Nat.pow_add]; congr 1; omega
        have hup2 : up * 2 ^ (ls.getD s0 0 - bf) ≤ i * 2 ^ ls.getD s0 0 := by
          rw [← hpw, ← Nat.mul_assoc]
          exact Nat.mul_le_mul_right _ hup
        have hp15 : 2 ^ ls.getD s0 0 ≤ 2 ^ 15 := Nat.pow_le_pow_right (by decide) h15s
        have hb15 : 2 ^ bf ≤ 2 ^ 15 := Nat.pow_le_pow_right (by decide) hbf
        have hupb : up ≤ 5000 * 2 ^ 15 := Nat.le_trans hup (Nat.mul_le_mul (by omega) hb15)
        refine ⟨_, rfl, _, rfl, _, rfl, a, _, _, _, rfl, rfl, hS6, at_of rfl (nat_get hs0m.1), _, rfl, _, _, rfl, rfl, _, _, rfl, rfl, ⟨by omega, by omega, by omega⟩, ?_⟩
        have e1 : ((ls.getD s0 0 : Nat) : Int) - (bf : Int) = ((ls.getD s0 0 - bf : Nat) : Int) := by omega
        have e2 : (fun i j : Int => V.int (i * 2 ^ j.toNat)) ((up : Nat) : Int) (((ls.getD s0 0 : Nat) : Int) - (bf : Int)) = V.int ((up * 2 ^ (ls.getD s0 0 - bf) : Nat) : Int) := by
          dsimp only
          rw [e1, Int.toNat_natCast]
          simp
        rw [e2]
        refine ⟨_, rfl, _, rfl, _, rfl, p, _, rfl, .inl ⟨_, .inl (s0 : Int), hp6, rfl, ?_, rfl⟩, ?_⟩
        · rw [wordsK, List.length_map, hdl]
          exact line_lt (by omega)
        have hnew : valV (wordsK done) (Sum.inl (s0 : Int)) = none := wordsK_new (by
          rw [hd]
          intro hm2
          obtain ⟨k, hk⟩ := List.getElem?_of_mem hm2
          rw [List.getElem?_take] at hk
          split at hk
          · rename_i hki
            have := nd_ix hnd hk hs0
            omega
          · cases hk)
        rw [putK_new _ hnew]
        have hS7 : SqL K (upd H6 p (.dK (wordsK done ++ [(Sum.inl (s0 : Int), V.int (up * 2 ^ (ls.getD s0 0 - bf) : Nat))]))) a (natsV ls) := ExtN.seq (ExtN.put e6 hp0) hS
        refine ⟨_, rfl, _, _, rfl, rfl, _, rfl, _, rfl, a, _, _, _, rfl, rfl, hS7, at_of rfl (nat_get hs0m.1), ?_⟩
        refine ⟨_, v4, up * 2 ^ (ls.getD s0 0 - bf) + 1, ls.getD s0 0, done ++ [(s0, ls.getD s0 0, up * 2 ^ (ls.getD s0 0 - bf))], rfl, ExtN.put e6 hp0, Tabs.put t6 hp6 (plain_dK _), ?_, ?_, ?_, ?_, ?_, h15s, ?_⟩
        · rw [upd_same, wordsK, wordsK, List.map_append]
          rfl
        · rw [upd_ne hpr.symm]
          exact hr6
        · rw [hw, hdr, List.append_assoc]
          rfl
        · rw [List.map_append, hd, take_succ_of hs0]
          rfl
        · have : 1 ≤ 2 ^ ls.getD s0 0 := Nat.one_le_two_pow
          rw [Nat.add_mul]
          omega
        · intro s hs
          have hk := List.pairwise_iff_getElem.mp hsr
          obtain ⟨k, hk2⟩ := List.getElem?_of_mem hs
          rw [List.getElem?_drop] at hk2
          obtain ⟨hk3, hk4⟩ := List.getElem?_eq_some_iff.mp hk2
          obtain ⟨hk5, hk6⟩ := List.getElem?_eq_some_iff.mp hs0
          have := hk i (i + 1 + k) hk5 hk3 (by omega)
          rw [hk4, hk6] at this
          exact this
      · obtain ⟨v3, v4, up, bf, done, rfl, e6, t6, hp6, hr6, hw, hd, hup, hbf, hge⟩ := hP
        refine ⟨_, rfl, q _ p e6 t6 hp0 ?_⟩
        rw [hp6, MC.codewords_eq ls h15, hw, hsl, List.drop_length]
        simp [wfold]
end
end Sq
end
section
/-! The parse: matches by segments, the first step by ranges, the walk. -/
set_option maxRecDepth 100000
namespace MP
open SwSqueeze

/-! ### matches -/
/-- at place i the L bytes are those d before -/
def Mat (a : Array UInt8) (i d L : Nat) : Prop := ∀ j, j < L → i + j < a.size ∧ a.getD (i + j) 0 = a.getD (i + j - d) 0
theorem Mat.mono {a : Array UInt8} {i d L L' : Nat} (h : Mat a i d L) (hl : L' ≤ L) : Mat a i d L' := fun j hj => h j (by omega)
theorem reach_ge (a : Array UInt8) (i d : Nat) : ∀ (f k : Nat), k ≤ reach a i d f k ∧ reach a i d f k ≤ k + f
  | 0, k => ⟨Nat.le_refl _, Nat.le_refl _⟩
  | f + 1, k => by
    unfold reach
    split
    · have := reach_ge a i d f (k + 1)
      omega
    · omega
theorem reach_mat (a : Array UInt8) (i d : Nat) : ∀ (f k : Nat), Mat a i d k → Mat a i d (reach a i d f k)
  | 0, k, h => h
  | f + 1, k, h => by
    unfold reach
    split
    · rename_i c
      refine reach_mat a i d f (k + 1) ?_
      intro j hj
      by_cases e : j = k
      · rw [e]; exact c
      · exact h j (by omega)
    · exact h
theorem reach_max (a : Array UInt8) (i d : Nat) : ∀ (f k L : Nat), Mat a i d L → L ≤ k + f → k ≤ L → L ≤ reach a i d f k
  | 0, k, L, _, h, h2 => by show L ≤ k; omega
  | f + 1, k, L, hm, h, h2 => by
    unfold reach
    by_cases e : L = k
    · split
      · exact Nat.le_trans (by omega) (reach_ge a i d f (k + 1)).1
      · omega
    · rw [if_pos (hm k (by omega))]
      exact reach_max a i d f (k + 1) L hm (by omega) (by omega)
theorem reach_iff (a : Array UInt8) (i d L : Nat) (hl : L ≤ 258) : L ≤ reach a i d LONG 0 ↔ Mat a i d L := by
  constructor
  · intro h
    exact (reach_mat a i d LONG 0 (fun j hj => by omega)).mono h
  · intro h
    exact reach_max a i d LONG 0 L h (by show L ≤ 0 + 258; omega) (Nat.zero_le _)
theorem reach_le (a : Array UInt8) (i d : Nat) : reach a i d LONG 0 ≤ 258 := by
  have := (reach_ge a i d LONG 0).2
  have e : LONG = 258 := rfl
  omega
/-- d is the nearest distance of a match of length L at i -/
structure Near (a : Array UInt8) (i L d : Nat) : Prop where
  pos : 1 ≤ d
  le : d ≤ i
  mat : Mat a i d L
  least : ∀ e, 1 ≤ e → e < d → ¬ Mat a i e L
/-- pairs of a distance and a length up to which it's the nearest, from length L on -/
def Segs (a : Array UInt8) (i : Nat) : Nat → List (Nat × Nat) → Prop
  | L, [] => 258 < L ∨ ∀ d, 1 ≤ d → d ≤ i → ¬ Mat a i d L
  | L, q :: r => L ≤ q.2 ∧ q.2 ≤ 258 ∧ Near a i L q.1 ∧ Mat a i q.1 q.2 ∧ Segs a i (q.2 + 1) r
/-- the matches that they stand for -/
def expand : Nat → List (Nat × Nat) → List Step
  | _, [] => []
  | L, q :: r => (List.range' L (q.2 + 1 - L)).map (fun l => Step.match_ l q.1) ++ expand (q.2 + 1) r
def reaches (a : Array UInt8) (i : Nat) : List (Nat × Nat) := (List.range i).map fun (j : Nat) => (j + 1, reach a i (j + 1) LONG 0)
def most (a : Array UInt8) (i : Nat) : Nat := (reaches a i).foldl (fun (m : Nat) (q : Nat × Nat) => max m q.2) 0
theorem fold_max : ∀ (l : List (Nat × Nat)) (m x : Nat), (l.foldl (fun (m : Nat) (q : Nat × Nat) => max m q.2) m) < x ↔ m < x ∧ ∀ q ∈ l, q.2 < x
  | [], m, x => by simp
  | q :: l, m, x => by
    rw [List.foldl_cons, fold_max l, Nat.max_lt]
    simp only [List.mem_cons, forall_eq_or_imp]
    exact and_assoc
theorem most_lt (a : Array UInt8) (i x : Nat) (hx : 0 < x) : most a i < x ↔ ∀ d, 1 ≤ d → d ≤ i → reach a i d LONG 0 < x := by
  unfold most
  rw [fold_max]
  constructor
  · rintro ⟨_, h⟩ d h1 h2
    exact h (d, reach a i d LONG 0) (List.mem_map.mpr ⟨d - 1, by simp; omega, by rw [Nat.sub_add_cancel h1]⟩)
  · intro h
    refine ⟨hx, ?_⟩
    rintro q hq
    obtain ⟨j, hj, rfl⟩ := List.mem_map.mp hq
    exact h (j + 1) (by omega) (by simp at hj; omega)
theorem most_le (a : Array UInt8) (i : Nat) : most a i ≤ 258 := by
  have := (most_lt a i 259 (by omega)).mpr (fun d _ _ => by have := reach_le a i d; omega)
  omega
def matchAt (a : Array UInt8) (i k : Nat) : Option Step := ((reaches a i).find? fun (q : Nat × Nat) => decide (k + 3 ≤ q.2)).map fun (q : Nat × Nat) => Step.match_ (k + 3) q.1
theorem bestAt_eq (a : Array UInt8) (i : Nat) : bestAt a i = Step.letter (a.getD i 0) :: (List.range (most a i - 2)).filterMap (matchAt a i) := rfl
theorem matchAt_near {a : Array UInt8} {i k d : Nat} (hk : k + 3 ≤ 258) (h : Near a i (k + 3) d) : matchAt a i k = some (Step.match_ (k + 3) d) := by
  unfold matchAt
  have : (reaches a i).find? (fun (q : Nat × Nat) => decide (k + 3 ≤ q.2)) = some (d, reach a i d LONG 0) := by
    rw [List.find?_eq_some_iff_append]
    refine ⟨by simpa using (reach_iff a i d (k + 3) hk).mpr h.mat, ?_⟩
    refine ⟨(List.range (d - 1)).map fun (j : Nat) => (j + 1, reach a i (j + 1) LONG 0), ((List.range' d (i - d))).map fun (j : Nat) => (j + 1, reach a i (j + 1) LONG 0), ?_, ?_⟩
    · unfold reaches
      have e : List.range i = List.range (d - 1) ++ (d - 1) :: List.range' d (i - d) := by
        have h1 := h.pos
        have h2 := h.le
        rw [List.range_eq_range', List.range_eq_range']
        have e1 : d = (d - 1) + 1 := by omega
        have e2 : (d - 1) :: List.range' d (i - d) = List.range' (d - 1) (i - d + 1) := by
          rw [List.range'_succ]
          rw [← e1]
        rw [e2]
        have := List.range'_append_1 (s := 0) (m := d - 1) (n := i - d + 1)
        rw [Nat.zero_add] at this
        rw [this]
        congr 1; omega
      rw [e, List.map_append, List.map_cons, Nat.sub_add_cancel h.pos]
    · intro q hq
      obtain ⟨j, hj, rfl⟩ := List.mem_map.mp hq
      have hn := h.least (j + 1) (by omega) (by simp at hj; omega)
      have := mt (reach_iff a i (j + 1) (k + 3) hk).mp hn
      simpa using this
  rw [this]
  rfl
theorem segs_expand (a : Array UInt8) (i : Nat) : ∀ (s : List (Nat × Nat)) (L : Nat), 3 ≤ L → Segs a i L s → (List.range' (L - 3) (most a i + 1 - L)).filterMap (matchAt a i) = expand L s
  | [], L, h3, h => by
    have : most a i < L := by
      rcases h with h | h
      · have := most_le a i; omega
      · by_cases hl : L ≤ 258
        · rw [most_lt a i L (by omega)]
          intro d h1 h2
          have := mt (reach_iff a i d L hl).mp (h d h1 h2)
          omega
        · have := most_le a i; omega
    rw [show most a i + 1 - L = 0 by omega]
    rfl
  | q :: r, L, h3, ⟨h1, h2, hn, hm, hs⟩ => by
    have ih := segs_expand a i r (q.2 + 1) (by omega) hs
    have hmost : q.2 ≤ most a i := by
      rcases Nat.lt_or_ge (most a i) q.2 with c | c
      · exfalso
        have := (most_lt a i q.2 (by omega)).mp c q.1 hn.pos hn.le
        have h5 := (reach_iff a i q.1 q.2 h2).mpr hm
        omega
      · exact c
    have e : List.range' (L - 3) (most a i + 1 - L) = List.range' (L - 3) (q.2 + 1 - L) ++ List.range' (q.2 + 1 - 3) (most a i + 1 - (q.2 + 1)) := by
      have := List.range'_append_1 (s := L - 3) (m := q.2 + 1 - L) (n := most a i + 1 - (q.2 + 1))
      rw [show L - 3 + (q.2 + 1 - L) = q.2 + 1 - 3 by omega, show q.2 + 1 - L + (most a i + 1 - (q.2 + 1)) = most a i + 1 - L by omega] at this
      exact this.symm
    rw [e, List.filterMap_append, ih]
    show _ = (List.range' L (q.2 + 1 - L)).map (fun l => Step.match_ l q.1) ++ expand (q.2 + 1) r
    congr 1
    have key : ∀ n k, k + n ≤ q.2 + 1 - 3 → L - 3 ≤ k → (List.range' k n).filterMap (matchAt a i) = (List.range' (k + 3) n).map (fun l => Step.match_ l q.1) := by
      intro n
      induction n with
      | zero => intro k _ _; rfl
      | succ n ih =>
        intro k hk hL
        rw [List.range'_succ, List.range'_succ, List.filterMap_cons, List.map_cons]
        have hnear : Near a i (k + 3) q.1 := ⟨hn.pos, hn.le, hm.mono (by omega), fun e h1 h2 c => hn.least e h1 h2 (c.mono (by omega))⟩
        rw [matchAt_near (by omega) hnear, ih (k + 1) (by omega) (by omega)]
    rw [key _ _ (by omega) (Nat.le_refl _)]
    congr 2
    omega
theorem bestAt_segs {a : Array UInt8} {i : Nat} {s : List (Nat × Nat)} (h : Segs a i 3 s) : bestAt a i = Step.letter (a.getD i 0) :: expand 3 s := by
  rw [bestAt_eq, ← segs_expand a i s 3 (by omega) h, List.range_eq_range']
  congr 2

/-! ### the best step by ranges of lengths -/
/-- one candidate more -/
def better (after : Step → Nat) (y : Nat × Step) (s : Step) : Nat × Step := if s.cost + after s < y.1 then (s.cost + after s, s) else y
/-- cost and where it comes to, in one number -/
def enc (i : Nat) (y : Nat × Step) : Nat := y.1 * 2048 + (i + y.2.length)
theorem better_enc (after : Step → Nat) (i : Nat) (y : Nat × Step) (s : Step) (h1 : y.2.length < s.length) (h2 : i + s.length < 2048) :
    better after y s = if enc i (s.cost + after s, s) < enc i y then (s.cost + after s, s) else y := by
  unfold better enc
  dsimp only
  by_cases c : s.cost + after s < y.1
  · rw [if_pos c, if_pos (by omega)]
  · rw [if_neg c, if_neg (by omega)]
/-- the least of e over p .. p + k -/
def leastOf (e : Nat → Nat) (p : Nat) : Nat → Nat
  | 0 => e p
  | k + 1 => min (leastOf e p k) (e (p + (k + 1)))
theorem leastOf_le (e : Nat → Nat) (p : Nat) : ∀ k j, j ≤ k → leastOf e p k ≤ e (p + j)
  | 0, j, h => by rw [show j = 0 by omega]; exact Nat.le_refl _
  | k + 1, j, h => by
    show min _ _ ≤ _
    by_cases c : j = k + 1
    · rw [c]; exact Nat.min_le_right _ _
    · exact Nat.le_trans (Nat.min_le_left _ _) (leastOf_le e p k j (by omega))
theorem leastOf_is (e : Nat → Nat) (p : Nat) : ∀ k, ∃ j, j ≤ k ∧ leastOf e p k = e (p + j)
  | 0 => ⟨0, Nat.le_refl _, rfl⟩
  | k + 1 => by
    obtain ⟨j, h1, h2⟩ := leastOf_is e p k
    show ∃ j, j ≤ k + 1 ∧ min (leastOf e p k) (e (p + (k + 1))) = _
    by_cases c : leastOf e p k ≤ e (p + (k + 1))
    · exact ⟨j, by omega, by rw [Nat.min_eq_left c, h2]⟩
    · exact ⟨k + 1, Nat.le_refl _, by rw [Nat.min_eq_right (by omega)]⟩
theorem leastOf_eq {e : Nat → Nat} {p k x : Nat} (h1 : ∀ j, j ≤ k → x ≤ e (p + j)) (h2 : ∃ j, j ≤ k ∧ x = e (p + j)) : x = leastOf e p k := by
  obtain ⟨j, hj, h⟩ := h2
  obtain ⟨j', hj', h'⟩ := leastOf_is e p k
  have := leastOf_le e p k j hj
  have := h1 j' hj'
  omega
/-- what the rest costs from p on, and p, in one number -/
def tenc (tail : Nat → Nat) (p : Nat) : Nat := tail p * 2048 + p
/-- over lengths of one cost: the least tail decides -/
theorem range_best (tail : Nat → Nat) (after : Step → Nat) (i d c0 L : Nat) (y : Nat × Step) (hy : y.2.length < L) : ∀ k, i + (L + k) < 2048 → (∀ j, j ≤ k → (Step.match_ (L + j) d).cost = c0 ∧ after (Step.match_ (L + j) d) = tail (i + (L + j))) →
    ((List.range' L (k + 1)).map fun l => Step.match_ l d).foldl (better after) y =
      (if leastOf (tenc tail) (i + L) k + c0 * 2048 < enc i y then ((leastOf (tenc tail) (i + L) k + c0 * 2048) / 2048, Step.match_ ((leastOf (tenc tail) (i + L) k + c0 * 2048) % 2048 - i) d) else y)
  | 0, hk, h => by
    obtain ⟨h1, h2⟩ := h 0 (Nat.le_refl _)
    rw [Nat.add_zero] at h1 h2
    show better after y (Step.match_ L d) = _
    rw [better_enc after i y (Step.match_ L d) hy (by show i + L < 2048; omega), h1, h2]
    have e1 : enc i (c0 + tail (i + L), Step.match_ L d) = leastOf (tenc tail) (i + L) 0 + c0 * 2048 := by
      show (c0 + tail (i + L)) * 2048 + (i + L) = (tail (i + L) * 2048 + (i + L)) + c0 * 2048
      omega
    rw [e1]
    have e2 : leastOf (tenc tail) (i + L) 0 + c0 * 2048 = (c0 + tail (i + L)) * 2048 + (i + L) := by
      show (tail (i + L) * 2048 + (i + L)) + c0 * 2048 = _
      omega
    split
    · rw [e2]
      congr 2 <;> omega
    · rfl
  | k + 1, hk, h => by
    obtain ⟨h1, h2⟩ := h (k + 1) (Nat.le_refl _)
    have ih := range_best tail after i d c0 L y hy k (by omega) (fun j hj => h j (by omega))
    have e : List.range' L (k + 1 + 1) = List.range' L (k + 1) ++ [L + (k + 1)] := by
      rw [List.range'_concat]; simp
    rw [e, List.map_append, List.foldl_append, ih, List.map_singleton]
    show better after _ (Step.match_ (L + (k + 1)) d) = _
    obtain ⟨j, hj, hl⟩ := leastOf_is (tenc tail) (i + L) k
    have hnew : tenc tail (i + L + (k + 1)) = tail (i + (L + (k + 1))) * 2048 + (i + (L + (k + 1))) := by unfold tenc; rw [Nat.add_assoc]
    have hold : leastOf (tenc tail) (i + L) k = tail (i + L + j) * 2048 + (i + L + j) := hl
    have hmin : leastOf (tenc tail) (i + L) (k + 1) = min (leastOf (tenc tail) (i + L) k) (tenc tail (i + L + (k + 1))) := rfl
    rw [hmin, hnew, hold]
    generalize tail (i + L + j) = u at *
    generalize tail (i + (L + (k + 1))) = v at *
    have hlen : (Step.match_ (L + (k + 1)) d).length = L + (k + 1) := rfl
    -- the candidate against what stands
    by_cases c1 : u * 2048 + (i + L + j) + c0 * 2048 < enc i y
    · rw [if_pos c1]
      have q1 : (u * 2048 + (i + L + j) + c0 * 2048) / 2048 = u + c0 := by omega
      have q2 : (u * 2048 + (i + L + j) + c0 * 2048) % 2048 - i = L + j := by omega
      rw [q1, q2, better_enc after i (u + c0, Step.match_ (L + j) d) (Step.match_ (L + (k + 1)) d) (by show L + j < L + (k + 1); omega) (by rw [hlen]; omega), h1, h2]
      have e3 : enc i (c0 + v, Step.match_ (L + (k + 1)) d) = (c0 + v) * 2048 + (i + (L + (k + 1))) := rfl
      have e4 : enc i (u + c0, Step.match_ (L + j) d) = (u + c0) * 2048 + (i + (L + j)) := rfl
      rw [e3, e4]
      by_cases c2 : v < u
      · have d1 : (c0 + v) * 2048 + (i + (L + (k + 1))) < (u + c0) * 2048 + (i + (L + j)) := by omega
        have d2 : v * 2048 + (i + (L + (k + 1))) ≤ u * 2048 + (i + L + j) := by omega
        have d3 : v * 2048 + (i + (L + (k + 1))) + c0 * 2048 < enc i y := by omega
        rw [if_pos d1, Nat.min_eq_right d2, if_pos d3]
        have r1 : (v * 2048 + (i + (L + (k + 1))) + c0 * 2048) / 2048 = c0 + v := by omega
        have r2 : (v * 2048 + (i + (L + (k + 1))) + c0 * 2048) % 2048 - i = L + (k + 1) := by omega
        rw [r1, r2]
      · have d1 : ¬ (c0 + v) * 2048 + (i + (L + (k + 1))) < (u + c0) * 2048 + (i + (L + j)) := by omega
        have d2 : u * 2048 + (i + L + j) ≤ v * 2048 + (i + (L + (k + 1))) := by omega
        rw [if_neg d1, Nat.min_eq_left d2, if_pos c1, q1, q2]
    · rw [if_neg c1, better_enc after i y (Step.match_ (L + (k + 1)) d) (by rw [hlen]; omega) (by rw [hlen]; omega), h1, h2]
      have e3 : enc i (c0 + v, Step.match_ (L + (k + 1)) d) = v * 2048 + (i + (L + (k + 1))) + c0 * 2048 := by
        show (c0 + v) * 2048 + (i + (L + (k + 1))) = _
        omega
      rw [e3]
      by_cases c2 : v * 2048 + (i + (L + (k + 1))) + c0 * 2048 < enc i y
      · rw [if_pos c2, Nat.min_eq_right (by omega), if_pos c2]
        congr 2 <;> omega
      · rw [if_neg c2, if_neg (by omega)]
end MP
end
section
namespace MP
open SwSqueeze
set_option maxRecDepth 100000

/-! ### the table -/
theorem table_size (a : Array UInt8) : ∀ k, (table a k).size = k
  | 0 => rfl
  | k + 1 => by
    unfold table
    dsimp only
    rw [Array.size_push, table_size a k]
theorem table_push (a : Array UInt8) (k : Nat) : ∃ z, table a (k + 1) = (table a k).push z := ⟨_, rfl⟩
theorem table_old (a : Array UInt8) (x : Nat × Step) {k j : Nat} (hj : j < k) : ∀ m, k ≤ m → (table a m).getD j x = (table a k).getD j x
  | 0, h => by omega
  | m + 1, h => by
    by_cases e : k = m + 1
    · rw [e]
    · rw [← table_old a x hj m (by omega)]
      obtain ⟨z, hz⟩ := table_push a m
      rw [hz]
      have hs := table_size a m
      simp only [Array.getD_eq_getD_getElem?, Array.getElem?_push]
      rw [if_neg (by omega)]
def nilStep : Nat × Step := (0, .letter 0)
/-- what the rest costs from place p on -/
def tailAt (a : Array UInt8) (p : Nat) : Nat := if a.size ≤ p then 0 else ((table a a.size).getD (a.size - p - 1) nilStep).1
/-- the first step from place p on -/
def stepAt (a : Array UInt8) (p : Nat) : Step := ((table a a.size).getD (a.size - p - 1) nilStep).2
def afterAt (a : Array UInt8) (p : Nat) (s : Step) : Nat := tailAt a (p + s.length)
theorem fold_better (after : Step → Nat) : ∀ (l : List Step) (y : Nat × Step),
    l.foldl (fun (x : Option (Nat × Step)) (s : Step) => let c := s.cost + after s; match x with
      | some y => if c < y.1 then some (c, s) else x
      | none => some (c, s)) (some y) = some (l.foldl (better after) y)
  | [], y => rfl
  | s :: l, y => by
    rw [List.foldl_cons, List.foldl_cons]
    dsimp only
    unfold better
    by_cases c : s.cost + after s < y.1
    · rw [if_pos c, if_pos c]
      exact fold_better after l _
    · rw [if_neg c, if_neg c]
      exact fold_better after l _
theorem table_at (a : Array UInt8) (p : Nat) (hp : p < a.size) {s : List (Nat × Nat)} (hs : Segs a p 3 s) :
    (tailAt a p, stepAt a p) = (expand 3 s).foldl (better (afterAt a p)) (8 + tailAt a (p + 1), .letter (a.getD p 0)) := by
  have hk : a.size - p - 1 + 1 = a.size - p := by omega
  have e0 : (table a a.size).getD (a.size - p - 1) nilStep = (table a (a.size - p - 1 + 1)).getD (a.size - p - 1) nilStep := table_old a nilStep (by omega) a.size (by omega)
  have e1 : (tailAt a p, stepAt a p) = (table a (a.size - p - 1 + 1)).getD (a.size - p - 1) nilStep := by
    unfold tailAt stepAt
    rw [if_neg (by omega), e0]
  rw [e1]
  generalize hkk : a.size - p - 1 = k at *
  have hsz := table_size a k
  unfold table
  dsimp only
  rw [show a.size - (k + 1) = p by omega]
  have hg : ∀ z : Nat × Step, ((table a k).push z).getD k nilStep = z := by
    intro z
    simp only [Array.getD_eq_getD_getElem?, Array.getElem?_push]
    rw [if_pos hsz.symm]; rfl
  rw [hg]
  have haf : (fun s : Step => if s.length ≥ k + 1 then 0 else ((table a k).getD (k - s.length) (0, .letter 0)).1) = fun s : Step => if s.length = 0 then ((table a k).getD k (0, .letter 0)).1 else afterAt a p s := by
    funext s
    unfold afterAt tailAt
    by_cases c0 : s.length = 0
    · rw [if_pos c0, if_neg (by omega), c0]; rfl
    · rw [if_neg c0]
      by_cases c : s.length ≥ k + 1
      · rw [if_pos c, if_pos (by omega)]
      · rw [if_neg c, if_neg (by omega)]
        rw [table_old a nilStep (k := k) (by omega) a.size (by omega)]
        show ((table a k).getD (k - s.length) nilStep).1 = _
        congr 2; omega
  have hcong : ∀ (after after' : Step → Nat) (l : List Step) (y : Nat × Step), (∀ s ∈ l, after s = after' s) → l.foldl (better after) y = l.foldl (better after') y := by
    intro after after' l
    induction l with
    | nil => intro y _; rfl
    | cons s l ih =>
      intro y h
      rw [List.foldl_cons, List.foldl_cons]
      have : better after y s = better after' y s := by unfold better; rw [h s (List.mem_cons_self ..)]
      rw [this]
      exact ih _ fun t ht => h t (List.mem_cons_of_mem _ ht)
  rw [bestAt_segs hs, List.foldl_cons]
  dsimp only
  have hff := fold_better (fun s : Step => if s.length ≥ k + 1 then 0 else ((table a k).getD (k - s.length) (0, .letter 0)).1) (expand 3 s)
    ((Step.letter (a.getD p 0)).cost + (if (Step.letter (a.getD p 0)).length ≥ k + 1 then 0 else ((table a k).getD (k - (Step.letter (a.getD p 0)).length) (0, .letter 0)).1), Step.letter (a.getD p 0))
  refine (congrArg (fun o : Option (Nat × Step) => o.getD (0, .letter 0)) hff).trans ?_
  rw [Option.getD_some]
  have hlet : (Step.letter (a.getD p 0)).cost + (if (Step.letter (a.getD p 0)).length ≥ k + 1 then 0 else ((table a k).getD (k - (Step.letter (a.getD p 0)).length) (0, .letter 0)).1) = 8 + tailAt a (p + 1) := by
    have := congrFun haf (Step.letter (a.getD p 0))
    rw [this, if_neg (show ¬ (Step.letter (a.getD p 0)).length = 0 from Nat.one_ne_zero)]
    rfl
  rw [hlet]
  refine hcong _ _ _ _ fun t ht => ?_
  have := congrFun haf t
  rw [this, if_neg]
  -- the matches have lengths
  have hlen : ∀ (s : List (Nat × Nat)) (L : Nat), 3 ≤ L → Segs a p L s → ∀ t ∈ expand L s, t.length ≠ 0 := by
    intro s
    induction s with
    | nil => intro L _ _ t h; cases h
    | cons q r ih =>
      intro L h3 hs t h
      rcases List.mem_append.mp h with h | h
      · obtain ⟨l, hl, rfl⟩ := List.mem_map.mp h
        have := (List.mem_range'_1.mp hl).1
        show l ≠ 0
        omega
      · exact ih (q.2 + 1) (by have := hs.1; omega) hs.2.2.2.2 t h
  exact hlen s 3 (Nat.le_refl _) hs t ht
/-- what a step at p may be -/
def StepOk (a : Array UInt8) (p : Nat) (s : Step) : Prop := s = .letter (a.getD p 0) ∨ ∃ L d, s = .match_ L d ∧ 3 ≤ L ∧ L ≤ 258 ∧ Near a p L d
theorem expand_ok (a : Array UInt8) (p : Nat) : ∀ (s : List (Nat × Nat)) (L : Nat), 3 ≤ L → Segs a p L s → ∀ t ∈ expand L s, StepOk a p t
  | [], L, _, _, t, h => by cases h
  | q :: r, L, h3, ⟨h1, h2, hn, hm, hs⟩, t, h => by
    rcases List.mem_append.mp h with h | h
    · obtain ⟨l, hl, rfl⟩ := List.mem_map.mp h
      have hl := List.mem_range'_1.mp hl
      exact .inr ⟨l, q.1, rfl, by omega, by omega, hn.pos, hn.le, hm.mono (by omega), fun e g1 g2 c => hn.least e g1 g2 (c.mono (by omega))⟩
    · exact expand_ok a p r (q.2 + 1) (by omega) hs t h
theorem fold_ok {after : Step → Nat} {P : Step → Prop} : ∀ (l : List Step) (y : Nat × Step), P y.2 → (∀ t ∈ l, P t) → P (l.foldl (better after) y).2
  | [], y, h, _ => h
  | s :: l, y, h, hl => by
    rw [List.foldl_cons]
    refine fold_ok l _ ?_ fun t ht => hl t (List.mem_cons_of_mem _ ht)
    unfold better
    split
    · exact hl s (List.mem_cons_self ..)
    · exact h
theorem stepAt_ok (a : Array UInt8) (p : Nat) (hp : p < a.size) {s : List (Nat × Nat)} (hs : Segs a p 3 s) : StepOk a p (stepAt a p) := by
  have e := table_at a p hp hs
  have : stepAt a p = ((expand 3 s).foldl (better (afterAt a p)) (8 + tailAt a (p + 1), .letter (a.getD p 0))).2 := by rw [← e]
  rw [this]
  exact fold_ok _ _ (.inl rfl) (expand_ok a p s 3 (Nat.le_refl _) hs)
theorem StepOk.fits {a : Array UInt8} {p : Nat} {s : Step} (h : StepOk a p s) (hp : p < a.size) : 1 ≤ s.length ∧ p + s.length ≤ a.size := by
  rcases h with rfl | ⟨L, d, rfl, h3, _, hn⟩
  · show 1 ≤ 1 ∧ p + 1 ≤ a.size; omega
  · have := (hn.mat (L - 1) (by omega)).1
    show 1 ≤ L ∧ p + L ≤ a.size; omega
/-- the steps from place p on -/
theorem walk_at (a : Array UInt8) (f p : Nat) (hp : p < a.size) : walk (table a a.size) (f + 1) (a.size - p) = stepAt a p :: walk (table a a.size) f (a.size - (p + (stepAt a p).length)) := by
  rw [walk, if_neg (by omega)]
  dsimp only
  show stepAt a p :: walk (table a a.size) f (a.size - p - (stepAt a p).length) = _
  rw [Nat.sub_sub]
theorem walk_end (t : Array (Nat × Step)) (f : Nat) : walk t f 0 = [] := by
  cases f <;> simp [walk]
/-- the parse as a path: from p on -/
inductive Path (a : Array UInt8) : Nat → List Step → Prop
  | done {p : Nat} : a.size ≤ p → Path a p []
  | step {p : Nat} {l : List Step} : p < a.size → Path a (p + (stepAt a p).length) l → Path a p (stepAt a p :: l)
theorem walk_path (a : Array UInt8) (hs : ∀ p, p < a.size → StepOk a p (stepAt a p)) : ∀ (f p : Nat), a.size - p < f → Path a p (walk (table a a.size) f (a.size - p))
  | 0, p, h => by omega
  | f + 1, p, h => by
    by_cases hp : p < a.size
    · rw [walk_at a f p hp]
      have := (hs p hp).fits hp
      exact .step hp (walk_path a hs f _ (by omega))
    · rw [show a.size - p = 0 by omega, walk_end]
      exact .done (by omega)
theorem parse_path (b : Sw.Bytes) (hs : ∀ p, p < b.toArray.size → StepOk b.toArray p (stepAt b.toArray p)) : Path b.toArray 0 (parse b) := by
  have := walk_path b.toArray hs (b.length + 1) 0 (by simp)
  unfold parse
  simpa using this

/-! ### masks -/
/-- the places q from which on w bytes are those from i on -/
def MaskOk (a : Array UInt8) (w i x : Nat) : Prop := ∀ q, x.testBit q = true ↔ ∀ j, j < w → q + j < a.size ∧ a.getD (q + j) 0 = a.getD (i + j) 0
theorem mask_join {a : Array UInt8} {w i x y s : Nat} (hx : MaskOk a w i x) (hy : MaskOk a w (i + s) y) (hs : s ≤ w) : MaskOk a (w + s) i (x &&& (y >>> s)) := by
  intro q
  rw [Nat.testBit_and, Nat.testBit_shiftRight, Bool.and_eq_true, hx q, Nat.add_comm s q, hy (q + s)]
  constructor
  · rintro ⟨h1, h2⟩ j hj
    by_cases c : j < w
    · exact h1 j c
    · have := h2 (j - s) (by omega)
      rw [show q + s + (j - s) = q + j by omega, show i + s + (j - s) = i + j by omega] at this
      exact this
  · intro h
    refine ⟨fun j hj => h j (by omega), fun j hj => ?_⟩
    have := h (j + s) (by omega)
    rw [show q + (j + s) = q + s + j by omega, show i + (j + s) = i + s + j by omega] at this
    exact this
theorem mask_near {a : Array UInt8} {i L x : Nat} (hx : MaskOk a L i x) (hL : i + L ≤ a.size) :
    (x &&& (2 ^ i - 1) = 0 → ∀ d, 1 ≤ d → d ≤ i → ¬ Mat a i d L) ∧
    (x &&& (2 ^ i - 1) ≠ 0 → Nat.log2 (x &&& (2 ^ i - 1)) < i ∧ Near a i L (i - Nat.log2 (x &&& (2 ^ i - 1)))) := by
  have hb : ∀ q, (x &&& (2 ^ i - 1)).testBit q = true ↔ q < i ∧ Mat a i (i - q) L := by
    intro q
    rw [Nat.testBit_and, Nat.testBit_two_pow_sub_one, Bool.and_eq_true, hx q, decide_eq_true_eq]
    constructor
    · rintro ⟨h1, h2⟩
      refine ⟨h2, fun j hj => ⟨by omega, ?_⟩⟩
      rw [show i + j - (i - q) = q + j by omega]
      exact (h1 j hj).2.symm
    · rintro ⟨h1, h2⟩
      refine ⟨fun j hj => ⟨by omega, ?_⟩, h1⟩
      have := (h2 j hj).2
      rw [show i + j - (i - q) = q + j by omega] at this
      exact this.symm
  constructor
  · intro hz d h1 h2 hm
    have := (hb (i - d)).mpr ⟨by omega, by rw [show i - (i - d) = d by omega]; exact hm⟩
    rw [hz] at this
    simp at this
  · intro hz
    have ht : (x &&& (2 ^ i - 1)).testBit (Nat.log2 (x &&& (2 ^ i - 1))) = true := Nat.testBit_log2 hz
    obtain ⟨h1, h2⟩ := (hb _).mp ht
    refine ⟨h1, ⟨by omega, by omega, h2, ?_⟩⟩
    intro e he1 he2 hm
    have hq := (hb (i - e)).mpr ⟨by omega, by rw [show i - (i - e) = e by omega]; exact hm⟩
    have hle : i - e ≤ Nat.log2 (x &&& (2 ^ i - 1)) := by
      have := Nat.ge_two_pow_of_testBit hq
      exact (Nat.le_log2 hz).mpr this
    omega
/-- a run that was followed to its end: from any place within it it ends there -/
theorem mat_run {a : Array UInt8} {d p e L : Nat} (h : ∀ q, p ≤ q → q < e → q < a.size ∧ a.getD q 0 = a.getD (q - d) 0) (hL : p + L ≤ e) : Mat a p d L := fun j hj => h (p + j) (by omega) (by omega)
end MP
end
section
set_option Elab.async false
set_option maxRecDepth 100000
set_option maxHeartbeats 2000000
/-! coding: written. -/
namespace Sq
open PySem PySem.Spec PyProof.Rows L2 SqX LamX
abbrev Stp := SwSqueeze.Step
open SwSqueeze (bitsLow bitsHigh classOf further symbolOf toldLengths)
/-- a step as a pair -/
def stN : Stp → Nat × Nat
  | .letter c => (0, c.toNat)
  | .match_ l d => (l, d)
def stT (s : Stp) : List V := [.int (stN s).1, .int (stN s).2]
/-- a step that may stand in a parse -/
def StOk : Stp → Prop
  | .letter _ => True
  | .match_ l d => 3 ≤ l ∧ l ≤ 258 ∧ 1 ≤ d ∧ d ≤ 1024
theorem class_le {n k : Nat} (h : n < 2 ^ k) : classOf n ≤ k := by
  unfold classOf
  split
  · omega
  · rename_i h0
    have := (Nat.log2_lt h0).mpr h
    omega
theorem symbol_lt {s : Stp} (h : StOk s) : symbolOf s < 265 := by
  cases s with
  | letter c =>
    have := c.toNat_lt
    show c.toNat < 265
    omega
  | match_ l d =>
    show 256 + classOf (l - 3) < 265
    have := class_le (n := l - 3) (k := 8) (by have := h.2.1; omega)
    omega
def sp_symbol_of : Sp := fun vs H Q _ => ∃ (t : Addr) (s : Stp), vs = [.ref t] ∧ H t = some (.tup (stT s)) ∧ StOk s ∧ Q (.int (symbolOf s : Nat)) H
def sp_further_bits : Sp := fun vs H Q _ => ∃ n : Nat, vs = [.int n] ∧ n < 2 ^ 1000 ∧
  ∀ H' p, Same H H' → H p = none → H' p = some (.lst ((bitsLow (further n) n).map bV)) → Q (.ref p) H'
section
variable {P : Program} {w : World} {K : PySem.W.Frag} {mg : Str → Option Value} {base : Heap} {c : CA} {f : Addr} {fd : FuncData}
theorem ok_symbol_of (T : Tx K mg c) (GC : Hd P w K mg base CX0 1 "class_of" ["number"] sp_class_of) (F : Fun K "symbol_of" "symbol_of" s_symbol_of f fd) : FnOk P w K mg base CX0 2 f fd ["step"] sp_symbol_of := by
  refine F.ok sc_symbol_of (fun vs H Q E h => ?_) (fun cdv A outer s H vs Q E hr h => ?_)
  · obtain ⟨t, s, rfl, _⟩ := h
    rfl
  · refine ⟨_, (pss_cons (ps_if (pt_cmpR op_eq (pe_ix (ix_tup : IxR _ (rIxT K)) (pv 0) pe_int (fun _ _ => rfl)) pe_int (nomark _)) (pss_one (ps_ret (pe_ix (ix_tup : IxR _ (rIxT K)) (pv 0) pe_int (fun _ _ => rfl)))) pss_nil)
  (pss_one (ps_ret (pe_op op_add (pe_gI rfl T.LETTERS) (pe_cd GC (hr.mono (by decide)) pass0 (pa_cons (pe_op op_sub (pe_ix (ix_tup : IxR _ (rIxT K)) (pv 0) pe_int (fun _ _ => rfl)) (pe_gI rfl T.SHORTEST_MATCH)) pa_nil)))))), ?_⟩
    obtain ⟨t, st, rfl, ht, hg, q⟩ := h
    refine ⟨_, rfl, t, _, _, _, rfl, rfl, .inl (.inl ht), rfl, rfl, _, rfl, ?_⟩
    cases st with
    | letter x =>
      refine ite2 (fun h => ?_) (fun h => absurd rfl h)
      exact ⟨_, rfl, t, _, _, _, rfl, rfl, .inl (.inl ht), rfl, q⟩
    | match_ l d =>
      refine ite2 (fun h => ?_) (fun h => ?_)
      · have h2 := of_decide_eq_true h
        injection h2 with h2
        have h3 : (l : Int) = 0 := h2
        have := hg.1
        omega
      · refine ⟨_, rfl, t, _, _, _, rfl, rfl, .inl (.inl ht), rfl, _, _, rfl, rfl, ?_⟩
        have e : ((l : Nat) : Int) - 3 = ((l - 3 : Nat) : Int) := by have := hg.1; omega
        refine ⟨l - 3, congrArg (fun x : Int => [V.int x]) e, _, _, rfl, rfl, ?_⟩
        exact q
theorem ok_further_bits (T : Tx K mg c) (GC : Hd P w K mg base CX0 1 "class_of" ["number"] sp_class_of) (GF : Hd P w K mg base CX0 1 "further_width" ["kind"] sp_further_width) (GL : Hd P w K mg base CX0 1 "low_first" ["number", "width"] sp_low_first)
    (F : Fun K "further_bits" "further_bits" s_further_bits f fd) : FnOk P w K mg base CX0 2 f fd ["number"] sp_further_bits := by
  refine F.ok sc_further_bits (fun vs H Q E h => ?_) (fun cdv A outer s H vs Q E hr h => ?_)
  · obtain ⟨n, rfl, _⟩ := h
    rfl
  · refine ⟨_, (pss_one (ps_ret (pe_cd GL (hr.mono (by decide)) pass0 (pa_cons (pv 0) (pa_cons (pe_cd GF (hr.mono (by decide)) pass0 (pa_cons (pe_cd GC (hr.mono (by decide)) pass0 (pa_cons (pv 0) pa_nil)) pa_nil)) pa_nil))))), ?_⟩
    obtain ⟨n, rfl, hn, q⟩ := h
    refine ⟨_, rfl, _, rfl, n, rfl, classOf n, rfl, n, classOf n - 1, rfl, ?_, fun H' p hs hp hq => q H' p hs hp hq⟩
    have := class_le hn
    omega
end
/-! ### lengths told -/
def isZ : Nat → Bool := fun m => m == 0
theorem tw_ge : ∀ (l : List Nat) (k : Nat), (∀ j, j < k → l[j]? = some 0) → k ≤ (l.takeWhile isZ).length
  | _, 0, _ => Nat.zero_le _
  | [], k + 1, h => by have := h 0 (by omega); simp at this
  | x :: l, k + 1, h => by
    have h0 : x = 0 := by have := h 0 (by omega); simpa using this
    rw [List.takeWhile_cons_of_pos (by rw [h0]; rfl), List.length_cons]
    have := tw_ge l k (fun j hj => by have := h (j + 1) (by omega); simpa using this)
    omega
theorem tw_le : ∀ (l : List Nat) (k : Nat) (x : Nat), l[k]? = some x → x ≠ 0 → (l.takeWhile isZ).length ≤ k
  | [], _, _, h, _ => by simp at h
  | y :: l, 0, x, h, hx => by
    have : y = x := by simpa using h
    rw [List.takeWhile_cons_of_neg (by rw [this]; simpa [isZ] using hx)]
    exact Nat.le_refl _
  | y :: l, k + 1, x, h, hx => by
    by_cases hy : isZ y = true
    · rw [List.takeWhile_cons_of_pos hy, List.length_cons]
      have := tw_le l k x (by simpa using h) hx
      omega
    · rw [List.takeWhile_cons_of_neg hy]
      exact Nat.zero_le _
def runAt (ls : List Nat) (i : Nat) : Nat := min 256 (((ls.drop i).takeWhile isZ).length)
theorem runAt_eq {ls : List Nat} {i k : Nat} (h : ∀ j, j < k → ls[i + j]? = some 0) (hk : k ≤ 256) (he : ls.length ≤ i + k ∨ k = 256 ∨ ∃ x, ls[i + k]? = some x ∧ x ≠ 0) : runAt ls i = k := by
  have h1 := tw_ge (ls.drop i) k (fun j hj => by rw [List.getElem?_drop]; exact h j hj)
  unfold runAt
  rcases he with he | he | ⟨x, he, hx⟩
  · have : ((ls.drop i).takeWhile isZ).length ≤ (ls.drop i).length := (List.takeWhile_sublist _).length_le
    rw [List.length_drop] at this
    omega
  · omega
  · have := tw_le (ls.drop i) k x (by rw [List.getElem?_drop]; exact he) hx
    omega
theorem told_fuel : ∀ (n : Nat) (l : List Nat), l.length ≤ n → ∀ f, l.length < f → toldLengths f l = toldLengths (l.length + 1) l
  | _, [], _, f + 1, _ => by unfold toldLengths; rfl
  | n + 1, x :: l, hn, f + 1, hf => by
    rw [List.length_cons] at hn hf
    show (if x ≠ 0 then bitsLow 4 x ++ toldLengths f l else _) = (if x ≠ 0 then bitsLow 4 x ++ toldLengths (l.length + 1) l else _)
    by_cases hx : x ≠ 0
    · rw [if_pos hx, if_pos hx, told_fuel n l (by omega) f (by omega)]
    · rw [if_neg hx, if_neg hx]
      have hk : 1 ≤ min 256 (((x :: l).takeWhile fun (m : Nat) => m == 0).length) := by
        rw [List.takeWhile_cons_of_pos (by simpa using hx), List.length_cons]
        omega
      have hlen : ((x :: l).drop (min 256 (((x :: l).takeWhile fun (m : Nat) => m == 0).length))).length ≤ l.length := by
        rw [List.length_drop, List.length_cons]; omega
      show bitsLow 4 0 ++ (bitsLow 8 _ ++ toldLengths f _) = bitsLow 4 0 ++ (bitsLow 8 _ ++ toldLengths (l.length + 1) _)
      rw [told_fuel n _ (by omega) f (by omega), told_fuel n _ (by omega) (l.length + 1) (by omega)]
def toldOf (l : List Nat) : List Bool := toldLengths (l.length + 1) l
theorem toldOf_nil : toldOf [] = [] := rfl
theorem toldOf_pos {x : Nat} (l : List Nat) (hx : x ≠ 0) : toldOf (x :: l) = bitsLow 4 x ++ toldOf l := by
  show (if x ≠ 0 then bitsLow 4 x ++ toldLengths (l.length + 1) l else _) = _
  rw [if_pos hx]
  rfl
theorem toldOf_run {ls : List Nat} {i : Nat} (h : ls[i]? = some 0) : 1 ≤ runAt ls i ∧ toldOf (ls.drop i) = bitsLow 4 0 ++ (bitsLow 8 (runAt ls i - 1) ++ toldOf (ls.drop (i + runAt ls i))) := by
  obtain ⟨hi, h0⟩ := List.getElem?_eq_some_iff.mp h
  have hd : ls.drop i = 0 :: ls.drop (i + 1) := by rw [List.drop_eq_getElem_cons hi, h0]
  have h1 : 1 ≤ runAt ls i := by
    have := tw_ge (ls.drop i) 1 (fun j hj => by rw [List.getElem?_drop, show j = 0 by omega]; exact h)
    unfold runAt
    omega
  refine ⟨h1, ?_⟩
  have e : toldOf (ls.drop i) = bitsLow 4 0 ++ (bitsLow 8 (runAt ls i - 1) ++ toldLengths (ls.drop i).length ((ls.drop i).drop (runAt ls i))) := by
    unfold toldOf runAt
    rw [hd]
    rfl
  rw [e, List.drop_drop, toldOf, told_fuel _ _ (Nat.le_refl _)]
  rw [List.length_drop, List.length_drop]
  omega
def sp_run_of_noughts (K : PySem.W.Frag) : Sp := fun vs H Q _ => ∃ (a : Addr) (ls : List Nat) (i : Nat), vs = [.ref a, .int i] ∧ SqL K H a (natsV ls) ∧ Q (.int (runAt ls i : Nat)) H
def sp_length_bits (K : PySem.W.Frag) : Sp := fun vs H Q _ => ∃ (a : Addr) (ls : List Nat), vs = [.ref a] ∧ SqL K H a (natsV ls) ∧ ls.length ≤ 10000 ∧
  ∀ H' p, Same H H' → H p = none → H' p = some (.lst ((toldOf ls).map bV)) → Q (.ref p) H'
section
variable {P : Program} {w : World} {K : PySem.W.Frag} {mg : Str → Option Value} {base : Heap} {c : CA} {f : Addr} {fd : FuncData}
theorem ok_run_of_noughts (T : Tx K mg c) (F : Fun K "run_of_noughts" "run_of_noughts" s_run_of_noughts f fd) : FnOk P w K mg base CX0 1 f fd ["lengths", "start"] (sp_run_of_noughts K) := by
  refine F.ok sc_run_of_noughts (fun vs H Q E h => ?_) (fun cdv A outer s H vs Q E hr h => ?_)
  · obtain ⟨a, ls, i, rfl, _⟩ := h
    rfl
  · refine ⟨_, (pss_cons (ps_set (i := 2) sc_run_of_noughts.nd rfl (Or.inl rfl) (pv 1))
  (pss_cons (ps_while PassesOwn.never (PW.pt (pw_and (pt_cmpR op_lt (pv 2) (pe_callB call_len_seq (by rfl) T.len (by decide +kernel) (pa_cons (pv 0) pa_nil)) (nomark _)) (pw_and (pt_cmpR op_lt (pe_op op_sub (pv 2) (pv 1)) (pe_gI rfl T.LONGEST_RUN) (nomark _)) (pw_and1 (pt_cmpR op_eq (pe_ix (ix_list : IxR _ (rIxL K)) (pv 0) (pv 2) (fun _ _ => rfl)) pe_int (nomark _)))))) (pss_one (ps_aug (i := 2) sc_run_of_noughts.nd rfl (Or.inl rfl) pe_int ip_add)))
  (pss_one (ps_ret (pe_op op_sub (pv 2) (pv 1)))))), ?_⟩
    obtain ⟨a, ls, i, rfl, hS, q⟩ := h
    have hll : (natsV ls).length = ls.length := List.length_map ..
    refine ⟨_, rfl, fun m σ H' => ∃ k, σ = [some (.ref a), some (.int i), some (.int (i + k : Nat))] ∧ H' = H ∧ k + m = 256 ∧ ∀ j, j < k → ls[i + j]? = some 0, ⟨256, 0, rfl, rfl, rfl, fun j hj => absurd hj (by omega)⟩, fun m σ H' hW => ?_⟩
    obtain ⟨k, rfl, rfl, hm, hk⟩ := hW
    have fin : ls.length ≤ i + k ∨ k = 256 ∨ (∃ x, ls[i + k]? = some x ∧ x ≠ 0) → Q (.int (((i + k : Nat) : Int) - (i : Int))) H' := fun he => by
      rw [show ((i + k : Nat) : Int) - (i : Int) = ((k : Nat) : Int) by omega, ← runAt_eq hk (by omega) he]
      exact q
    refine ⟨_, rfl, _, rfl, _, _, rfl, .inl hS, _, _, rfl, rfl, _, rfl, ?_⟩
    refine ite2 (fun h1 => ?_) (fun h1 => ?_)
    · refine ⟨_, rfl, _, rfl, _, _, rfl, rfl, _, _, rfl, rfl, _, rfl, ?_⟩
      have h1' : i + k < ls.length := by
        have := of_decide_eq_true h1
        rw [hll] at this
        omega
      refine ite2 (fun h2 => ?_) (fun h2 => ?_)
      · have h2' : k < 256 := by
          have := of_decide_eq_true h2
          omega
        refine ⟨_, rfl, _, rfl, a, _, _, _, rfl, rfl, hS, at_of rfl (nat_get h1'), rfl, _, rfl, ?_⟩
        refine ite2 (fun h3 => ?_) (fun h3 => ?_)
        · have h3' : ls.getD (i + k) 0 = 0 := by
            have := of_decide_eq_true h3
            injection this with this
            omega
          refine ⟨fun σ' H'' => ∃ m', m' < m ∧ ∃ k, σ' = [some (.ref a), some (.int i), some (.int (i + k : Nat))] ∧ H'' = H' ∧ k + m' = 256 ∧ ∀ j, j < k → ls[i + j]? = some 0, fun _ _ h => h, ?_⟩
          refine ⟨_, rfl, _, _, rfl, rfl, m - 1, by omega, k + 1, rfl, rfl, by omega, fun j hj => ?_⟩
          rcases Nat.lt_or_ge j k with h | h
          · exact hk j h
          · have : j = k := by omega
            subst this
            rw [List.getElem?_eq_getElem h1']
            rw [List.getD_eq_getElem?_getD, List.getElem?_eq_getElem h1'] at h3'
            exact congrArg some h3'
        · refine ⟨_, rfl, _, rfl, _, _, rfl, rfl, ?_⟩
          refine fin (.inr (.inr ⟨ls.getD (i + k) 0, ?_, fun z => ?_⟩))
          · rw [List.getD_eq_getElem?_getD, List.getElem?_eq_getElem h1']; rfl
          · apply h3; rw [z]; rfl
      · have h2' : ¬ k < 256 := fun h => h2 (decide_eq_true (by omega))
        exact ⟨_, rfl, _, rfl, _, _, rfl, rfl, fin (.inr (.inl (by omega)))⟩
    · have h1' : ¬ i + k < ls.length := fun h => h1 (decide_eq_true (by rw [hll]; omega))
      exact ⟨_, rfl, _, rfl, _, _, rfl, rfl, fin (.inl (by omega))⟩
theorem runAt_le (ls : List Nat) (i : Nat) : runAt ls i ≤ 256 ∧ runAt ls i ≤ ls.length - i := by
  have : ((ls.drop i).takeWhile isZ).length ≤ (ls.drop i).length := (List.takeWhile_sublist _).length_le
  rw [List.length_drop] at this
  unfold runAt
  omega
theorem ok_length_bits (T : Tx K mg c) (GL : Hd P w K mg base CX0 1 "low_first" ["number", "width"] sp_low_first) (GR : Hd P w K mg base CX0 1 "run_of_noughts" ["lengths", "start"] (sp_run_of_noughts K))
    (F : Fun K "length_bits" "length_bits" s_length_bits f fd) : FnOk P w K mg base CX0 2 f fd ["lengths"] (sp_length_bits K) := by
  refine F.ok sc_length_bits (fun vs H Q E h => ?_) (fun cdv A outer s H vs Q E hr h => ?_)
  · obtain ⟨a, ls, rfl, _⟩ := h
    rfl
  · refine ⟨_, (pss_cons (ps_set (i := 1) sc_length_bits.nd rfl (Or.inl rfl) (pe_lst pa_nil))
  (pss_cons (ps_set (i := 2) sc_length_bits.nd rfl (Or.inl rfl) pe_int)
  (pss_cons (ps_while PassesOwn.never (pt_cmpR op_lt (pv 2) (pe_callB call_len_seq (by rfl) T.len (by decide +kernel) (pa_cons (pv 0) pa_nil)) (nomark _)) (pss_cons (ps_expr (pe_bm PySem.F.plainAttrs_list PySem.F.slot_list_extend PySem.F.type_list_extend mt_extend (pv 1) (pa_cons (pe_cd GL (hr.mono (by decide)) pass0 (pa_cons (pe_ix (ix_list : IxR _ (rIxL K)) (pv 0) (pv 2) (fun _ _ => rfl)) (pa_cons (pe_gI rfl T.LENGTH_WIDTH) pa_nil))) pa_nil)))
    (pss_one (ps_if (pt_cmpR op_eq (pe_ix (ix_list : IxR _ (rIxL K)) (pv 0) (pv 2) (fun _ _ => rfl)) pe_int (nomark _)) (pss_cons (ps_set (i := 3) sc_length_bits.nd rfl (Or.inl rfl) (pe_cd GR (hr.mono (by decide)) pass0 (pa_cons (pv 0) (pa_cons (pv 2) pa_nil))))
      (pss_cons (ps_expr (pe_bm PySem.F.plainAttrs_list PySem.F.slot_list_extend PySem.F.type_list_extend mt_extend (pv 1) (pa_cons (pe_cd GL (hr.mono (by decide)) pass0 (pa_cons (pe_op op_sub (pv 3) pe_int) (pa_cons (pe_gI rfl T.RUN_WIDTH) pa_nil))) pa_nil)))
      (pss_one (ps_aug (i := 2) sc_length_bits.nd rfl (Or.inl rfl) (pv 3) ip_add)))) (pss_one (ps_aug (i := 2) sc_length_bits.nd rfl (Or.inl rfl) pe_int ip_add))))))
  (pss_one (ps_ret (pv 1)))))), ?_⟩
    obtain ⟨a, ls, rfl, hS, hl, q⟩ := h
    have hll : (natsV ls).length = ls.length := List.length_map ..
    refine ⟨Nat.zero_le _, fun p hp => ?_⟩
    refine ⟨fun m σ H' => ∃ (pl : Nat) (v3 : Option V) (done : List Bool), σ = [some (.ref a), some (.ref p), some (.int pl), v3] ∧ Same H H' ∧ H' p = some (.lst (done.map bV)) ∧ toldOf ls = done ++ toldOf (ls.drop pl) ∧ done.length ≤ 12 * pl ∧ pl + m = ls.length,
      ⟨ls.length, 0, none, [], rfl, same_new hp, upd_same, rfl, by simp, by omega⟩, fun m σ H1 hW => ?_⟩
    obtain ⟨pl, v3, done, rfl, hs1, hp1, hd, hdl, hpm⟩ := hW
    refine ⟨_, rfl, _, rfl, _, _, rfl, .inl (hs1.seq hS), _, _, rfl, rfl, _, rfl, ?_⟩
    refine ite2 (fun h1 => ?_) (fun h1 => ?_)
    · have h1' : pl < ls.length := by
        have := of_decide_eq_true h1
        rw [hll] at this
        omega
      refine ⟨fun σ' H' => ∃ m', m' < m ∧ ∃ (pl : Nat) (v3 : Option V) (done : List Bool), σ' = [some (.ref a), some (.ref p), some (.int pl), v3] ∧ Same H H' ∧ H' p = some (.lst (done.map bV)) ∧ toldOf ls = done ++ toldOf (ls.drop pl) ∧ done.length ≤ 12 * pl ∧ pl + m' = ls.length, fun _ _ h => h, ?_⟩
      refine ⟨_, rfl, .inl ⟨rfl, _, .inl (.inl hp1)⟩, _, rfl, _, rfl, a, _, _, _, rfl, rfl, hs1.seq hS, at_of rfl (nat_get h1'), ls.getD pl 0, 4, rfl, by decide, fun H2 r hs2 hr0 hr2 => ?_⟩
      have hp2 := hs2 _ _ hp1
      refine ⟨_, _, _, _, rfl, rfl, hp2, hr2, ?_, ?_⟩
      · rw [List.length_map, List.length_map, bitsLow_length]
        exact line_le (by omega)
      · have hs3 : Same H (upd H2 p (.lst (done.map bV ++ (bitsLow 4 (ls.getD pl 0)).map bV))) := same_upd (hs1.trans hs2) hp
        have hp3 : upd H2 p (.lst (done.map bV ++ (bitsLow 4 (ls.getD pl 0)).map bV)) p = some (.lst ((done ++ bitsLow 4 (ls.getD pl 0)).map bV)) := by rw [upd_same, List.map_append]
        generalize upd H2 p (.lst (done.map bV ++ (bitsLow 4 (ls.getD pl 0)).map bV)) = H3 at hs3 hp3 ⊢
        have hget : ls[pl]? = some (ls.getD pl 0) := by rw [List.getD_eq_getElem?_getD, List.getElem?_eq_getElem h1']; rfl
        refine ⟨_, rfl, _, rfl, a, _, _, _, rfl, rfl, hs3.seq hS, at_of rfl (nat_get h1'), rfl, _, rfl, ?_⟩
        refine ite2 (fun h2 => ?_) (fun h2 => ?_)
        · have h2' : ls.getD pl 0 = 0 := by
            have := of_decide_eq_true h2
            injection this with this
            omega
          rw [h2'] at hget hp3
          obtain ⟨hr1, hrt⟩ := toldOf_run hget
          have hrl := runAt_le ls pl
          refine ⟨_, rfl, _, rfl, a, ls, pl, rfl, hs3.seq hS, ?_⟩
          refine ⟨_, rfl, .inl ⟨rfl, _, .inl (.inl hp3)⟩, _, rfl, _, _, rfl, rfl, runAt ls pl - 1, 8, ?_, by decide, fun H4 r4 hs4 hr40 hr4 => ?_⟩
          · dsimp only
            rw [show ((runAt ls pl : Nat) : Int) - 1 = ((runAt ls pl - 1 : Nat) : Int) by omega]
            rfl
          have hp4 := hs4 _ _ hp3
          refine ⟨_, _, _, _, rfl, rfl, hp4, hr4, ?_, ?_⟩
          · rw [List.length_map, List.length_append, List.length_map, bitsLow_length, bitsLow_length]
            exact line_le (by omega)
          · refine ⟨_, rfl, _, rfl, _, _, rfl, rfl, m - runAt ls pl, by omega, pl + runAt ls pl, _, done ++ bitsLow 4 0 ++ bitsLow 8 (runAt ls pl - 1), rfl, same_upd (hs3.trans hs4) hp, ?_, ?_, ?_, by omega⟩
            · rw [upd_same, ← List.map_append]
            · rw [hd, hrt]
              simp [List.append_assoc]
            · rw [List.length_append, List.length_append, bitsLow_length, bitsLow_length]
              omega
        · have h2' : ls.getD pl 0 ≠ 0 := fun z => h2 (by rw [z]; rfl)
          refine ⟨_, rfl, _, _, rfl, rfl, m - 1, by omega, pl + 1, v3, done ++ bitsLow 4 (ls.getD pl 0), rfl, hs3, hp3, ?_, ?_, by omega⟩
          · have hdr : ls.drop pl = ls.getD pl 0 :: ls.drop (pl + 1) := by
              rw [List.drop_eq_getElem_cons h1']
              congr 1
              rw [List.getElem?_eq_getElem h1'] at hget
              exact Option.some.inj hget
            rw [hd, hdr, toldOf_pos _ h2', List.append_assoc]
          · rw [List.length_append, bitsLow_length]
            omega
    · have h1' : ¬ pl < ls.length := fun h => h1 (decide_eq_true (by rw [hll]; omega))
      refine ⟨_, rfl, q _ p hs1 hp ?_⟩
      rw [hp1, hd, List.drop_of_length_le (by omega), toldOf_nil, List.append_nil]
end
end Sq
end
section
set_option Elab.async false
set_option maxRecDepth 100000
set_option maxHeartbeats 2000000
/-! coding: a parse's bits. -/
namespace Sq
open PySem PySem.Spec PyProof.Rows L2 SqX LamX
open SwSqueeze (bitsLow bitsHigh classOf further symbolOf toldLengths codewords codeTable stepBits)
theorem word_at (ls : List Nat) (h15 : ∀ i, ls.getD i 0 ≤ 15) {s : Nat} (hs : s < ls.length) (h0 : ls.getD s 0 ≠ 0) :
    ∃ wd : Nat, valV (wordsK (codewords ls)) (Sum.inl (s : Int)) = some (V.int wd) ∧ bitsHigh (ls.getD s 0) wd = (codeTable ls.length ls).getD s [] := by
  obtain ⟨q0, hq0, e0⟩ := MC.codewords_has ls h15 hs h0
  rw [wordsK_val]
  cases hf : (codewords ls).find? fun q => q.1 == s with
  | none =>
    have := List.find?_eq_none.mp hf q0 hq0
    simp [e0] at this
  | some q =>
    have hm := List.mem_of_find?_eq_some hf
    have he : q.1 = s := by
      have := List.find?_some hf
      simpa using this
    exact ⟨q.2.2, rfl, (MC.table_word ls h15 rfl hm he).symm⟩
abbrev St2 := Addr × Stp
def strefs (ss : List St2) : List V := ss.map fun x => V.ref x.1
def Sts (H : Hp) (ss : List St2) : Prop := ∀ x ∈ ss, H x.1 = some (.tup (stT x.2))
theorem Sts.ext {H H' : Hp} {ss : List St2} (h : Sts H ss) (e : ExtN H H') : Sts H' ss := fun x hx => e _ _ (h x hx) (by intro ps z; cases z)
theorem Sts.same {H H' : Hp} {ss : List St2} (h : Sts H ss) (e : Same H H') : Sts H' ss := fun x hx => e _ _ (h x hx)
/-- what a step asks of the codes -/
def StCoded (ls ld : List Nat) (s : Stp) : Prop := StOk s ∧ ls.getD (symbolOf s) 0 ≠ 0 ∧ match s with
  | .letter _ => True
  | .match_ _ d => ld.getD (classOf (d - 1)) 0 ≠ 0
theorem dist_lt {d : Nat} (h1 : 1 ≤ d) (h2 : d ≤ 1024) : classOf (d - 1) < 11 := by
  have := class_le (n := d - 1) (k := 10) (by omega)
  omega
/-- made since: nothing stood there but a table of code objects -/
def Fresh (H : Hp) (p : Addr) : Prop := ∀ o, H p = some o → ∃ ps, o = .tbl ps
theorem fresh_of {H H1 : Hp} {p : Addr} (e : ExtN H H1) (hp : H1 p = none) : Fresh H p := fun o h => by
  cases o with
  | tbl ps => exact ⟨ps, rfl⟩
  | _ => exact absurd ((e _ _ h (by intro ps z; cases z)).symm.trans hp) (by simp)
def sp_parse_bits (K : PySem.W.Frag) (TT : List (Addr × Str)) : Sp := fun vs H Q _ => ∃ (a b d : Addr) (ss : List St2) (ls ld : List Nat), vs = [.ref a, .ref b, .ref d] ∧ SqL K H a (strefs ss) ∧ Sts H ss ∧ SqL K H b (natsV ls) ∧ SqL K H d (natsV ld) ∧
  ls.length = 265 ∧ ld.length = 11 ∧ (∀ i, ls.getD i 0 ≤ 15) ∧ (∀ i, ld.getD i 0 ≤ 15) ∧ (∀ x ∈ ss, StCoded ls ld x.2) ∧ ss.length ≤ 1024 ∧ Tabs TT H ∧
  ∀ H' p, ExtN H H' → Tabs TT H' → Fresh H p → H' p = some (.lst ((ss.flatMap fun x => stepBits (codeTable 265 ls) (codeTable 11 ld) x.2).map bV)) → (ss.flatMap fun x => stepBits (codeTable 265 ls) (codeTable 11 ld) x.2).length ≤ 60 * ss.length → Q (.ref p) H'
section
variable {P : Program} {w : World} {K : PySem.W.Frag} {mg : Str → Option Value} {base : Heap} {c : CA} {f : Addr} {fd : FuncData} {TT : List (Addr × Str)}
theorem ok_parse_bits (T : Tx K mg c) (GW : Hd P w K mg base CX0 1 "codewords" ["lengths"] (sp_codewords K TT)) (GS : Hd P w K mg base CX0 2 "symbol_of" ["step"] sp_symbol_of) (GH : Hd P w K mg base CX0 1 "high_first" ["number", "width"] sp_high_first)
    (GC : Hd P w K mg base CX0 1 "class_of" ["number"] sp_class_of) (GF : Hd P w K mg base CX0 2 "further_bits" ["number"] sp_further_bits)
    (F : Fun K "parse_bits" "parse_bits" s_parse_bits f fd) : FnOk P w K mg base CX0 3 f fd ["parse", "lengths", "distance_lengths"] (sp_parse_bits K TT) := by
  refine F.ok sc_parse_bits (fun vs H Q E h => ?_) (fun cdv A outer s H vs Q E hr h => ?_)
  · obtain ⟨a, b, d, ss, ls, ld, rfl, _⟩ := h
    rfl
  · refine ⟨_, (pss_cons (ps_set (i := 3) sc_parse_bits.nd rfl (Or.inl rfl) (pe_cd GW (hr.mono (by decide)) pass0 (pa_cons (pv 1) pa_nil)))
  (pss_cons (ps_set (i := 4) sc_parse_bits.nd rfl (Or.inl rfl) (pe_cd GW (hr.mono (by decide)) pass0 (pa_cons (pv 2) pa_nil)))
  (pss_cons (ps_set (i := 5) sc_parse_bits.nd rfl (Or.inl rfl) (pe_lst pa_nil))
  (pss_cons (ps_for PassesOwn.never rfl (pi_list (pv 0)) (pg_name (i := 6) sc_parse_bits.nd rfl (Or.inl rfl)) (pss_cons (ps_set (i := 7) sc_parse_bits.nd rfl (Or.inl rfl) (pe_cd GS (hr.mono (by decide)) pass0 (pa_cons (pv 6) pa_nil)))
    (pss_cons (ps_expr (pe_bm PySem.F.plainAttrs_list PySem.F.slot_list_extend PySem.F.type_list_extend mt_extend (pv 5) (pa_cons (pe_cd GH (hr.mono (by decide)) pass0 (pa_cons (pe_dget (hu_of hr) (pv 3) (pv 7) (fun _ _ => rfl)) (pa_cons (pe_ix (ix_list : IxR _ (rIxL K)) (pv 1) (pv 7) (fun _ _ => rfl)) pa_nil))) pa_nil)))
    (pss_one (ps_if (pt_cmpR op_ge (pv 7) (pe_gI rfl T.LETTERS) (nomark _)) (pss_cons (ps_set (i := 8) sc_parse_bits.nd rfl (Or.inl rfl) (pe_cd GC (hr.mono (by decide)) pass0 (pa_cons (pe_op op_sub (pe_ix (ix_tup : IxR _ (rIxT K)) (pv 6) pe_int (fun _ _ => rfl)) pe_int) pa_nil)))
      (pss_cons (ps_expr (pe_bm PySem.F.plainAttrs_list PySem.F.slot_list_extend PySem.F.type_list_extend mt_extend (pv 5) (pa_cons (pe_cd GF (hr.mono (by decide)) pass0 (pa_cons (pe_op op_sub (pe_ix (ix_tup : IxR _ (rIxT K)) (pv 6) pe_int (fun _ _ => rfl)) (pe_gI rfl T.SHORTEST_MATCH)) pa_nil)) pa_nil)))
      (pss_cons (ps_expr (pe_bm PySem.F.plainAttrs_list PySem.F.slot_list_extend PySem.F.type_list_extend mt_extend (pv 5) (pa_cons (pe_cd GH (hr.mono (by decide)) pass0 (pa_cons (pe_dget (hu_of hr) (pv 4) (pv 8) (fun _ _ => rfl)) (pa_cons (pe_ix (ix_list : IxR _ (rIxL K)) (pv 2) (pv 8) (fun _ _ => rfl)) pa_nil))) pa_nil)))
      (pss_one (ps_expr (pe_bm PySem.F.plainAttrs_list PySem.F.slot_list_extend PySem.F.type_list_extend mt_extend (pv 5) (pa_cons (pe_cd GF (hr.mono (by decide)) pass0 (pa_cons (pe_op op_sub (pe_ix (ix_tup : IxR _ (rIxT K)) (pv 6) pe_int (fun _ _ => rfl)) pe_int) pa_nil)) pa_nil))))))) pss_nil)))))
  (pss_one (ps_ret (pv 5))))))), ?_⟩
    obtain ⟨a, b, d, ss, ls, ld, rfl, hS, hst, hls, hld, hl1, hl2, h15, h15d, hco, hsl, hT, q⟩ := h
    refine ⟨_, rfl, b, ls, rfl, hls, by omega, h15, hT, fun H1 p1 e1 t1 _ hp1 => ?_⟩
    refine ⟨_, rfl, d, ld, rfl, ExtN.seq e1 hld, by omega, h15d, t1, fun H2 p2 e2 t2 _ hp2 => ?_⟩
    have hp1' := e2 _ _ hp1 (by intro ps z; cases z)
    have eN := e1.trans e2
    refine ⟨Nat.zero_le _, fun p hp => ?_⟩
    refine ⟨_, rfl, a, rfl, ⟨strefs ss, (same_new hp).seq (ExtN.seq eN hS)⟩, for_it (walk_list (xs := strefs ss)) (fun i σ H' => ∃ v6 v7 v8 : Option V, σ = [some (.ref a), some (.ref b), some (.ref d), some (.ref p1), some (.ref p2), some (.ref p), v6, v7, v8] ∧ Same H2 H' ∧
      H' p = some (.lst (((ss.take i).flatMap fun x => stepBits (codeTable 265 ls) (codeTable 11 ld) x.2).map bV)) ∧ ((ss.take i).flatMap fun x => stepBits (codeTable 265 ls) (codeTable 11 ld) x.2).length ≤ 60 * i)
      ⟨_, _, _, rfl, same_new hp, upd_same, by simp⟩ (fun i σ H' _ hP => ?_) (fun i x σ H' H6 hi hP y => ?_) (fun σ H' hP => ?_)⟩
    · obtain ⟨_, _, _, _, hs, _⟩ := hP
      exact hs.seq (ExtN.seq eN hS)
    · obtain ⟨rfl, hx⟩ := y
      obtain ⟨v6, v7, v8, rfl, hs6, hp6, hlen⟩ := hP
      obtain ⟨⟨t, st⟩, hst0, rfl⟩ := map_get hx
      have hmem := List.mem_of_getElem? hst0
      obtain ⟨hok, hsy, hdi⟩ := hco _ hmem
      have hok : StOk st := hok
      have hsy : ls.getD (symbolOf st) 0 ≠ 0 := hsy
      have ht6 : H6 t = some (.tup (stT st)) := hs6 _ _ ((hst.ext eN) _ hmem)
      refine ⟨_, rfl, t, st, rfl, ht6, hok, ?_⟩
      have hslt : symbolOf st < 265 := symbol_lt hok
      obtain ⟨wd, hwd, hbits⟩ := word_at ls h15 (s := symbolOf st) (by omega) hsy
      rw [hl1] at hbits
      have hil : i < 1024 := by
        have : (strefs ss).length = ss.length := List.length_map ..
        omega
      have h15s := h15 (symbolOf st)
      refine ⟨_, rfl, .inl ⟨rfl, _, .inl (.inl hp6)⟩, _, rfl, _, rfl, p1, _, rfl, .inl ⟨_, .inl (symbolOf st : Int), .inl (hs6 _ _ hp1'), rfl, hwd.symm⟩, _, rfl, _, rfl, b, _, _, _, rfl, rfl, hs6.seq (ExtN.seq eN hls), at_of rfl (nat_get (by omega)), wd, ls.getD (symbolOf st) 0, rfl, by omega, fun H7 r7 hs7 hr70 hr7 => ?_⟩
      have hp7 := hs7 _ _ hp6
      refine ⟨_, _, _, _, rfl, rfl, hp7, hr7, ?_, ?_⟩
      · rw [List.length_map, List.length_map, MC.bitsHigh_length]
        exact line_le (by omega)
      rw [← List.map_append]
      generalize hdone : ((ss.take i).flatMap fun x => stepBits (codeTable 265 ls) (codeTable 11 ld) x.2) = done at hp6 hp7 hlen ⊢
      have hs8 : Same H2 (upd H7 p (.lst ((done ++ bitsHigh (ls.getD (symbolOf st) 0) wd).map bV))) := same_upd (hs6.trans hs7) hp
      have hp8 : upd H7 p (.lst ((done ++ bitsHigh (ls.getD (symbolOf st) 0) wd).map bV)) p = some (.lst ((done ++ bitsHigh (ls.getD (symbolOf st) 0) wd).map bV)) := upd_same
      generalize upd H7 p (.lst ((done ++ bitsHigh (ls.getD (symbolOf st) 0) wd).map bV)) = H8 at hs8 hp8 ⊢
      have ht8 : H8 t = some (.tup (stT st)) := hs8 _ _ ((hst.ext eN) _ hmem)
      refine ⟨_, rfl, _, _, rfl, rfl, _, rfl, ?_⟩
      cases st with
      | letter x =>
        have hx : x.toNat < 256 := x.toNat_lt
        refine ite2 (fun h => ?_) (fun h => ?_)
        · have h2 := of_decide_eq_true h
          have h3 : (256 : Int) ≤ ((x.toNat : Nat) : Int) := h2
          omega
        · refine ⟨_, _, _, rfl, hs8, ?_, ?_⟩
          · rw [hp8, take_succ_of hst0, List.flatMap_append, hdone, hbits]
            simp [stepBits, symbolOf]
          · rw [take_succ_of hst0, List.flatMap_append, hdone, List.length_append]
            have : (stepBits (codeTable 265 ls) (codeTable 11 ld) (.letter x)).length ≤ 15 := by
              show ((codeTable 265 ls).getD x.toNat []).length ≤ 15
              have e : (codeTable 265 ls).getD x.toNat [] = bitsHigh (ls.getD x.toNat 0) wd := hbits.symm
              rw [e, MC.bitsHigh_length]
              exact h15s
            simp
            omega
      | match_ l k =>
        obtain ⟨g1, g2, g3, g4⟩ := hok
        have hdi : ld.getD (classOf (k - 1)) 0 ≠ 0 := hdi
        have hkl := dist_lt g3 g4
        have h15k := h15d (classOf (k - 1))
        obtain ⟨wd2, hwd2, hbits2⟩ := word_at ld h15d (s := classOf (k - 1)) (by omega) hdi
        rw [hl2] at hbits2
        have ek : ((k : Nat) : Int) - 1 = ((k - 1 : Nat) : Int) := by omega
        have el : ((l : Nat) : Int) - 3 = ((l - 3 : Nat) : Int) := by omega
        have hcl := class_le (n := l - 3) (k := 8) (by omega)
        have hfl : further (l - 3) ≤ 8 := by unfold further; omega
        have hfk : further (k - 1) ≤ 10 := by unfold further; omega
        refine ite2 (fun h => ?_) (fun h => ?_)
        · refine ⟨_, rfl, t, _, _, _, rfl, rfl, .inl (.inl ht8), rfl, _, _, rfl, rfl, k - 1, congrArg (fun x : Int => [V.int x]) ek, ?_⟩
          refine ⟨_, rfl, .inl ⟨rfl, _, .inl (.inl hp8)⟩, _, rfl, t, _, _, _, rfl, rfl, .inl (.inl ht8), rfl, _, _, rfl, rfl, l - 3, congrArg (fun x : Int => [V.int x]) el, ?_, fun H9 r9 hs9 hr90 hr9 => ?_⟩
          · exact Nat.lt_of_lt_of_le (show l - 3 < 2 ^ 8 by omega) (Nat.pow_le_pow_right (by decide) (by decide))
          have hp9 := hs9 _ _ hp8
          refine ⟨_, _, _, _, rfl, rfl, hp9, hr9, ?_, ?_⟩
          · rw [List.length_map, List.length_map, List.length_append, MC.bitsHigh_length, bitsLow_length]
            exact line_le (by omega)
          rw [← List.map_append]
          generalize hd2 : (done ++ bitsHigh (ls.getD (symbolOf (.match_ l k)) 0) wd) ++ bitsLow (further (l - 3)) (l - 3) = done2 at *
          have hs10 : Same H2 (upd H9 p (.lst (done2.map bV))) := same_upd (hs8.trans hs9) hp
          have hp10 : upd H9 p (.lst (done2.map bV)) p = some (.lst (done2.map bV)) := upd_same
          generalize upd H9 p (.lst (done2.map bV)) = H10 at hs10 hp10 ⊢
          have hd2l : done2.length ≤ done.length + 15 + 8 := by
            rw [← hd2, List.length_append, List.length_append, MC.bitsHigh_length, bitsLow_length]
            omega
          have ht10 : H10 t = some (.tup (stT (.match_ l k))) := hs10 _ _ ((hst.ext eN) _ hmem)
          refine ⟨_, rfl, .inl ⟨rfl, _, .inl (.inl hp10)⟩, _, rfl, _, rfl, p2, _, rfl, .inl ⟨_, .inl (classOf (k - 1) : Int), .inl (hs10 _ _ hp2), rfl, hwd2.symm⟩, _, rfl, _, rfl, d, _, _, _, rfl, rfl, hs10.seq (ExtN.seq eN hld), at_of rfl (nat_get (by omega)), wd2, ld.getD (classOf (k - 1)) 0, rfl, by omega, fun H11 r11 hs11 hr110 hr11 => ?_⟩
          have hp11 := hs11 _ _ hp10
          refine ⟨_, _, _, _, rfl, rfl, hp11, hr11, ?_, ?_⟩
          · rw [List.length_map, List.length_map, MC.bitsHigh_length]
            exact line_le (by omega)
          rw [← List.map_append]
          generalize hd3 : done2 ++ bitsHigh (ld.getD (classOf (k - 1)) 0) wd2 = done3 at *
          have hd3l : done3.length ≤ done2.length + 15 := by
            rw [← hd3, List.length_append, MC.bitsHigh_length]
            omega
          have hs12 : Same H2 (upd H11 p (.lst (done3.map bV))) := same_upd (hs10.trans hs11) hp
          have hp12 : upd H11 p (.lst (done3.map bV)) p = some (.lst (done3.map bV)) := upd_same
          generalize upd H11 p (.lst (done3.map bV)) = H12 at hs12 hp12 ⊢
          have ht12 : H12 t = some (.tup (stT (.match_ l k))) := hs12 _ _ ((hst.ext eN) _ hmem)
          refine ⟨_, rfl, .inl ⟨rfl, _, .inl (.inl hp12)⟩, _, rfl, t, _, _, _, rfl, rfl, .inl (.inl ht12), rfl, _, _, rfl, rfl, k - 1, congrArg (fun x : Int => [V.int x]) ek, ?_, fun H13 r13 hs13 hr130 hr13 => ?_⟩
          · exact Nat.lt_of_lt_of_le (show k - 1 < 2 ^ 10 by omega) (Nat.pow_le_pow_right (by decide) (by decide))
          have hp13 := hs13 _ _ hp12
          refine ⟨_, _, _, _, rfl, rfl, hp13, hr13, ?_, ?_⟩
          · rw [List.length_map, List.length_map, bitsLow_length]
            exact line_le (by omega)
          rw [← List.map_append]
          have hfin : ((ss.take (i + 1)).flatMap fun x => stepBits (codeTable 265 ls) (codeTable 11 ld) x.2) = done3 ++ bitsLow (further (k - 1)) (k - 1) := by
            rw [take_succ_of hst0, List.flatMap_append, hdone, ← hd3, ← hd2, hbits, hbits2]
            simp [stepBits, symbolOf, List.append_assoc]
          refine ⟨_, _, _, rfl, same_upd (hs12.trans hs13) hp, ?_, ?_⟩
          · rw [upd_same, hfin]
          · rw [hfin, List.length_append, bitsLow_length]
            omega
        · exfalso
          apply h
          refine decide_eq_true ?_
          show (256 : Int) ≤ ((256 + classOf (l - 3) : Nat) : Int)
          omega
    · obtain ⟨v6, v7, v8, rfl, hs6, hp6, hlen⟩ := hP
      rw [show (strefs ss).length = ss.length from List.length_map .., List.take_length] at hp6 hlen
      exact ⟨_, rfl, q _ p (eN.trans (ExtN.of hs6)) (t2.ext hs6) (fresh_of eN hp) hp6 hlen⟩
end
end Sq
end
section
set_option Elab.async false
set_option maxRecDepth 100000
set_option maxHeartbeats 2000000
/-! matches: the levels. -/
namespace Sq
open PySem PySem.Spec PyProof.Rows L2 SqX LamX
open MP (MaskOk Mat Near Segs mask_join mask_near mat_run)
theorem walk_zip3 {K : PySem.W.Frag} {a b c : Addr} {xs ys zs : List V} {n : Nat} (hn : n = min xs.length (min ys.length zs.length)) : Walk (Itz3 K a b c) n (fun H => SqL K H a xs ∧ SqL K H b ys ∧ SqL K H c zs)
    (fun i H v H' => ∃ T x y z, v = .ref T ∧ H T = none ∧ H' = upd H T (.tup [x, y, z]) ∧ xs[i]? = some x ∧ ys[i]? = some y ∧ zs[i]? = some z) := by
  subst hn
  refine ⟨fun i _ hi q => ?_, fun _ q => ⟨xs, ys, zs, q.1, q.2.1, q.2.2, by omega, by omega, by omega, by omega⟩, fun i H v H' _ q y => ?_⟩
  · have h1 : i < xs.length := by omega
    have h2 : i < ys.length := by omega
    have h3 : i < zs.length := by omega
    exact ⟨xs, ys, zs, xs[i], ys[i], zs[i], q.1, q.2.1, q.2.2, by simp [h1], by simp [h2], by simp [h3]⟩
  · obtain ⟨T, x, y, z, h1, h2, h3, h4, h5, h6⟩ := y
    exact ⟨T, x, y, z, h1, h2, h3, h4 xs q.1, h5 ys q.2.1, h6 zs q.2.2⟩
def bytesV (bs : Sw.Bytes) : List V := bs.map bU
theorem bytes_get {bs : Sw.Bytes} {i : Nat} (h : i < bs.length) : (bytesV bs)[i]? = some (V.int (bs.getD i 0).toNat) := by
  unfold bytesV
  rw [List.getElem?_map, List.getElem?_eq_getElem h, List.getD_eq_getElem?_getD, List.getElem?_eq_getElem h]
  rfl
theorem arr_get (bs : Sw.Bytes) (i : Nat) : bs.toArray.getD i 0 = bs.getD i 0 := by
  simp [Array.getD_eq_getD_getElem?, List.getD_eq_getElem?_getD]
/-- the places below i with the byte, as bits -/
def wm (bs : Sw.Bytes) (c : Nat) : Nat → Nat
  | 0 => 0
  | i + 1 => wm bs c i ||| (if (bs.getD i 0).toNat = c then 2 ^ i else 0)
theorem wm_bit (bs : Sw.Bytes) (c : Nat) : ∀ i q, (wm bs c i).testBit q = true ↔ q < i ∧ (bs.getD q 0).toNat = c
  | 0, q => by simp [wm]
  | i + 1, q => by
    unfold wm
    rw [Nat.testBit_or, Bool.or_eq_true, wm_bit bs c i q]
    by_cases h : (bs.getD i 0).toNat = c
    · rw [if_pos h, Nat.testBit_two_pow, decide_eq_true_eq]
      constructor
      · rintro (⟨h1, h2⟩ | h1)
        · exact ⟨by omega, h2⟩
        · subst h1; exact ⟨by omega, h⟩
      · rintro ⟨h1, h2⟩
        by_cases e : i = q
        · exact .inr e
        · exact .inl ⟨by omega, h2⟩
    · rw [if_neg h]
      simp only [Nat.zero_testBit]
      constructor
      · rintro (⟨h1, h2⟩ | h1)
        · exact ⟨by omega, h2⟩
        · cases h1
      · rintro ⟨h1, h2⟩
        refine .inl ⟨?_, h2⟩
        rcases Nat.lt_or_ge q i with h3 | h3
        · exact h3
        · have : q = i := by omega
          subst this
          exact absurd h2 h
theorem wm_mask (bs : Sw.Bytes) {i : Nat} (hi : i < bs.length) : MaskOk bs.toArray 1 i (wm bs (bs.getD i 0).toNat bs.length) := by
  intro q
  rw [wm_bit]
  constructor
  · rintro ⟨h1, h2⟩ j hj
    obtain rfl : j = 0 := by omega
    refine ⟨by simpa using h1, ?_⟩
    rw [arr_get, arr_get]
    exact UInt8.toNat_inj.mp h2
  · intro h
    obtain ⟨h1, h2⟩ := h 0 (by omega)
    rw [arr_get, arr_get] at h2
    exact ⟨by simpa using h1, congrArg UInt8.toNat h2⟩
theorem wm_ne (bs : Sw.Bytes) {i n : Nat} (hi : i < n) : wm bs (bs.getD i 0).toNat n ≠ 0 := fun h => by
  have := (wm_bit bs (bs.getD i 0).toNat n i).mpr ⟨hi, rfl⟩
  rw [h] at this
  simp at this
theorem mask_joinG {a : Array UInt8} {w v i x y s : Nat} (hx : MaskOk a w i x) (hy : MaskOk a v (i + s) y) (hs : s ≤ w) (hw : w ≤ s + v) : MaskOk a (s + v) i (x &&& (y >>> s)) := by
  intro q
  rw [Nat.testBit_and, Nat.testBit_shiftRight, Bool.and_eq_true, hx q, Nat.add_comm s q, hy (q + s)]
  constructor
  · rintro ⟨h1, h2⟩ j hj
    by_cases c : j < w
    · exact h1 j c
    · have := h2 (j - s) (by omega)
      rw [show q + s + (j - s) = q + j by omega, show i + s + (j - s) = i + j by omega] at this
      exact this
  · intro h
    refine ⟨fun j hj => h j (by omega), fun j hj => ?_⟩
    have := h (j + s) (by omega)
    rw [show q + (j + s) = q + s + j by omega, show i + (j + s) = i + s + j by omega] at this
    exact this
theorem masks_snoc {bs : Sw.Bytes} {w j : Nat} {xs : List Nat} {y : Nat} (hl : xs.length = j) (h : ∀ i y, xs[i]? = some y → MaskOk bs.toArray w i y) (hy : MaskOk bs.toArray w j y) : ∀ i z, (xs ++ [y])[i]? = some z → MaskOk bs.toArray w i z := by
  intro i z hz
  rw [List.getElem?_append] at hz
  split at hz
  · exact h i z hz
  · rename_i hi
    have hlt := (List.getElem?_eq_some_iff.mp hz).1
    simp at hlt
    have : i = j := by omega
    subst this
    rw [hl] at hz
    simp at hz
    rw [← hz]
    exact hy
theorem natsV_get {xs : List Nat} {i : Nat} {v : V} (h : (natsV xs)[i]? = some v) : ∃ n, xs[i]? = some n ∧ v = V.int (n : Nat) := map_get h
/-- what the dict of places holds after i places -/
structure WhereOk (bs : Sw.Bytes) (i : Nat) (kvs : List (Key × V)) : Prop where
  len : kvs.length ≤ i
  none : ∀ c : Nat, wm bs c i = 0 → valV kvs (.inl (c : Int)) = Option.none
  some : ∀ c : Nat, wm bs c i ≠ 0 → valV kvs (.inl (c : Int)) = Option.some (V.int (wm bs c i : Nat))
theorem WhereOk.get {bs : Sw.Bytes} {i : Nat} {kvs : List (Key × V)} (h : WhereOk bs i kvs) (c : Nat) : (valV kvs (.inl (c : Int))).getD (V.int 0) = V.int (wm bs c i : Nat) := by
  by_cases e : wm bs c i = 0
  · rw [h.none c e, e]; rfl
  · rw [h.some c e]; rfl
theorem or_zero {a b : Nat} (h : a ||| b = 0) : a = 0 := by
  apply Nat.eq_of_testBit_eq
  intro i
  have := congrArg (fun x => x.testBit i) h
  simp only [Nat.testBit_or, Nat.zero_testBit, Bool.or_eq_false_iff] at this
  rw [this.1, Nat.zero_testBit]
theorem putK_len' (c : List (Key × V)) (k : Key) (x : V) : (putK c k x).length ≤ c.length + 1 := by
  unfold putK
  split <;> simp
theorem WhereOk.put {bs : Sw.Bytes} {i : Nat} {kvs : List (Key × V)} (h : WhereOk bs i kvs) : WhereOk bs (i + 1) (putK kvs (.inl ((bs.getD i 0).toNat : Int)) (V.int (wm bs (bs.getD i 0).toNat i ||| 2 ^ i : Nat))) := by
  have hw : ∀ c : Nat, wm bs c (i + 1) = if (bs.getD i 0).toNat = c then wm bs c i ||| 2 ^ i else wm bs c i := fun c => by
    show wm bs c i ||| (if (bs.getD i 0).toNat = c then 2 ^ i else 0) = _
    by_cases e : (bs.getD i 0).toNat = c
    · rw [if_pos e, if_pos e]
    · rw [if_neg e, if_neg e, Nat.or_zero]
  have key : ∀ c : Nat, ((.inl (c : Int) : Key) = .inl ((bs.getD i 0).toNat : Int)) ↔ (bs.getD i 0).toNat = c := fun c => by
    constructor
    · intro e; injection e with e; omega
    · intro e; rw [e]
  refine ⟨Nat.le_trans (putK_len' _ _ _) (by have := h.len; omega), fun c hc => ?_, fun c hc => ?_⟩
  · rw [valV_put]
    rw [hw c] at hc
    by_cases e : (bs.getD i 0).toNat = c
    · rw [if_pos e] at hc
      exfalso
      have : 2 ^ i = 0 := by rw [Nat.or_comm] at hc; exact or_zero hc
      have := Nat.two_pow_pos i
      omega
    · rw [if_neg e] at hc
      rw [if_neg (fun z => e ((key c).mp z))]
      exact h.none c hc
  · rw [valV_put]
    rw [hw c] at hc ⊢
    by_cases e : (bs.getD i 0).toNat = c
    · subst e
      rw [if_pos rfl, if_pos rfl]
    · rw [if_neg e] at hc ⊢
      rw [if_neg (fun z => e ((key c).mp z))]
      exact h.some c hc
/-- the masks of a width -/
def LvOk (bs : Sw.Bytes) (w : Nat) (xs : List Nat) : Prop := xs.length = bs.length + 1 - w ∧ ∀ i y, xs[i]? = some y → MaskOk bs.toArray w i y
/-- the levels from width 3 on, each where its list is -/
def Lvls (H : Hp) (bs : Sw.Bytes) (lv : List (Addr × List Nat)) : Prop := ∀ k x, lv[k]? = some x → H x.1 = some (.lst (natsV x.2)) ∧ LvOk bs (3 * 2 ^ k) x.2
theorem Lvls.same {H H' : Hp} {bs : Sw.Bytes} {lv : List (Addr × List Nat)} (h : Lvls H bs lv) (s : Same H H') : Lvls H' bs lv := fun k x hx => ⟨s _ _ (h k x hx).1, (h k x hx).2⟩
def lvrefs (lv : List (Addr × List Nat)) : List V := lv.map fun x => V.ref x.1
def sp_alike_levels (K : PySem.W.Frag) : Sp := fun vs H Q _ => ∃ (a : Addr) (bs : Sw.Bytes), vs = [.ref a] ∧ SqL K H a (bytesV bs) ∧ bs.length ≤ 1024 ∧
  ∀ H' p lv, Same H H' → H p = none → H' p = some (.lst (lvrefs lv)) → lv.length = 7 → Lvls H' bs lv → Q (.ref p) H'
section
variable {P : Program} {w : World} {K : PySem.W.Frag} {mg : Str → Option Value} {base : Heap} {c : CA} {f : Addr} {fd : FuncData}
theorem ok_alike_levels (T : Tx K mg c) (F : Fun K "alike_levels" "alike_levels" s_alike_levels f fd) : FnOk P w K mg base CX0 1 f fd ["text"] (sp_alike_levels K) := by
  refine F.ok sc_alike_levels (fun vs H Q E h => ?_) (fun cdv A outer s H vs Q E hr h => ?_)
  · obtain ⟨a, bs, rfl, _⟩ := h
    rfl
  · refine ⟨_, (pss_cons (ps_set (i := 1) sc_alike_levels.nd rfl (Or.inr rfl) pe_dnewK)
  (pss_cons (ps_for PassesOwn.never rfl (pi_enum rfl T.enumerate (pa_cons (pv 0) pa_nil)) (pg_tup rfl (pgs_cons (pg_name (i := 2) sc_alike_levels.nd rfl (Or.inl rfl)) (pgs_cons (pg_name (i := 3) sc_alike_levels.nd rfl (Or.inl rfl)) pgs_nil))) (pss_one (ps_dput (hu_of hr) (pv 1) (pv 3) (pe_op op_or (pe_dget2 (hu_of hr) (pv 1) (pv 3) pe_int ⟨rfl, rfl, rfl, rfl⟩) (pe_op op_shl pe_int (pv 2))) rfl)))
  (pss_cons (ps_setLc (i := 4) (own := [("letter", 3)]) (g := gName 3) (tt := tYes) rfl sc_alike_levels.nd rfl rfl (sw_true rfl rfl rfl (by decide +kernel)) (pi_list (pv 0)) (blkOk_by (N := ["text", "where", "place", "letter", "single", "level", "a", "b", "c", "levels", "width"]) (sc := defScope s_alike_levels) (by decide +kernel)) (fun _ _ _ _ _ => pg_name (i := 3) sc_alike_levels.nd rfl (Or.inl rfl)) (fun _ _ _ _ _ => pts_nil) (fun _ _ _ _ _ => (pe_dget (hu_of hr) (pv 1) (pv 3) (fun _ _ => rfl))))
  (pss_cons (ps_setLc (i := 5) (own := [("a", 6), ("b", 7), ("c", 8)]) (g := gTup K 3 (gCons (gName 6) (gCons (gName 7) (gCons (gName 8) (gNil))))) (tt := tYes) rfl sc_alike_levels.nd rfl rfl (sw_true rfl rfl rfl (by decide +kernel)) (pi_zip3 rfl T.zip (pa_cons (pv 4) (pa_cons (pe_slice sl_list (pv 4) (po_some pe_int) po_none) (pa_cons (pe_slice sl_list (pv 4) (po_some pe_int) po_none) pa_nil)))) (blkOk_by (N := ["text", "where", "place", "letter", "single", "level", "a", "b", "c", "levels", "width"]) (sc := defScope s_alike_levels) (by decide +kernel)) (fun _ _ _ _ _ => pg_tup rfl (pgs_cons (pg_name (i := 6) sc_alike_levels.nd rfl (Or.inl rfl)) (pgs_cons (pg_name (i := 7) sc_alike_levels.nd rfl (Or.inl rfl)) (pgs_cons (pg_name (i := 8) sc_alike_levels.nd rfl (Or.inl rfl)) pgs_nil)))) (fun _ _ _ _ _ => pts_nil) (fun _ _ _ _ _ => (pe_op op_and (pe_op op_and (pv 6) (pe_op op_shr (pv 7) pe_int)) (pe_op op_shr (pv 8) pe_int))))
  (pss_cons (ps_set (i := 9) sc_alike_levels.nd rfl (Or.inl rfl) (pe_lst (pa_cons (pv 5) pa_nil)))
  (pss_cons (ps_set (i := 10) sc_alike_levels.nd rfl (Or.inr rfl) (pe_gI rfl T.SHORTEST_MATCH))
  (pss_cons (ps_while PassesOwn.never (pt_cmpR op_le (pe_op op_mul pe_int (pv 10)) (pe_gI rfl T.LONGEST_MATCH) (nomark _)) (pss_cons (ps_setLc (i := 5) (own := [("a", 6), ("b", 7)]) (g := gTup K 2 (gCons (gName 6) (gCons (gName 7) (gNil)))) (tt := tYes) rfl sc_alike_levels.nd rfl rfl (sw_true rfl rfl rfl (by decide +kernel)) (pi_zip rfl T.zip (pa_cons (pv 5) (pa_cons (pe_slice sl_list (pv 5) (po_some (pv 10)) po_none) pa_nil))) (blkOk_by (N := ["text", "where", "place", "letter", "single", "level", "a", "b", "c", "levels", "width"]) (sc := defScope s_alike_levels) (by decide +kernel)) (fun _ _ _ _ _ => pg_tup rfl (pgs_cons (pg_name (i := 6) sc_alike_levels.nd rfl (Or.inl rfl)) (pgs_cons (pg_name (i := 7) sc_alike_levels.nd rfl (Or.inl rfl)) pgs_nil))) (fun _ _ _ _ _ => pts_nil) (fun _ _ _ _ _ => (pe_op op_and (pv 6) (pe_op op_shr (pv 7) (pv 10)))))
    (pss_cons (ps_expr (pe_bm PySem.F.plainAttrs_list PySem.F.slot_list_append PySem.F.type_list_append mt_append (pv 9) (pa_cons (pv 5) pa_nil)))
    (pss_one (ps_aug (i := 10) sc_alike_levels.nd rfl (Or.inr rfl) pe_int iop_mul)))))
  (pss_one (ps_ret (pv 9)))))))))), ?_⟩
    obtain ⟨a, bs, rfl, hS, hl, q⟩ := h
    have hbl : (bytesV bs).length = bs.length := List.length_map ..
    refine fun pw hpw => ?_
    refine ⟨_, rfl, a, _, rfl, (same_new hpw).seq hS, ?_⟩
    refine for_it (walk_enum (xs := bytesV bs)) (fun i σ H' => ∃ v2 v3 kvs, σ = [some (.ref a), some (.ref pw), v2, v3, none, none, none, none, none, none, none] ∧ Same H H' ∧ H' pw = some (.dK kvs) ∧ WhereOk bs i kvs)
      ⟨_, _, [], rfl, same_new hpw, upd_same, ⟨Nat.le_refl _, fun c _ => rfl, fun c hc => absurd rfl hc⟩⟩ (fun i σ H' _ hP => ?_) (fun i x σ H' H2 hi hP y => ?_) (fun σ H' hP => ?_)
    · obtain ⟨_, _, _, _, h, _⟩ := hP
      exact h.seq hS
    · obtain ⟨v2, v3, kvs, rfl, hs, hw, hwo⟩ := hP
      obtain ⟨t, x1, x2, rfl, ht, rfl, hx1, hx2⟩ := y
      cases hx1
      rw [hbl] at hi
      obtain rfl := Option.some.inj ((bytes_get hi).symm.trans hx2)
      have hwt : pw ≠ t := ne_of_none hw ht
      have hw2 : upd H' t (.tup [V.int (i : Nat), V.int (bs.getD i 0).toNat]) pw = some (.dK kvs) := by rw [upd_ne hwt]; exact hw
      refine ⟨t, _, rfl, .inl (.inl upd_same), rfl, _, _, rfl, _, _, rfl, rfl, ?_⟩
      refine ⟨_, rfl, pw, rfl, .inl ⟨kvs, .inl hw2⟩, _, rfl, _, .inl ⟨kvs, .inl ((bs.getD i 0).toNat : Int), .inl hw2, rfl, rfl⟩, ?_⟩
      refine ⟨_, rfl, _, _, rfl, rfl, ⟨by omega, by omega, by decide⟩, _, _, hwo.get _, rfl, _, rfl, _, rfl, pw, _, rfl, .inl ⟨kvs, .inl ((bs.getD i 0).toNat : Int), hw2, rfl, ?_, rfl⟩, ?_⟩
      · have := hwo.len
        exact line_lt (by omega)
      · have e : Builtin.bitOr ((wm bs (bs.getD i 0).toNat i : Nat) : Int) (1 * 2 ^ (((i : Nat) : Int)).toNat) = ((wm bs (bs.getD i 0).toNat i ||| 2 ^ i : Nat) : Int) := by
          rw [Int.toNat_natCast, show (1 : Int) * 2 ^ i = ((2 ^ i : Nat) : Int) by simp, or_nn]
        dsimp only
        rw [e]
        exact ⟨_, _, _, rfl, same_upd (same_made hs ht) hpw, upd_same, hwo.put⟩
    · obtain ⟨v2, v3, kvs, rfl, hs, hw, hwo⟩ := hP
      rw [hbl] at hwo
      refine ⟨_, rfl, a, rfl, ⟨bytesV bs, hs.seq hS⟩, fun D hD => lc_it (walk_list (xs := bytesV bs)) (fun j H2 => Same H' H2 ∧ ∃ xs : List Nat, H2 D = some (.lst (natsV xs)) ∧ xs.length = j ∧ ∀ i y, xs[i]? = some y → MaskOk bs.toArray 1 i y)
        ⟨same_new hD, [], upd_same, rfl, nofun⟩ (fun j H2 _ hP => (hs.trans hP.1).seq hS) (fun j x H2 H3 hj hP y => ?_) (fun H2 hP => ?_)⟩
      · obtain ⟨rfl, hx⟩ := y
        obtain ⟨hs2, xs, hd, hxl, hxm⟩ := hP
        rw [hbl] at hj
        obtain rfl := Option.some.inj ((bytes_get hj).symm.trans hx)
        refine ⟨rfl, ?_⟩
        refine ⟨_, rfl, _, rfl, pw, _, rfl, .inl ⟨kvs, .inl ((bs.getD j 0).toNat : Int), .inl (hs2 _ _ hw), rfl, (hwo.some _ (wm_ne bs hj)).symm⟩, ?_⟩
        refine ⟨natsV xs, hd, ?_, same_upd hs2 hD, xs ++ [wm bs (bs.getD j 0).toNat bs.length], ?_, ?_, ?_⟩
        · rw [natsV, List.length_map]
          exact line_lt (by omega)
        · rw [upd_same, natsV, natsV, List.map_append]
          rfl
        · rw [List.length_append, hxl]; rfl
        · intro i y hy
          rw [List.getElem?_append] at hy
          split at hy
          · exact hxm i y hy
          · rename_i hi
            have : i = j := by
              rw [hxl] at hi hy
              have := (List.getElem?_eq_some_iff.mp hy).1
              simp at this
              omega
            subst this
            rw [hxl] at hy
            simp at hy
            rw [← hy]
            have := wm_mask bs hj
            rw [List.getD_eq_getElem?_getD] at this
            exact this
      · obtain ⟨hs2, single, hd, hxl, hxm⟩ := hP
        rw [hbl] at hxl
        have hsg := hs.trans hs2
        have hsl : (natsV single).length = single.length := List.length_map ..
        refine ⟨_, rfl, _, rfl, _, rfl, _, _, rfl, .inl (.inl hd), fun r1 hr1 => ?_⟩
        rw [show cutV (natsV single) (some 1) none = (natsV single).drop 1 from cut_drop _ 1]
        have hd1 := same_new (o := .lst ((natsV single).drop 1)) hr1 _ _ hd
        have hsg1 := same_made (o := .lst ((natsV single).drop 1)) hsg hr1
        have hr1' : upd H2 r1 (.lst ((natsV single).drop 1)) r1 = some (.lst ((natsV single).drop 1)) := upd_same
        generalize upd H2 r1 (.lst ((natsV single).drop 1)) = H3 at hd1 hsg1 hr1' ⊢
        refine ⟨_, rfl, _, rfl, _, _, rfl, .inl (.inl hd1), fun r2 hr2 => ?_⟩
        rw [show cutV (natsV single) (some 2) none = (natsV single).drop 2 from cut_drop _ 2]
        have hd2 := same_new (o := .lst ((natsV single).drop 2)) hr2 _ _ hd1
        have hsg2 := same_made (o := .lst ((natsV single).drop 2)) hsg1 hr2
        have hr12 := same_new (o := .lst ((natsV single).drop 2)) hr2 _ _ hr1'
        have hr22 : upd H3 r2 (.lst ((natsV single).drop 2)) r2 = some (.lst ((natsV single).drop 2)) := upd_same
        generalize upd H3 r2 (.lst ((natsV single).drop 2)) = H4 at hd2 hsg2 hr12 hr22 ⊢
        have hzn : single.length - 2 = min (natsV single).length (min ((natsV single).drop 1).length ((natsV single).drop 2).length) := by
          rw [List.length_drop, List.length_drop, hsl]; omega
        refine ⟨_, _, _, _, _, _, rfl, .inl (.inl hd2), .inl (.inl hr12), .inl (.inl hr22), fun D3 hD3 => lc_it (walk_zip3 hzn) (fun j H5 => Same H4 H5 ∧ ∃ xs : List Nat, H5 D3 = some (.lst (natsV xs)) ∧ xs.length = j ∧ ∀ i y, xs[i]? = some y → MaskOk bs.toArray 3 i y)
          ⟨same_new hD3, [], upd_same, rfl, nofun⟩ (fun j H5 _ hP => ⟨.inl (.inl (hP.1 _ _ hd2)), .inl (.inl (hP.1 _ _ hr12)), .inl (.inl (hP.1 _ _ hr22))⟩) (fun j x H5 H6 hj hP y => ?_) (fun H5 hP => ?_)⟩
        · obtain ⟨t, x1, x2, x3, rfl, ht, rfl, hx1, hx2, hx3⟩ := y
          obtain ⟨hs5, xs, hd5, hxl5, hxm5⟩ := hP
          rw [List.getElem?_drop] at hx2 hx3
          obtain ⟨n1, hn1, rfl⟩ := natsV_get hx1
          obtain ⟨n2, hn2, rfl⟩ := natsV_get hx2
          obtain ⟨n3, hn3, rfl⟩ := natsV_get hx3
          have hDt := ne_of_none hd5 ht
          refine ⟨t, _, rfl, .inl (.inl upd_same), rfl, _, _, rfl, _, _, rfl, _, _, rfl, rfl, ?_⟩
          refine ⟨rfl, ?_⟩
          refine ⟨_, rfl, _, rfl, _, _, rfl, rfl, by omega, _, _, rfl, rfl, _, rfl, _, _, rfl, rfl, by omega, _, _, rfl, rfl, ?_⟩
          have e : Builtin.bitAnd (Builtin.bitAnd ((n1 : Nat) : Int) (((n2 : Nat) : Int) / 2 ^ (Int.toNat 1))) (((n3 : Nat) : Int) / 2 ^ (Int.toNat 2)) = ((n1 &&& (n2 >>> 1) &&& (n3 >>> 2) : Nat) : Int) := by
            rw [show Int.toNat 1 = 1 from rfl, show Int.toNat 2 = 2 from rfl, shr_nn, shr_nn, and_nn, and_nn]
          dsimp only
          rw [e]
          refine ⟨natsV xs, by rw [upd_ne hDt]; exact hd5, ?_, same_upd (same_made hs5 ht) hD3, xs ++ [n1 &&& (n2 >>> 1) &&& (n3 >>> 2)], ?_, ?_, ?_⟩
          · rw [natsV, List.length_map]
            exact line_lt (by omega)
          · rw [upd_same, natsV, natsV, List.map_append]
            rfl
          · rw [List.length_append, hxl5]; rfl
          · refine masks_snoc hxl5 hxm5 ?_
            have m1 := mask_joinG (s := 1) (hxm _ _ hn1) (by have := hxm _ _ hn2; rwa [Nat.add_comm 1 j] at this) (by omega) (by omega)
            exact mask_joinG (s := 2) m1 (by have := hxm _ _ hn3; rwa [Nat.add_comm 2 j] at this) (by omega) (by omega)
        · obtain ⟨hs5, lv0, hd5, hxl5, hxm5⟩ := hP
          have hsg5 := hsg2.trans hs5
          refine ⟨_, rfl, by show 1 ≤ _; decide, fun p hp => ?_⟩
          have hp0 : H p = none := hsg5.free hp
          have h00 := same_new (o := .lst [V.ref D3]) hp _ _ hd5
          have hs6 := same_made (o := .lst [V.ref D3]) hsg5 hp
          have hp6 : upd H5 p (.lst [V.ref D3]) p = some (.lst [V.ref D3]) := upd_same
          generalize upd H5 p (.lst [V.ref D3]) = H6 at h00 hs6 hp6 ⊢
          refine ⟨fun m σ H' => ∃ (lv : List (Addr × List Nat)) (l : Addr × List Nat) (v2 v3 v6 v7 v8 : Option V), σ = [some (.ref a), some (.ref pw), v2, v3, some (.ref D), some (.ref l.1), v6, v7, v8, some (.ref p), some (.int (3 * 2 ^ (lv.length - 1) : Nat))] ∧ Same H H' ∧ H' p = some (.lst (lvrefs lv)) ∧
            Lvls H' bs lv ∧ lv[lv.length - 1]? = some l ∧ 1 ≤ lv.length ∧ lv.length ≤ 7 ∧ m = 7 - lv.length ∧ ∀ x ∈ lv, x.1 ≠ p, ⟨6, [(D3, lv0)], (D3, lv0), _, _, _, _, _, rfl, hs6, hp6, ?_, rfl, Nat.le_refl 1, by show 1 ≤ 7; decide, rfl, ?_⟩, fun m σ H7 hW => ?_⟩
          · intro k x hx
            match k, hx with
            | 0, hx =>
              obtain rfl : (D3, lv0) = x := by simpa using hx
              exact ⟨h00, by rw [hxl5, hxl]; rfl, hxm5⟩
            | k + 1, hx => simp at hx
          · intro x hx
            rw [List.mem_singleton.mp hx]
            exact ne_of_none hd5 hp
          · obtain ⟨lv, l, v2, v3, v6, v7, v8, rfl, hs7, hp7, hlv, hlast, hl1, hl7, hm, hne⟩ := hW
            obtain ⟨hlH, hlL, hlM⟩ := hlv _ _ hlast
            have h2w : ((2 : Int) * ((3 * 2 ^ (lv.length - 1) : Nat) : Int)) = ((3 * 2 ^ lv.length : Nat) : Int) := by
              obtain ⟨k, hk⟩ : ∃ k, lv.length = k + 1 := ⟨lv.length - 1, by omega⟩
              rw [hk, Nat.add_sub_cancel, Nat.pow_succ]
              omega
            have hw192 : 3 * 2 ^ (lv.length - 1) ≤ 192 := by
              have : 2 ^ (lv.length - 1) ≤ 2 ^ 6 := Nat.pow_le_pow_right (by decide) (by omega)
              omega
            refine ⟨_, rfl, _, _, rfl, rfl, .inl ⟨by decide, by decide⟩, ?_⟩
            dsimp only
            rw [h2w]
            refine ⟨_, _, rfl, rfl, _, rfl, ?_⟩
            refine ite2 (fun h => ?_) (fun h => ?_)
            · have hlt : lv.length < 7 := by
                have h2 := of_decide_eq_true h
                rcases Nat.lt_or_ge lv.length 7 with h3 | h3
                · exact h3
                · have : 2 ^ 7 ≤ 2 ^ lv.length := Nat.pow_le_pow_right (by decide) h3
                  have : (2 : Nat) ^ 7 = 128 := by decide
                  omega
              refine ⟨fun σ' H' => ∃ m', m' < m ∧ ∃ (lv : List (Addr × List Nat)) (l : Addr × List Nat) (v2 v3 v6 v7 v8 : Option V), σ' = [some (.ref a), some (.ref pw), v2, v3, some (.ref D), some (.ref l.1), v6, v7, v8, some (.ref p), some (.int (3 * 2 ^ (lv.length - 1) : Nat))] ∧ Same H H' ∧ H' p = some (.lst (lvrefs lv)) ∧
                Lvls H' bs lv ∧ lv[lv.length - 1]? = some l ∧ 1 ≤ lv.length ∧ lv.length ≤ 7 ∧ m' = 7 - lv.length ∧ ∀ x ∈ lv, x.1 ≠ p, fun _ _ h => h, ?_⟩
              have hll : (natsV l.2).length = l.2.length := List.length_map ..
              refine ⟨_, rfl, _, rfl, _, rfl, _, rfl, _, _, rfl, .inl (.inl hlH), fun r hr => ?_⟩
              rw [cut_drop]
              have hd8 := same_new (o := .lst ((natsV l.2).drop (3 * 2 ^ (lv.length - 1)))) hr _ _ hlH
              have hr8 : upd H7 r (.lst ((natsV l.2).drop (3 * 2 ^ (lv.length - 1)))) r = some (.lst ((natsV l.2).drop (3 * 2 ^ (lv.length - 1)))) := upd_same
              have hsn := same_new (o := .lst ((natsV l.2).drop (3 * 2 ^ (lv.length - 1)))) hr
              generalize upd H7 r (.lst ((natsV l.2).drop (3 * 2 ^ (lv.length - 1)))) = H8 at hd8 hr8 hsn ⊢
              have hzn2 : l.2.length - 3 * 2 ^ (lv.length - 1) = min (natsV l.2).length ((natsV l.2).drop (3 * 2 ^ (lv.length - 1))).length := by
                rw [List.length_drop, hll]; omega
              refine ⟨_, _, _, _, rfl, .inl (.inl hd8), .inl (.inl hr8), fun D4 hD4 => lc_it (walk_zip hzn2) (fun j H5 => Same H8 H5 ∧ ∃ xs : List Nat, H5 D4 = some (.lst (natsV xs)) ∧ xs.length = j ∧ ∀ i y, xs[i]? = some y → MaskOk bs.toArray (3 * 2 ^ lv.length) i y)
                ⟨same_new hD4, [], upd_same, rfl, nofun⟩ (fun j H5 _ hP => ⟨.inl (.inl (hP.1 _ _ hd8)), .inl (.inl (hP.1 _ _ hr8))⟩) (fun j x H9 H10 hj hP y => ?_) (fun H9 hP => ?_)⟩
              · obtain ⟨t, x1, x2, rfl, ht, rfl, hx1, hx2⟩ := y
                obtain ⟨hs9, xs, hd9, hxl9, hxm9⟩ := hP
                have hx2 : ((natsV l.2).drop (3 * 2 ^ (lv.length - 1)))[j]? = some x2 := hx2
                rw [List.getElem?_drop] at hx2
                obtain ⟨n1, hn1, rfl⟩ := natsV_get hx1
                obtain ⟨n2, hn2, rfl⟩ := natsV_get hx2
                have hDt := ne_of_none hd9 ht
                have hln := (List.getElem?_eq_some_iff.mp hn1).1
                refine ⟨t, _, rfl, .inl (.inl upd_same), rfl, _, _, rfl, _, _, rfl, rfl, ?_⟩
                refine ⟨rfl, ?_⟩
                refine ⟨_, rfl, _, rfl, _, rfl, _, _, rfl, rfl, by omega, _, _, rfl, rfl, ?_⟩
                have e : Builtin.bitAnd ((n1 : Nat) : Int) (((n2 : Nat) : Int) / 2 ^ (((3 * 2 ^ (lv.length - 1) : Nat) : Int)).toNat) = ((n1 &&& (n2 >>> (3 * 2 ^ (lv.length - 1))) : Nat) : Int) := by
                  rw [Int.toNat_natCast, shr_nn, and_nn]
                dsimp only
                rw [e]
                refine ⟨natsV xs, by rw [upd_ne hDt]; exact hd9, ?_, same_upd (same_made hs9 ht) hD4, xs ++ [n1 &&& (n2 >>> (3 * 2 ^ (lv.length - 1)))], ?_, ?_, ?_⟩
                · rw [natsV, List.length_map]
                  exact line_lt (by omega)
                · rw [upd_same, natsV, natsV, List.map_append]
                  rfl
                · rw [List.length_append, hxl9]; rfl
                · refine masks_snoc hxl9 hxm9 ?_
                  have m1 := mask_joinG (s := 3 * 2 ^ (lv.length - 1)) (hlM _ _ hn1) (by have := hlM _ _ hn2; rwa [Nat.add_comm _ j] at this) (by omega) (by omega)
                  rw [show 3 * 2 ^ lv.length = 3 * 2 ^ (lv.length - 1) + 3 * 2 ^ (lv.length - 1) by omega]
                  exact m1
              · obtain ⟨hs9, xs, hd9, hxl9, hxm9⟩ := hP
                have hs79 := hsn.trans hs9
                have hp9 := hs79 _ _ hp7
                have hD4p : D4 ≠ p := fun z => by
                  rw [z] at hD4
                  have := hsn _ _ hp7
                  rw [hD4] at this
                  cases this
                refine ⟨_, rfl, .inl ⟨rfl, _, .inl (.inl hp9)⟩, _, rfl, _, _, _, rfl, rfl, hp9, ?_, ?_⟩
                · rw [lvrefs, List.length_map]
                  exact line_lt (by omega)
                · refine ⟨_, rfl, _, _, rfl, rfl, .inr ⟨by decide, by decide⟩, ?_⟩
                  refine ⟨m - 1, by omega, lv ++ [(D4, xs)], (D4, xs), v2, v3, v6, v7, v8, ?_, same_upd (hs7.trans hs79) hp0, ?_, ?_, ?_, ?_, ?_, ?_, ?_⟩
                  · have e3 : ((3 * 2 ^ (lv.length - 1) : Nat) : Int) * 2 = ((3 * 2 ^ ((lv ++ [(D4, xs)]).length - 1) : Nat) : Int) := by
                      rw [List.length_append, List.length_singleton, Nat.add_sub_cancel]
                      omega
                    dsimp only
                    rw [e3]
                    rfl
                  · rw [upd_same, lvrefs, lvrefs, List.map_append]
                    rfl
                  · intro k x hx
                    rw [List.getElem?_append] at hx
                    split at hx
                    · obtain ⟨k1, k2⟩ := hlv k x hx
                      refine ⟨?_, k2⟩
                      rw [upd_ne (hne x (List.mem_of_getElem? hx))]
                      exact hs79 _ _ k1
                    · have hk := (List.getElem?_eq_some_iff.mp hx).1
                      simp at hk
                      have hk2 : k = lv.length := by omega
                      subst hk2
                      simp at hx
                      subst hx
                      refine ⟨by rw [upd_ne hD4p]; exact hd9, ?_, hxm9⟩
                      rw [hxl9, hlL]
                      have : 3 * 2 ^ lv.length = 3 * 2 ^ (lv.length - 1) + 3 * 2 ^ (lv.length - 1) := by omega
                      omega
                  · simp
                  · rw [List.length_append]; omega
                  · rw [List.length_append, List.length_singleton]; omega
                  · rw [List.length_append, List.length_singleton]; omega
                  · intro x hx
                    rcases List.mem_append.mp hx with h1 | h1
                    · exact hne x h1
                    · rw [List.mem_singleton.mp h1]
                      exact hD4p
            · have h7 : lv.length = 7 := by
                rcases Nat.lt_or_ge lv.length 7 with h3 | h3
                · exfalso
                  apply h
                  refine decide_eq_true ?_
                  have : 2 ^ lv.length ≤ 2 ^ 6 := Nat.pow_le_pow_right (by decide) (by omega)
                  have : (2 : Nat) ^ 6 = 64 := by decide
                  omega
                · omega
              refine ⟨_, rfl, q _ p lv hs7 hp0 hp7 h7 hlv⟩
end
end Sq
end
section
set_option Elab.async false
set_option maxRecDepth 100000
set_option maxHeartbeats 2000000
/-! matches: at a place. -/
namespace Sq
open PySem PySem.Spec PyProof.Rows L2 SqX LamX
open MP (MaskOk Mat Near Segs mask_join mask_near mat_run)
/-- the level of a length: 3 times 2^lvN fits it, twice that doesn't -/
def lvN (L : Nat) : Nat := Nat.log2 (L / 3)
theorem lvN_ok {L : Nat} (h3 : 3 ≤ L) (h258 : L ≤ 258) : lvN L < 7 ∧ 3 * 2 ^ lvN L ≤ L ∧ L < 2 * (3 * 2 ^ lvN L) ∧ Builtin.Int.intBits ((L / 3 : Nat) : Int) = lvN L + 1 := by
  have h0 : L / 3 ≠ 0 := by omega
  unfold lvN
  have h1 : Nat.log2 (L / 3) < 7 := (Nat.log2_lt h0).mpr (by omega)
  have h2 : 2 ^ Nat.log2 (L / 3) ≤ L / 3 := Nat.log2_self_le h0
  have h4 : L / 3 < 2 ^ (Nat.log2 (L / 3) + 1) := Nat.lt_log2_self
  rw [Nat.pow_succ] at h4
  refine ⟨h1, by omega, by omega, ?_⟩
  rw [bits_nn, if_neg h0]
/-- what is asked of the place that's told as the nearest: below 0 where there is none -/
def NearAns (bs : Sw.Bytes) (i L : Nat) (z : Int) : Prop := (z = -1 ∧ ∀ d, 1 ≤ d → d ≤ i → ¬ Mat bs.toArray i d L) ∨ ∃ q : Nat, z = q ∧ q < i ∧ Near bs.toArray i L (i - q)
def sp_nearest_before : Sp := fun vs H Q _ => ∃ (p : Addr) (bs : Sw.Bytes) (lv : List (Addr × List Nat)) (i L : Nat), vs = [.ref p, .int i, .int L] ∧ H p = some (.lst (lvrefs lv)) ∧ lv.length = 7 ∧ Lvls H bs lv ∧ 3 ≤ L ∧ L ≤ 258 ∧ i + L ≤ bs.length ∧ bs.length ≤ 1024 ∧
  ∀ z, NearAns bs i L z → Q (.int z) H
def sp_same_until (K : PySem.W.Frag) : Sp := fun vs H Q _ => ∃ (a : Addr) (bs : Sw.Bytes) (i d : Nat), vs = [.ref a, .int i, .int d] ∧ SqL K H a (bytesV bs) ∧ 1 ≤ d ∧ d ≤ i ∧ i ≤ bs.length ∧
  ∀ e : Nat, i ≤ e → e ≤ bs.length → (∀ q, i ≤ q → q < e → bs.toArray.getD q 0 = bs.toArray.getD (q - d) 0) → (e = bs.length ∨ bs.toArray.getD e 0 ≠ bs.toArray.getD (e - d) 0) → Q (.int e) H
section
variable {P : Program} {w : World} {K : PySem.W.Frag} {mg : Str → Option Value} {base : Heap} {c : CA} {f : Addr} {fd : FuncData}
theorem ok_nearest_before (T : Tx K mg c) (F : Fun K "nearest_before" "nearest_before" s_nearest_before f fd) : FnOk P w K mg base CX0 1 f fd ["levels", "place", "length"] sp_nearest_before := by
  refine F.ok sc_nearest_before (fun vs H Q E h => ?_) (fun cdv A outer s H vs Q E hr h => ?_)
  · obtain ⟨p, bs, lv, i, L, rfl, _⟩ := h
    rfl
  · refine ⟨_, (pss_cons (ps_set (i := 3) sc_nearest_before.nd rfl (Or.inl rfl) (pe_op op_sub (pe_bits (pe_op op_fdivN (pv 2) (pe_gI rfl T.SHORTEST_MATCH))) pe_int))
  (pss_cons (ps_set (i := 4) sc_nearest_before.nd rfl (Or.inl rfl) (pe_ix (ix_list : IxR _ (rIxL K)) (pv 0) (pv 3) (fun _ _ => rfl)))
  (pss_cons (ps_set (i := 5) sc_nearest_before.nd rfl (Or.inl rfl) (pe_op op_sub (pv 2) (pe_op op_shl (pe_gI rfl T.SHORTEST_MATCH) (pv 3))))
  (pss_cons (ps_set (i := 6) sc_nearest_before.nd rfl (Or.inl rfl) (pe_op op_and (pe_op op_and (pe_ix (ix_list : IxR _ (rIxL K)) (pv 4) (pv 1) (fun _ _ => rfl)) (pe_op op_shr (pe_ix (ix_list : IxR _ (rIxL K)) (pv 4) (pe_op op_add (pv 1) (pv 5)) (fun _ _ => rfl)) (pv 5))) (pe_op op_sub (pe_op op_shl pe_int (pv 1)) pe_int)))
  (pss_one (ps_ret (pe_op op_sub (pe_bits (pv 6)) pe_int))))))), ?_⟩
    obtain ⟨p, bs, lv, i, L, rfl, hp, h7, hlv, h3, h258, hil, hbl, q⟩ := h
    obtain ⟨hk7, hk1, hk2, hkb⟩ := lvN_ok h3 h258
    have hg : lv[lvN L]? = some (lv[lvN L]'(by omega)) := List.getElem?_eq_getElem (by omega)
    generalize lv[lvN L]'(by omega) = x at hg
    obtain ⟨hx, hxl, hxm⟩ := hlv _ _ hg
    have efd : ((L : Nat) : Int).fdiv 3 = ((L / 3 : Nat) : Int) := by
      rw [Int.fdiv_eq_ediv_of_nonneg _ (by decide)]
      omega
    refine ⟨_, rfl, _, _, rfl, rfl, ⟨by decide, by decide⟩, ?_⟩
    dsimp only
    rw [efd]
    refine ⟨_, rfl, ?_⟩
    rw [hkb]
    refine ⟨_, _, rfl, rfl, ?_⟩
    dsimp only
    rw [show ((lvN L + 1 : Nat) : Int) - 1 = ((lvN L : Nat) : Int) by omega]
    refine ⟨_, rfl, _, rfl, p, _, _, _, rfl, rfl, .inl (.inl hp), at_of rfl (by rw [lvrefs, List.getElem?_map, hg]; rfl), ?_⟩
    refine ⟨_, rfl, _, rfl, _, _, rfl, rfl, ⟨by omega, by omega, by decide⟩, _, _, rfl, rfl, ?_⟩
    have esh : ((L : Nat) : Int) - 3 * 2 ^ (((lvN L : Nat) : Int)).toNat = ((L - 3 * 2 ^ lvN L : Nat) : Int) := by
      rw [Int.toNat_natCast, show (3 : Int) * 2 ^ lvN L = ((3 * 2 ^ lvN L : Nat) : Int) by simp]
      omega
    dsimp only
    rw [esh]
    generalize hsh : L - 3 * 2 ^ lvN L = sh
    have hi1 : i < x.2.length := by omega
    have hi2 : i + sh < x.2.length := by omega
    have e1 : ((i : Nat) : Int) + ((sh : Nat) : Int) = ((i + sh : Nat) : Int) := by omega
    refine ⟨_, rfl, _, rfl, x.1, _, _, _, rfl, rfl, .inl (.inl hx), at_of rfl (nat_get hi1), _, rfl, _, rfl, _, rfl, _, _, rfl, rfl, x.1, _, _, _, rfl, rfl, .inl (.inl hx), at_of e1 (nat_get hi2), _, rfl, _, _, rfl, rfl, by omega, _, _, rfl, rfl, ?_⟩
    refine ⟨_, rfl, _, _, rfl, rfl, ⟨by omega, by omega, by decide⟩, _, _, rfl, rfl, _, _, rfl, rfl, ?_⟩
    have g1 : x.2[i]? = some (x.2.getD i 0) := by rw [List.getD_eq_getElem?_getD, List.getElem?_eq_getElem hi1]; rfl
    have g2 : x.2[i + sh]? = some (x.2.getD (i + sh) 0) := by rw [List.getD_eq_getElem?_getD, List.getElem?_eq_getElem hi2]; rfl
    have hm := mask_joinG (s := sh) (hxm _ _ g1) (hxm _ _ g2) (by omega) (by omega)
    rw [show sh + 3 * 2 ^ lvN L = L by omega] at hm
    generalize x.2.getD i 0 = n1 at hm ⊢
    generalize x.2.getD (i + sh) 0 = n2 at hm ⊢
    have e2 : Builtin.bitAnd (Builtin.bitAnd ((n1 : Nat) : Int) (((n2 : Nat) : Int) / 2 ^ (((sh : Nat) : Int)).toNat)) (1 * 2 ^ (((i : Nat) : Int)).toNat - 1) = ((n1 &&& (n2 >>> sh) &&& (2 ^ i - 1) : Nat) : Int) := by
      rw [Int.toNat_natCast, Int.toNat_natCast, shr_nn, and_nn, show (1 : Int) * 2 ^ i - 1 = ((2 ^ i - 1 : Nat) : Int) by
        have := Nat.two_pow_pos i
        rw [Int.one_mul, Int.natCast_sub (by omega)]
        simp, and_nn]
    dsimp only
    rw [e2]
    obtain ⟨hz0, hz1⟩ := mask_near hm (by simpa using hil)
    generalize n1 &&& (n2 >>> sh) &&& (2 ^ i - 1) = z at hz0 hz1 ⊢
    refine ⟨_, rfl, _, rfl, _, _, rfl, rfl, ?_⟩
    rw [bits_nn]
    by_cases hz : z = 0
    · rw [if_pos hz]
      exact q _ (.inl ⟨rfl, hz0 hz⟩)
    · rw [if_neg hz]
      obtain ⟨h1, h2⟩ := hz1 hz
      dsimp only
      exact q _ (.inr ⟨Nat.log2 z, by omega, h1, h2⟩)
theorem bU_inj {x y : UInt8} : decide (V.int (x.toNat : Nat) = V.int (y.toNat : Nat)) = decide (x = y) := by
  rw [dec_int, Bool.eq_iff_iff]
  simp
  exact ⟨fun h => UInt8.toNat_inj.mp (by omega), fun h => by rw [h]⟩
theorem ok_same_until (T : Tx K mg c) (F : Fun K "same_until" "same_until" s_same_until f fd) : FnOk P w K mg base CX0 1 f fd ["text", "place", "distance"] (sp_same_until K) := by
  refine F.ok sc_same_until (fun vs H Q E h => ?_) (fun cdv A outer s H vs Q E hr h => ?_)
  · obtain ⟨p, bs, i, d, rfl, _⟩ := h
    rfl
  · refine ⟨_, (pss_cons (ps_while PassesOwn.never (PW.pt (pw_and (pt_cmpR op_lt (pv 1) (pe_callB call_len_seq (by rfl) T.len (by decide +kernel) (pa_cons (pv 0) pa_nil)) (nomark _)) (pw_and1 (pt_cmpR op_eq (pe_ix (ix_list : IxR _ (rIxL K)) (pv 0) (pv 1) (fun _ _ => rfl)) (pe_ix (ix_list : IxR _ (rIxL K)) (pv 0) (pe_op op_sub (pv 1) (pv 2)) (fun _ _ => rfl)) (nomark _))))) (pss_one (ps_aug (i := 1) sc_same_until.nd rfl (Or.inl rfl) pe_int ip_add)))
  (pss_one (ps_ret (pv 1)))), ?_⟩
    obtain ⟨a, bs, i, d, rfl, hS, hd1, hd2, hi, q⟩ := h
    have hbl : (bytesV bs).length = bs.length := List.length_map ..
    refine ⟨fun m σ H' => ∃ e : Nat, σ = [some (.ref a), some (.int e), some (.int d)] ∧ H' = H ∧ i ≤ e ∧ e + m = bs.length ∧ ∀ q, i ≤ q → q < e → bs.toArray.getD q 0 = bs.toArray.getD (q - d) 0, ⟨bs.length - i, i, rfl, rfl, Nat.le_refl _, by omega, fun q h1 h2 => by omega⟩, fun m σ H' hW => ?_⟩
    obtain ⟨e, rfl, rfl, hie, hem, hall⟩ := hW
    refine ⟨_, rfl, _, rfl, _, _, rfl, .inl hS, _, _, rfl, rfl, _, rfl, ?_⟩
    refine ite2 (fun h1 => ?_) (fun h1 => ?_)
    · have h1' : e < bs.length := by
        have := of_decide_eq_true h1
        rw [hbl] at this
        omega
      have ed : ((e : Nat) : Int) - ((d : Nat) : Int) = ((e - d : Nat) : Int) := by omega
      refine ⟨_, rfl, _, rfl, a, _, _, _, rfl, rfl, hS, at_of rfl (bytes_get h1'), _, rfl, _, rfl, _, rfl, _, _, rfl, rfl, a, _, _, _, rfl, rfl, hS, at_of ed (bytes_get (by omega)), rfl, _, rfl, ?_⟩
      rw [bU_inj]
      refine ite2 (fun h2 => ?_) (fun h2 => ?_)
      · have h2 := of_decide_eq_true h2
        refine ⟨fun σ' H'' => ∃ m', m' < m ∧ ∃ e : Nat, σ' = [some (.ref a), some (.int e), some (.int d)] ∧ H'' = H' ∧ i ≤ e ∧ e + m' = bs.length ∧ ∀ q, i ≤ q → q < e → bs.toArray.getD q 0 = bs.toArray.getD (q - d) 0, fun _ _ h => h, ?_⟩
        refine ⟨_, rfl, _, _, rfl, rfl, m - 1, by omega, e + 1, rfl, rfl, by omega, by omega, fun q h3 h4 => ?_⟩
        rcases Nat.lt_or_ge q e with h | h
        · exact hall q h3 h
        · have : q = e := by omega
          subst this
          rw [arr_get, arr_get]
          exact h2
      · refine ⟨_, rfl, q e hie (by omega) hall (.inr fun z => h2 (decide_eq_true ?_))⟩
        rw [arr_get, arr_get] at z
        exact z
    · have h1' : ¬ e < bs.length := fun h => h1 (decide_eq_true (by rw [hbl]; omega))
      exact ⟨_, rfl, q e hie (by omega) hall (.inl (by omega))⟩
end
/-- of each distance up to where it was last followed -/
structure EndsOk (bs : Sw.Bytes) (i : Nat) (E : List Nat) : Prop where
  len : E.length = bs.length
  run : ∀ d, 1 ≤ d → d < bs.length → i < E.getD d 0 → E.getD d 0 ≤ bs.length ∧ (∀ q, i ≤ q → q < E.getD d 0 → bs.toArray.getD q 0 = bs.toArray.getD (q - d) 0) ∧ (E.getD d 0 = bs.length ∨ bs.toArray.getD (E.getD d 0) 0 ≠ bs.toArray.getD (E.getD d 0 - d) 0)
theorem EndsOk.next {bs : Sw.Bytes} {i : Nat} {E : List Nat} (h : EndsOk bs i E) : EndsOk bs (i + 1) E :=
  ⟨h.len, fun d h1 h2 h3 => by
    obtain ⟨a, b, c⟩ := h.run d h1 h2 (by omega)
    exact ⟨a, fun q h4 h5 => b q (by omega) h5, c⟩⟩
theorem EndsOk.start (bs : Sw.Bytes) : EndsOk bs 0 (List.replicate bs.length 0) :=
  ⟨List.length_replicate .., fun d _ h2 h3 => by
    rw [List.getD_eq_getElem?_getD, List.getElem?_replicate, if_pos h2] at h3
    exact absurd h3 (by decide)⟩
theorem getD_set (E : List Nat) (d e k : Nat) (hd : d < E.length) : (E.set d e).getD k 0 = if d = k then e else E.getD k 0 := by
  rw [List.getD_eq_getElem?_getD, List.getElem?_set, List.getD_eq_getElem?_getD]
  by_cases h : d = k
  · subst h
    rw [if_pos rfl, if_pos rfl, if_pos hd]; rfl
  · rw [if_neg h, if_neg h]
/-- a branch or none, then the rest: the rest once -/
theorem if_rest {c : Bool} {A : Prop} {G : Hp → Prop} {H1 : Hp} (R : Hp → Prop) (rest : ∀ H2, R H2 → G H2) (h1 : c = true → (∀ H2, R H2 → G H2) → A) (h2 : ¬ c = true → R H1) : if c = true then A else G H1 := by
  by_cases h : c = true
  · rw [if_pos h]
    exact h1 h rest
  · rw [if_neg h]
    exact rest _ (h2 h)
abbrev Pr2 := Addr × Nat × Nat
def prrefs (ps : List Pr2) : List V := ps.map fun x => V.ref x.1
def Prs (H : Hp) (ps : List Pr2) : Prop := ∀ x ∈ ps, H x.1 = some (.tup [.int x.2.1, .int x.2.2])
theorem sqL_ne {K : PySem.W.Frag} {H H' : Hp} {a p : Addr} {xs : List V} (h : SameBut p H H') (ha : a ≠ p) (hS : SqL K H a xs) : SqL K H' a xs := by
  rcases hS with (e | ⟨o, e⟩) | e
  · exact .inl (.inl (h a _ ha e))
  · exact .inl (.inr ⟨o, h a _ ha e⟩)
  · exact .inr e
theorem SameBut.refl (p : Addr) (H : Hp) : SameBut p H H := fun _ _ _ e => e
theorem SameBut.trans {p : Addr} {H H1 H2 : Hp} (h : SameBut p H H1) (k : SameBut p H1 H2) : SameBut p H H2 := fun b o hb e => k b o hb (h b o hb e)
theorem SameBut.of {p : Addr} {H H1 : Hp} (h : Same H H1) : SameBut p H H1 := fun b o _ e => h b o e
theorem SameBut.put {p : Addr} {H H1 : Hp} {o : HO} (h : SameBut p H H1) : SameBut p H (upd H1 p o) := fun b u hb e => by rw [upd_ne hb]; exact h b u hb e
theorem SameBut.made {p q : Addr} {H H1 : Hp} {o : HO} (h : SameBut p H H1) (hq : H q = none) : SameBut p H (upd H1 q o) := fun b u hb e => by rw [upd_ne (ne_of_none e hq)]; exact h b u hb e
theorem SameBut.free {p q : Addr} {H H1 : Hp} (h : SameBut p H H1) (hq : q ≠ p) (e : H1 q = none) : H q = none := by
  cases k : H q with
  | none => rfl
  | some o => rw [h q o hq k] at e; cases e
theorem Lvls.but {H H' : Hp} {bs : Sw.Bytes} {lv : List (Addr × List Nat)} {p : Addr} (h : Lvls H bs lv) (s : SameBut p H H') (hp : ∀ x ∈ lv, x.1 ≠ p) : Lvls H' bs lv := fun k x hx => ⟨s _ _ (hp x (List.mem_of_getElem? hx)) (h k x hx).1, (h k x hx).2⟩
def sp_matches_at (K : PySem.W.Frag) : Sp := fun vs H Q _ => ∃ (a p e : Addr) (bs : Sw.Bytes) (lv : List (Addr × List Nat)) (E : List Nat) (i : Nat), vs = [.ref a, .ref p, .ref e, .int i] ∧ (∀ H', SameBut e H H' → SqL K H' a (bytesV bs)) ∧ H p = some (.lst (lvrefs lv)) ∧ lv.length = 7 ∧ Lvls H bs lv ∧
  H e = some (.lst (natsV E)) ∧ EndsOk bs i E ∧ p ≠ e ∧ (∀ x ∈ lv, x.1 ≠ e) ∧ i < bs.length ∧ bs.length ≤ 1024 ∧
  ∀ H' r ps E', SameBut e H H' → H r = none → H' r = some (.lst (prrefs ps)) → Prs H' ps → H' e = some (.lst (natsV E')) → EndsOk bs i E' → Segs bs.toArray i 3 (ps.map Prod.snd) → ps.length ≤ 300 → Q (.ref r) H'
section
variable {P : Program} {w : World} {K : PySem.W.Frag} {mg : Str → Option Value} {base : Heap} {c : CA} {f : Addr} {fd : FuncData}
theorem ok_matches_at (T : Tx K mg c) (GN : Hd P w K mg base CX0 1 "nearest_before" ["levels", "place", "length"] sp_nearest_before) (GS : Hd P w K mg base CX0 1 "same_until" ["text", "place", "distance"] (sp_same_until K))
    (F : Fun K "matches_at" "matches_at" s_matches_at f fd) : FnOk P w K mg base CX0 2 f fd ["text", "levels", "ends", "place"] (sp_matches_at K) := by
  refine F.ok sc_matches_at (fun vs H Q E h => ?_) (fun cdv A outer s H vs Q E hr h => ?_)
  · obtain ⟨a, p, e, bs, lv, En, i, rfl, _⟩ := h
    rfl
  · refine ⟨_, (pss_cons (ps_set (i := 4) sc_matches_at.nd rfl (Or.inl rfl) (pe_callB (call_min2 rfl) (by rfl) T.min (by decide +kernel) (pa_cons (pe_gI rfl T.LONGEST_MATCH) (pa_cons (pe_op op_sub (pe_callB call_len_seq (by rfl) T.len (by decide +kernel) (pa_cons (pv 0) pa_nil)) (pv 3)) pa_nil))))
  (pss_cons (ps_set (i := 5) sc_matches_at.nd rfl (Or.inl rfl) (pe_lst pa_nil))
  (pss_cons (ps_set (i := 6) sc_matches_at.nd rfl (Or.inl rfl) (pe_gI rfl T.SHORTEST_MATCH))
  (pss_cons (ps_while PassesOwn.never (pt_cmpR op_le (pv 6) (pv 4) (nomark _)) (pss_cons (ps_set (i := 7) sc_matches_at.nd rfl (Or.inl rfl) (pe_cd GN (hr.mono (by decide)) pass0 (pa_cons (pv 1) (pa_cons (pv 3) (pa_cons (pv 6) pa_nil)))))
    (pss_cons (ps_if (pt_cmpR op_lt (pv 7) pe_int (nomark _)) (pss_one ps_break) pss_nil)
    (pss_cons (ps_set (i := 8) sc_matches_at.nd rfl (Or.inl rfl) (pe_op op_sub (pv 3) (pv 7)))
    (pss_cons (ps_if (pt_cmpR op_le (pe_ix (ix_list : IxR _ (rIxL K)) (pv 2) (pv 8) (fun _ _ => rfl)) (pv 3) (nomark _)) (pss_one (ps_asg (pe_cd GS (hr.mono (by decide)) pass0 (pa_cons (pv 0) (pa_cons (pe_op op_add (pv 3) (pv 6)) (pa_cons (pv 8) pa_nil)))) (pg_sub (pv 2) (pv 8) set_list))) pss_nil)
    (pss_cons (ps_set (i := 9) sc_matches_at.nd rfl (Or.inl rfl) (pe_callB (call_min2 rfl) (by rfl) T.min (by decide +kernel) (pa_cons (pv 4) (pa_cons (pe_op op_sub (pe_ix (ix_list : IxR _ (rIxL K)) (pv 2) (pv 8) (fun _ _ => rfl)) (pv 3)) pa_nil))))
    (pss_cons (ps_expr (pe_bm PySem.F.plainAttrs_list PySem.F.slot_list_append PySem.F.type_list_append mt_append (pv 5) (pa_cons (pe_tup (pa_cons (pv 8) (pa_cons (pv 9) pa_nil))) pa_nil)))
    (pss_one (ps_set (i := 6) sc_matches_at.nd rfl (Or.inl rfl) (pe_op op_add (pv 9) pe_int))))))))))
  (pss_one (ps_ret (pv 5))))))), ?_⟩
    obtain ⟨a, p, e, bs, lv, En, i, rfl, hS, hp, h7, hlv, he, hE, hpe, hle, hin, hbn, q⟩ := h
    have hbl : (bytesV bs).length = bs.length := List.length_map ..
    have emost : (if ((bs.length : Nat) : Int) - ((i : Nat) : Int) < 258 then ((bs.length : Nat) : Int) - ((i : Nat) : Int) else 258) = ((min 258 (bs.length - i) : Nat) : Int) := by
      split <;> omega
    refine ⟨_, rfl, _, _, rfl, .inl (hS H (SameBut.refl _ _)), _, rfl, _, _, rfl, rfl, _, _, rfl, ?_⟩
    rw [hbl, emost]
    generalize hmost : min 258 (bs.length - i) = most
    refine ⟨Nat.zero_le _, fun r hr0 => ?_⟩
    refine ⟨fun m σ H' => ∃ (v7 v8 v9 : Option V) (L : Nat) (ps : List Pr2) (E' : List Nat), σ = [some (.ref a), some (.ref p), some (.ref e), some (.int i), some (.int most), some (.ref r), some (.int L), v7, v8, v9] ∧ SameBut e H H' ∧ H' r = some (.lst (prrefs ps)) ∧ Prs H' ps ∧ H' e = some (.lst (natsV E')) ∧ EndsOk bs i E' ∧
      3 ≤ L ∧ L ≤ 259 ∧ m = 300 - L ∧ ps.length + 3 ≤ L ∧ ∀ rest, Segs bs.toArray i L rest → Segs bs.toArray i 3 (ps.map Prod.snd ++ rest), ⟨297, none, none, none, 3, [], En, rfl, SameBut.of (same_new hr0), upd_same, nofun, same_new hr0 _ _ he, hE, by decide, by decide, rfl, Nat.le_refl _, fun _ h => h⟩, fun m σ H1 hW => ?_⟩
    obtain ⟨v7, v8, v9, L, ps, E', rfl, hs1, hr1, hps, he1, hE1, hL3, hL9, hm, hpl, hseg⟩ := hW
    have her : e ≠ r := ne_of_none he hr0
    have fin : Segs bs.toArray i L [] → Q (.ref r) H1 := fun h => by
      refine q _ r ps E' hs1 hr0 hr1 hps he1 hE1 ?_ (by omega)
      have := hseg [] h
      rwa [List.append_nil] at this
    refine ⟨_, rfl, _, rfl, _, _, rfl, rfl, _, rfl, ?_⟩
    refine ite2 (fun h1 => ?_) (fun h1 => ?_)
    · have h1' : L ≤ most := by
        have := of_decide_eq_true h1
        omega
      refine ⟨fun σ' H' => ∃ m', m' < m ∧ ∃ (v7 v8 v9 : Option V) (L : Nat) (ps : List Pr2) (E' : List Nat), σ' = [some (.ref a), some (.ref p), some (.ref e), some (.int i), some (.int most), some (.ref r), some (.int L), v7, v8, v9] ∧ SameBut e H H' ∧ H' r = some (.lst (prrefs ps)) ∧ Prs H' ps ∧ H' e = some (.lst (natsV E')) ∧ EndsOk bs i E' ∧
        3 ≤ L ∧ L ≤ 259 ∧ m' = 300 - L ∧ ps.length + 3 ≤ L ∧ ∀ rest, Segs bs.toArray i L rest → Segs bs.toArray i 3 (ps.map Prod.snd ++ rest), fun _ _ h => h, ?_⟩
      refine ⟨_, rfl, _, rfl, _, rfl, p, bs, lv, i, L, rfl, hs1 _ _ hpe hp, h7, hlv.but hs1 hle, hL3, by omega, by omega, hbn, fun z hz => ?_⟩
      refine ⟨_, rfl, _, _, rfl, rfl, _, rfl, ?_⟩
      refine ite2 (fun h2 => ?_) (fun h2 => ?_)
      · have h2' := of_decide_eq_true h2
        rcases hz with ⟨rfl, hno⟩ | ⟨k, rfl, _⟩
        · exact ⟨_, rfl, fin (.inr hno)⟩
        · omega
      · rcases hz with ⟨rfl, hno⟩ | ⟨k, rfl, hki, hnear⟩
        · exact absurd (decide_eq_true (by decide)) h2
        · refine ⟨_, rfl, _, rfl, _, _, rfl, rfl, ?_⟩
          dsimp only
          have ed : ((i : Nat) : Int) - ((k : Nat) : Int) = ((i - k : Nat) : Int) := by omega
          rw [ed]
          generalize hd : i - k = d at hnear ⊢
          have hd1 := hnear.pos
          have hdE : d < E'.length := by rw [hE1.len]; omega
          refine ⟨_, rfl, _, rfl, e, _, _, _, rfl, rfl, .inl (.inl he1), at_of rfl (nat_get hdE), _, rfl, _, _, rfl, rfl, _, rfl, ?_⟩
          have hML := hnear.mat
          refine if_rest (H1 := H1) (fun H2 => ∃ E2 : List Nat, SameBut e H1 H2 ∧ H2 e = some (.lst (natsV E2)) ∧ EndsOk bs i E2 ∧ i + L ≤ E2.getD d 0) (fun H2 hR => ?_) (fun h3 rest => ?_) (fun h3 => ?_)
          · obtain ⟨E2, hb2, he2, hE2, hge⟩ := hR
            have hdE2 : d < E2.length := by rw [hE2.len]; omega
            obtain ⟨g1, g2, g3⟩ := hE2.run d hd1 (by omega) (by omega)
            have hsB := hs1.trans hb2
            have hr2 := hb2 _ _ her.symm hr1
            have elong : (if ((E2.getD d 0 : Nat) : Int) - ((i : Nat) : Int) < ((most : Nat) : Int) then ((E2.getD d 0 : Nat) : Int) - ((i : Nat) : Int) else ((most : Nat) : Int)) = ((min most (E2.getD d 0 - i) : Nat) : Int) := by
              split <;> omega
            refine ⟨_, rfl, _, rfl, _, rfl, e, _, _, _, rfl, rfl, .inl (.inl he2), at_of rfl (nat_get hdE2), _, rfl, _, _, rfl, rfl, _, _, rfl, ?_⟩
            rw [elong]
            generalize hlg : min most (E2.getD d 0 - i) = lg
            refine ⟨_, rfl, .inl ⟨rfl, _, .inl (.inl hr2)⟩, _, rfl, _, rfl, by show 2 ≤ _; decide, fun t ht => ?_⟩
            have hrt : r ≠ t := ne_of_none hr2 ht
            refine ⟨_, _, _, rfl, rfl, by rw [upd_ne hrt]; exact hr2, ?_, ?_⟩
            · rw [prrefs, List.length_map]
              exact line_lt (by omega)
            · have hte : t ≠ e := fun z => by rw [z, he2] at ht; cases ht
              have hnr : ∀ x ∈ ps, x.1 ≠ r := fun x hx => ne_of (hps x hx) hr1 (by intro z; cases z)
              have hne : ∀ x ∈ ps, x.1 ≠ e := fun x hx => ne_of (hps x hx) he1 (by intro z; cases z)
              refine ⟨_, rfl, _, _, rfl, rfl, m - (lg + 1 - L), by omega, _, _, _, lg + 1, ps ++ [(t, d, lg)], E2, rfl, ?_, ?_, ?_, ?_, hE2, by omega, by omega, by omega, ?_, ?_⟩
              · exact (hsB.made (hsB.free hte ht)).made hr0
              · rw [upd_same, prrefs, prrefs, List.map_append]
                rfl
              · intro x hx
                rcases List.mem_append.mp hx with h5 | h5
                · rw [upd_ne (hnr x h5), upd_ne (ne_of_none (hb2 _ _ (hne x h5) (hps x h5)) ht)]
                  exact hb2 _ _ (hne x h5) (hps x h5)
                · rw [List.mem_singleton.mp h5, upd_ne hrt.symm, upd_same]
              · rw [upd_ne her, upd_ne hte.symm]
                exact he2
              · rw [List.length_append, List.length_singleton]
                omega
              · intro rest hrest
                rw [List.map_append, List.append_assoc]
                refine hseg _ ?_
                refine ⟨by show L ≤ lg; omega, by show lg ≤ 258; omega, hnear, ?_, hrest⟩
                refine mat_run (p := i) (e := E2.getD d 0) (fun q h5 h6 => ⟨?_, g2 q h5 h6⟩) (by show i + lg ≤ _; omega)
                have hsz : bs.toArray.size = bs.length := by simp
                omega
          · have h3' := of_decide_eq_true h3
            refine ⟨_, rfl, _, rfl, _, rfl, _, _, rfl, rfl, _, rfl, a, bs, i + L, d, rfl, hS _ hs1, hd1, by omega, by omega, fun e0 g1 g2 g3 g4 => ?_⟩
            refine ⟨_, rfl, _, rfl, e, _, _, d, rfl, rfl, he1, ixN_nat rfl (by rw [natsV, List.length_map]; exact hdE), ?_⟩
            have eset : (natsV E').set d (V.int (e0 : Nat)) = natsV (E'.set d e0) := by
              unfold natsV
              rw [List.map_set]
            refine rest _ ⟨E'.set d e0, SameBut.put (SameBut.refl _ _), by rw [upd_same, eset], ⟨by rw [List.length_set]; exact hE1.len, fun d' k1 k2 k3 => ?_⟩, by rw [getD_set _ _ _ _ hdE, if_pos rfl]; exact g1⟩
            rw [getD_set _ _ _ _ hdE] at k3 ⊢
            by_cases hdd : d = d'
            · subst hdd
              rw [if_pos rfl] at k3 ⊢
              refine ⟨g2, fun q h5 h6 => ?_, g4⟩
              rcases Nat.lt_or_ge q (i + L) with h7 | h7
              · have := (hML (q - i) (by omega)).2
                rw [show i + (q - i) = q by omega] at this
                exact this
              · exact g3 q h7 h6
            · rw [if_neg hdd] at k3 ⊢
              exact hE1.run d' k1 k2 k3
          · have h3' : ¬ (((E'.getD d 0 : Nat) : Int) ≤ ((i : Nat) : Int)) := fun z => h3 (decide_eq_true z)
            refine ⟨E', SameBut.refl _ _, he1, hE1, ?_⟩
            obtain ⟨g1, g2, g3⟩ := hE1.run d hd1 (by omega) (by omega)
            rcases Nat.lt_or_ge (E'.getD d 0) (i + L) with h5 | h5
            · exfalso
              rcases g3 with g3 | g3
              · omega
              · have := (hML (E'.getD d 0 - i) (by omega)).2
                rw [show i + (E'.getD d 0 - i) = E'.getD d 0 by omega] at this
                exact g3 this
            · exact h5
    · have h1' : most < L := by
        rcases Nat.lt_or_ge most L with h | h
        · exact h
        · exact absurd (decide_eq_true (by omega)) h1
      refine ⟨_, rfl, fin ?_⟩
      by_cases h2 : 258 < L
      · exact .inl h2
      · refine .inr fun d h3 h4 hM => ?_
        have := (hM (L - 1) (by omega)).1
        have hsz : bs.toArray.size = bs.length := by simp
        omega
end
/-- of each place its pairs, each where its list is -/
abbrev Mt2 := Addr × List Pr2
def mtrefs (ms : List Mt2) : List V := ms.map fun x => V.ref x.1
def Mts (H : Hp) (bs : Sw.Bytes) (ms : List Mt2) : Prop := ∀ k x, ms[k]? = some x → H x.1 = some (.lst (prrefs x.2)) ∧ Prs H x.2 ∧ Segs bs.toArray k 3 (x.2.map Prod.snd) ∧ x.2.length ≤ 300
theorem Mts.same {H H' : Hp} {bs : Sw.Bytes} {ms : List Mt2} (h : Mts H bs ms) (s : Same H H') : Mts H' bs ms := fun k x hx => by
  obtain ⟨h1, h2, h3⟩ := h k x hx
  exact ⟨s _ _ h1, fun y hy => s _ _ (h2 y hy), h3⟩
def sp_block_matches (K : PySem.W.Frag) : Sp := fun vs H Q _ => ∃ (a : Addr) (bs : Sw.Bytes), vs = [.ref a] ∧ SqL K H a (bytesV bs) ∧ bs.length ≤ 1024 ∧
  ∀ H' p ms, Same H H' → H p = none → H' p = some (.lst (mtrefs ms)) → ms.length = bs.length → Mts H' bs ms → Q (.ref p) H'
theorem flat_zeros (n : Nat) : (List.replicate n [V.int 0]).flatten = natsV (List.replicate n 0) := by
  unfold natsV
  induction n with
  | zero => rfl
  | succ n ih => rw [List.replicate_succ, List.flatten_cons, ih, List.replicate_succ]; rfl
section
variable {P : Program} {w : World} {K : PySem.W.Frag} {mg : Str → Option Value} {base : Heap} {c : CA} {f : Addr} {fd : FuncData}
theorem ok_block_matches (T : Tx K mg c) (GA : Hd P w K mg base CX0 1 "alike_levels" ["text"] (sp_alike_levels K)) (GM : Hd P w K mg base CX0 2 "matches_at" ["text", "levels", "ends", "place"] (sp_matches_at K))
    (F : Fun K "block_matches" "block_matches" s_block_matches f fd) : FnOk P w K mg base CX0 3 f fd ["text"] (sp_block_matches K) := by
  refine F.ok sc_block_matches (fun vs H Q E h => ?_) (fun cdv A outer s H vs Q E hr h => ?_)
  · obtain ⟨a, bs, rfl, _⟩ := h
    rfl
  · refine ⟨_, (pss_cons (ps_set (i := 1) sc_block_matches.nd rfl (Or.inr rfl) (pe_cd GA (hr.mono (by decide)) pass0 (pa_cons (pv 0) pa_nil)))
  (pss_cons (ps_set (i := 2) sc_block_matches.nd rfl (Or.inr rfl) (pe_op op_rep (pe_lst (pa_cons pe_int pa_nil)) (pe_callB call_len_seq (by rfl) T.len (by decide +kernel) (pa_cons (pv 0) pa_nil))))
  (pss_one (ps_ret (pe_lc (own := [("place", 3)]) (g := gName 3) (tt := tYes) rfl sc_block_matches.nd (pi_range1 rfl T.range (pa_cons (pe_callB call_len_seq (by rfl) T.len (by decide +kernel) (pa_cons (pv 0) pa_nil)) pa_nil)) (blkOk_by (N := ["text", "levels", "ends", "place"]) (sc := defScope s_block_matches) (by decide +kernel)) (fun _ _ _ _ _ => pg_name (i := 3) sc_block_matches.nd rfl (Or.inl rfl)) (fun _ _ _ _ _ => pts_nil) (fun _ _ _ _ _ => (pe_cd GM (hr.mono (by decide)) pass0 (pa_cons (pv 0) (pa_cons (pv 1) (pa_cons (pv 2) (pa_cons (pv 3) pa_nil))))))))))), ?_⟩
    obtain ⟨a, bs, rfl, hS, hbn, q⟩ := h
    have hbl : (bytesV bs).length = bs.length := List.length_map ..
    refine ⟨_, rfl, a, bs, rfl, hS, hbn, fun H1 p lv hs1 hp0 hp1 h7 hlv => ?_⟩
    refine ⟨by show 1 ≤ _; decide, fun z hz => ⟨_, rfl, _, _, rfl, .inl ((same_new hz).seq (hs1.seq hS)), z, _, _, rfl, rfl, upd_same, by omega, by omega, ?_, fun e he0 => ?_⟩⟩
    · rw [List.length_singleton, hbl]
      exact line_le (by omega)
    · rw [hbl, Int.toNat_natCast, flat_zeros]
      have hs2 : Same H1 (upd (upd H1 z (.lst [V.int 0])) e (.lst (natsV (List.replicate bs.length 0)))) := same_made (same_new hz) he0
      have he1 : upd (upd H1 z (.lst [V.int 0])) e (.lst (natsV (List.replicate bs.length 0))) e = some (.lst (natsV (List.replicate bs.length 0))) := upd_same
      have heH : H1 e = none := (same_new hz).free he0
      generalize upd (upd H1 z (.lst [V.int 0])) e (.lst (natsV (List.replicate bs.length 0))) = H2 at hs2 he1 ⊢
      have hpe : p ≠ e := ne_of_none hp1 heH
      have hle : ∀ x ∈ lv, x.1 ≠ e := fun x hx => by
        obtain ⟨k, hk⟩ := List.getElem?_of_mem hx
        exact ne_of_none (hlv k x hk).1 heH
      have hsl : ∀ {xs : List V}, SqL K H1 a xs → a ≠ e ∨ ∀ H', SqL K H' a xs := fun h => by
        rcases h with (h | ⟨o, h⟩) | h
        · exact .inl (ne_of_none h heH)
        · exact .inl (ne_of_none h heH)
        · exact .inr fun H' => .inr h
      refine ⟨_, rfl, _, _, rfl, .inl (hs2.seq (hs1.seq hS)), bs.length, by rw [hbl], by omega, by omega, fun D hD => lc_it (walk_range (lo := 0) (n := bs.length)) (fun i H' => ∃ (ms : List Mt2) (E' : List Nat), SameBut e H1 H' ∧ SameBut e H2 H' ∧ H' e = some (.lst (natsV E')) ∧ EndsOk bs i E' ∧ H' D = some (.lst (mtrefs ms)) ∧ ms.length = i ∧ Mts H' bs ms ∧ ∀ x ∈ ms, x.1 ≠ e ∧ x.1 ≠ D)
        ⟨[], List.replicate bs.length 0, (SameBut.of hs2).trans (SameBut.of (same_new hD)), SameBut.of (same_new hD), same_new hD _ _ he1, EndsOk.start bs, upd_same, rfl, nofun, nofun⟩ (fun _ _ _ _ => trivial) (fun i x H' H3 hi hP y => ?_) (fun H' hP => ?_)⟩
      · obtain ⟨rfl, rfl⟩ := y
        obtain ⟨ms, E', hb1, hb2, he2, hE2, hD2, hml, hms, hmn⟩ := hP
        have hDe : D ≠ e := fun z => by rw [z, he1] at hD; cases hD
        have hz : ((0 : Int) + (i : Nat)) = ((i : Nat) : Int) := by omega
        refine ⟨rfl, ?_⟩
        refine ⟨_, rfl, _, rfl, _, rfl, _, rfl, a, p, e, bs, lv, E', i, congrArg (fun n : Int => [V.ref a, V.ref p, V.ref e, V.int n]) hz, ?_, hb1 _ _ hpe hp1, h7, hlv.but hb1 hle, he2, hE2, hpe, hle, hi, hbn, fun H4 r ps E2 hb4 hr0 hr1 hps hE4 hEo hsg hpl => ?_⟩
        · intro H5 hb5
          rcases hsl (hs1.seq hS) with h | h
          · exact sqL_ne (hb1.trans hb5) h (hs1.seq hS)
          · exact h H5
        · have hD4 := hb4 _ _ hDe hD2
          have hre : r ≠ e := fun z => by rw [z, he2] at hr0; cases hr0
          have hDr : D ≠ r := ne_of_none hD2 hr0
          refine ⟨_, hD4, ?_, ms ++ [(r, ps)], E2, ?_, ?_, ?_, hEo.next, ?_, ?_, ?_, ?_⟩
          · rw [mtrefs, List.length_map]
            exact line_lt (by omega)
          · exact (hb1.trans hb4).made (hs2.free hD)
          · exact (hb2.trans hb4).made hD
          · rw [upd_ne hDe.symm]
            exact hE4
          · rw [upd_same, mtrefs, mtrefs, List.map_append]
            rfl
          · rw [List.length_append, hml]
            rfl
          · intro k x hx
            have hpr : ∀ {qs : List Pr2}, Prs H4 qs → Prs (upd H4 D (.lst (mtrefs ms ++ [V.ref r]))) qs := fun h y hy => by
              rw [upd_ne (ne_of (h y hy) hD4 (by intro z; cases z))]
              exact h y hy
            rw [List.getElem?_append] at hx
            split at hx
            · obtain ⟨k1, k2, k3⟩ := hms k x hx
              have hxm := hmn x (List.mem_of_getElem? hx)
              refine ⟨by rw [upd_ne hxm.2]; exact hb4 _ _ hxm.1 k1, hpr (fun y hy => hb4 _ _ (ne_of (k2 y hy) he2 (by intro z; cases z)) (k2 y hy)), k3⟩
            · have hk := (List.getElem?_eq_some_iff.mp hx).1
              simp at hk
              have hk2 : k = i := by omega
              subst hk2
              rw [hml] at hx
              simp at hx
              subst hx
              exact ⟨by rw [upd_ne hDr.symm]; exact hr1, hpr hps, hsg, hpl⟩
          · intro x hx
            rcases List.mem_append.mp hx with h | h
            · exact hmn x h
            · rw [List.mem_singleton.mp h]
              exact ⟨hre, hDr.symm⟩
      · obtain ⟨ms, E', hb1, hb2, he2, hE2, hD2, hml, hms, hmn⟩ := hP
        refine q _ D ms (hs1.trans fun b o hb => hb1 b o (ne_of_none hb heH) hb) (hs1.free (hs2.free hD)) hD2 hml hms
end
end Sq
end
section
set_option Elab.async false
set_option maxRecDepth 100000
set_option maxHeartbeats 2000000
/-! parses: the tails. -/
namespace Sq
open PySem PySem.Spec PyProof.Rows L2 SqX LamX
open MP (leastOf leastOf_le leastOf_is leastOf_eq tenc)
theorem least_two (e : Nat → Nat) {p m w : Nat} (h1 : 1 ≤ w) (h2 : w ≤ m + 1) (h3 : m + 1 ≤ 2 * w) : leastOf e p m = min (leastOf e p (w - 1)) (leastOf e (p + (m + 1 - w)) (w - 1)) := by
  symm
  refine leastOf_eq (fun j hj => ?_) ?_
  · by_cases c : j < w
    · exact Nat.le_trans (Nat.min_le_left _ _) (leastOf_le e p (w - 1) j (by omega))
    · refine Nat.le_trans (Nat.min_le_right _ _) ?_
      have := leastOf_le e (p + (m + 1 - w)) (w - 1) (j - (m + 1 - w)) (by omega)
      rwa [show p + (m + 1 - w) + (j - (m + 1 - w)) = p + j by omega] at this
  · obtain ⟨j1, g1, g2⟩ := leastOf_is e p (w - 1)
    obtain ⟨j2, g3, g4⟩ := leastOf_is e (p + (m + 1 - w)) (w - 1)
    by_cases c : leastOf e p (w - 1) ≤ leastOf e (p + (m + 1 - w)) (w - 1)
    · exact ⟨j1, by omega, by rw [Nat.min_eq_left c, g2]⟩
    · refine ⟨m + 1 - w + j2, by omega, ?_⟩
      rw [Nat.min_eq_right (by omega), g4]
      congr 1
      omega
/-- all but what stands at these is kept -/
def SameOut (S : List Addr) (H H' : Hp) : Prop := ∀ b o, b ∉ S → H b = some o → H' b = some o
theorem SameOut.refl (S : List Addr) (H : Hp) : SameOut S H H := fun _ _ _ e => e
theorem SameOut.trans {S : List Addr} {H H1 H2 : Hp} (h : SameOut S H H1) (k : SameOut S H1 H2) : SameOut S H H2 := fun b o hb e => k b o hb (h b o hb e)
theorem SameOut.of {S : List Addr} {H H1 : Hp} (h : Same H H1) : SameOut S H H1 := fun b o _ e => h b o e
/-- the object of the tails: its 8 rows, where they stand -/
structure TLo (C : Addr) (H : Hp) (t : Addr) (S : List Addr) (n : Nat) (rows : List (List Nat)) : Prop where
  obj : ∃ dx L, H t = some (.ins C dx [("levels", .ref L), ("size", .int n)]) ∧ H L = some (.lst (S.map V.ref)) ∧ L ∉ S
  slen : S.length = 8
  rlen : rows.length = 8
  nodup : S.Nodup
  out : t ∉ S
  at_ : ∀ (k : Nat) (s : Addr) (r : List Nat), S[k]? = some s → rows[k]? = some r → H s = some (.lst (natsV r))
  len : ∀ r ∈ rows, r.length = n + 1
theorem TLo.same {C : Addr} {H H' : Hp} {t : Addr} {S : List Addr} {n : Nat} {rows : List (List Nat)} (h : TLo C H t S n rows) (s : Same H H') : TLo C H' t S n rows := by
  obtain ⟨dx, L, h1, h2, h3⟩ := h.obj
  exact ⟨⟨dx, L, s _ _ h1, s _ _ h2, h3⟩, h.slen, h.rlen, h.nodup, h.out, fun k s' r hs hr => s _ _ (h.at_ k s' r hs hr), h.len⟩
/-- what the rows hold of the places from p on -/
def ToldOk (n p : Nat) (e : Nat → Nat) (rows : List (List Nat)) : Prop := ∀ (k : Nat) (r : List Nat) (q : Nat), rows[k]? = some r → p ≤ q → q + 2 ^ k ≤ n + 1 → r.getD q 0 = leastOf e q (2 ^ k - 1)
theorem TLo.put {C : Addr} {H : Hp} {t : Addr} {S : List Addr} {n : Nat} {rows : List (List Nat)} (h : TLo C H t S n rows) {k p v : Nat} {s : Addr} {r : List Nat} (hs : S[k]? = some s) (hr : rows[k]? = some r) :
    TLo C (upd H s (.lst (natsV (r.set p v)))) t S n (rows.set k (r.set p v)) := by
  obtain ⟨dx, L, h1, h2, h3⟩ := h.obj
  have hm := List.mem_of_getElem? hs
  have hkr := (List.getElem?_eq_some_iff.mp hr).1
  refine ⟨⟨dx, L, by rw [upd_ne (fun z : t = s => h.out (by rw [z]; exact hm))]; exact h1, by rw [upd_ne (fun z : L = s => h3 (by rw [z]; exact hm))]; exact h2, h3⟩, h.slen, by rw [List.length_set]; exact h.rlen, h.nodup, h.out, fun k' s' r' g1 g2 => ?_, fun r' hr' => ?_⟩
  · rw [List.getElem?_set] at g2
    by_cases e : k = k'
    · subst e
      rw [if_pos rfl, if_pos hkr] at g2
      rw [hs] at g1
      cases g1; cases g2
      exact upd_same
    · rw [if_neg e] at g2
      have : s' ≠ s := fun z => e (nd_ix h.nodup hs (z ▸ g1))
      rw [upd_ne this]
      exact h.at_ k' s' r' g1 g2
  · obtain ⟨j, hj⟩ := List.getElem?_of_mem hr'
    rw [List.getElem?_set] at hj
    by_cases e : k = j
    · subst e
      rw [if_pos rfl, if_pos hkr] at hj
      cases hj
      rw [List.length_set]
      exact h.len r (List.mem_of_getElem? hr)
    · rw [if_neg e] at hj
      exact h.len r' (List.mem_of_getElem? hj)
/-- as ToldOk; of place p only the levels up to i -/
def ToldTo (n p i : Nat) (e : Nat → Nat) (rows : List (List Nat)) : Prop := ∀ (k : Nat) (r : List Nat) (q : Nat), rows[k]? = some r → p ≤ q → (q = p → k ≤ i) → q + 2 ^ k ≤ n + 1 → r.getD q 0 = leastOf e q (2 ^ k - 1)
theorem ToldTo.put {n p : Nat} {e : Nat → Nat} {rows : List (List Nat)} {k : Nat} {r : List Nat} (h : ∀ (k' : Nat) (r : List Nat) (q : Nat), rows[k']? = some r → p ≤ q → (q = p → k' < k) → q + 2 ^ k' ≤ n + 1 → r.getD q 0 = leastOf e q (2 ^ k' - 1)) (hr : rows[k]? = some r) (hl : p < r.length) : ToldTo n p k e (rows.set k (r.set p (leastOf e p (2 ^ k - 1)))) := by
  intro k' r' q g1 g2 g3 g4
  have hkr := (List.getElem?_eq_some_iff.mp hr).1
  rw [List.getElem?_set] at g1
  by_cases c : k = k'
  · subst c
    rw [if_pos rfl, if_pos hkr] at g1
    cases g1
    rw [getD_set _ _ _ _ hl]
    by_cases c2 : p = q
    · subst c2; rw [if_pos rfl]
    · rw [if_neg c2]
      exact h k r q hr g2 (fun z => absurd z.symm c2) g4
  · rw [if_neg c] at g1
    refine h k' r' q g1 g2 (fun z => ?_) g4
    have := g3 z
    omega
theorem SameOut.put {S : List Addr} {H H1 : Hp} {s : Addr} {o : HO} (h : SameOut S H H1) (hs : s ∈ S) : SameOut S H (upd H1 s o) := fun b u hb e => by
  rw [upd_ne (fun z : b = s => hb (by rw [z]; exact hs))]
  exact h b u hb e
def tlF (L : Addr) (n : Nat) : List (Str × V) := [("levels", .ref L), ("size", .int n)]
theorem tlF_levels (L : Addr) (n : Nat) : (tlF L n).lookup ("levels" : Str) = some (.ref L) := lk_here
theorem tlF_size (L : Addr) (n : Nat) : (tlF L n).lookup ("size" : Str) = some (.int n) := (lk_past (by decide +kernel)).trans lk_here
theorem tlF_meth {m : Str} (L : Addr) (n : Nat) (h1 : (m == ("levels" : Str)) = false) (h2 : (m == ("size" : Str)) = false) : (tlF L n).lookup m = none := (lk_past h1).trans ((lk_past h2).trans rfl)
def sp_Tails_init (C : Addr) : Sp := fun vs H Q _ => ∃ (p dx : Addr) (n : Nat), vs = [.ref p, .int n] ∧ H p = some (.ins C dx []) ∧ n ≤ 10000 ∧
  ∀ H' S rows, TLo C H' p S n rows → SameBut p H H' → (∀ s ∈ S, H s = none) → Q .non H'
def sp_Tails_least (C : Addr) : Sp := fun vs H Q _ => ∃ (t : Addr) (S : List Addr) (n p : Nat) (rows : List (List Nat)) (e : Nat → Nat) (f l : Nat), vs = [.ref t, .int f, .int l] ∧ TLo C H t S n rows ∧ ToldOk n p e rows ∧ p ≤ f ∧ f ≤ l ∧ l ≤ n ∧ l - f + 1 < 256 ∧ n ≤ 10000 ∧
  Q (.int (leastOf e f (l - f) : Nat)) H
def sp_Tails_tell (C : Addr) : Sp := fun vs H Q _ => ∃ (t : Addr) (S : List Addr) (n : Nat) (rows : List (List Nat)) (e : Nat → Nat) (p cost : Nat), vs = [.ref t, .int p, .int cost] ∧ TLo C H t S n rows ∧ ToldOk n (p + 1) e rows ∧ p ≤ n ∧ e p = cost * 2048 + p ∧ n ≤ 10000 ∧
  ∀ H' rows', SameOut S H H' → TLo C H' t S n rows' → ToldOk n p e rows' → Q .non H'
section
variable {P : Program} {w : World} {K : PySem.W.Frag} {mg : Str → Option Value} {base : Heap} {c : CA} {f : Addr} {fd : FuncData}
theorem ok_Tails_init (T : Tx K mg c) (F : Fun K "__init__" "Tails.__init__" s_Tails_init f fd) : FnOk P w K mg base CX0 1 f fd ["self", "size"] (sp_Tails_init c.Tails) := by
  refine F.ok sc_Tails_init (fun vs H Q E h => ?_) (fun cdv A outer s H vs Q E hr h => ?_)
  · obtain ⟨p, dx, n, rfl, _⟩ := h
    rfl
  · refine ⟨_, (pss_cons (ps_fld (pv 0) (pe_lc (own := [("level", 2)]) (g := gName 2) (tt := tYes) rfl sc_Tails_init.nd (pi_range1 rfl T.range (pa_cons (pe_gI rfl T.LEVELS) pa_nil)) (blkOk_by (N := ["self", "size", "level"]) (sc := defScope s_Tails_init) (by decide +kernel)) (fun _ _ _ _ _ => pg_name (i := 2) sc_Tails_init.nd rfl (Or.inl rfl)) (fun _ _ _ _ _ => pts_nil) (fun _ _ _ _ _ => (pe_op op_rep (pe_lst (pa_cons pe_int pa_nil)) (pe_op op_add (pv 1) pe_int)))) rfl)
  (pss_one (ps_fld (pv 0) (pv 1) rfl))), ?_⟩
    obtain ⟨p, dx, n, rfl, hp, hn, q⟩ := h
    refine ⟨8, rfl, by omega, by omega, fun D hD => lc_it (walk_range (lo := 0) (n := 8)) (fun i H' => ∃ S : List Addr, H' D = some (.lst (S.map V.ref)) ∧ S.length = i ∧ Same H H' ∧ S.Nodup ∧ (∀ s ∈ S, H s = none ∧ s ≠ D ∧ H' s = some (.lst (natsV (List.replicate (n + 1) 0)))))
      ⟨[], upd_same, rfl, same_new hD, List.nodup_nil, nofun⟩ (fun _ _ _ _ => trivial) (fun i x H' H2 hi hP y => ?_) (fun H' hP => ?_)⟩
    · obtain ⟨rfl, rfl⟩ := y
      obtain ⟨S, hD2, hSl, hs, hnd, hS⟩ := hP
      refine ⟨rfl, ?_⟩
      refine ⟨by show 1 ≤ _; decide, fun z hz => ⟨_, rfl, _, _, rfl, rfl, z, _, _, rfl, rfl, upd_same, by omega, by omega, ?_, fun r hr0 => ?_⟩⟩
      · rw [List.length_singleton]
        exact line_le (by omega)
      · have ez : (List.replicate (((n : Nat) : Int) + 1).toNat [V.int 0]).flatten = natsV (List.replicate (n + 1) 0) := by
          rw [show (((n : Nat) : Int) + 1).toNat = n + 1 by omega, flat_zeros]
        dsimp only
        rw [ez]
        have hs2 := same_made (o := .lst (natsV (List.replicate (n + 1) 0))) (same_new (o := .lst [V.int 0]) hz) hr0
        have hr1 : upd (upd H2 z (.lst [V.int 0])) r (.lst (natsV (List.replicate (n + 1) 0))) r = some (.lst (natsV (List.replicate (n + 1) 0))) := upd_same
        have hrn : H2 r = none := (same_new hz).free hr0
        generalize upd (upd H2 z (.lst [V.int 0])) r (.lst (natsV (List.replicate (n + 1) 0))) = H3 at hs2 hr1 ⊢
        have hDr : D ≠ r := ne_of_none hD2 hrn
        refine ⟨_, hs2 _ _ hD2, ?_, S ++ [r], ?_, ?_, ?_, ?_, ?_⟩
        · rw [List.length_map, hSl]
          exact line_lt (by omega)
        · rw [upd_same, List.map_append]
          rfl
        · rw [List.length_append, hSl]
          rfl
        · exact same_upd (hs.trans hs2) hD
        · rw [List.nodup_append]
          refine ⟨hnd, by simp, fun s hs' t ht => ?_⟩
          rw [List.mem_singleton.mp ht]
          exact ne_of_none (hS s hs').2.2 hrn
        · intro s hs'
          rcases List.mem_append.mp hs' with h | h
          · obtain ⟨k1, k2, k3⟩ := hS s h
            exact ⟨k1, k2, by rw [upd_ne k2]; exact hs2 _ _ k3⟩
          · rw [List.mem_singleton.mp h]
            exact ⟨hs.free hrn, hDr.symm, by rw [upd_ne hDr.symm]; exact hr1⟩
    · obtain ⟨S, hD2, hSl, hs, hnd, hS⟩ := hP
      have hp2 := hs _ _ hp
      have hpD : p ≠ D := ne_of_none hp hD
      refine ⟨_, rfl, p, _, dx, _, rfl, hp2, T.c_Tails, T.n_Tails_levels, (by show 0 < 1000; decide), ?_⟩
      refine ⟨_, rfl, _, rfl, p, _, dx, _, rfl, upd_same, T.c_Tails, T.n_Tails_size, (by show 1 < 1000; decide), ?_⟩
      have hpS : p ∉ S := fun h => by
        have := (hS p h).1
        rw [hp] at this
        cases this
      rw [upd_upd]
      refine q _ S (List.replicate 8 (List.replicate (n + 1) 0)) ⟨⟨dx, D, ?_, ?_, fun h => (hS D h).2.1 rfl⟩, hSl, by simp, hnd, hpS, fun k s r hk hr' => ?_, fun r hr' => ?_⟩ (fun b o hb e => ?_) (fun s h => (hS s h).1)
      · rw [upd_same]
        exact congrArg (fun q => some (HO.ins c.Tails dx q)) ((put_past (by decide +kernel)).trans rfl)
      · rw [upd_ne hpD.symm]
        exact hD2
      · have h := List.mem_of_getElem? hk
        have hne : s ≠ p := fun z => hpS (z ▸ h)
        rw [upd_ne hne]
        have : r = List.replicate (n + 1) 0 := (List.mem_replicate.mp (List.mem_of_getElem? hr')).2
        rw [this]
        exact (hS s h).2.2
      · rw [(List.mem_replicate.mp hr').2, List.length_replicate]
      · rw [upd_ne hb]
        exact hs b o e
theorem natmin (a b : Nat) : (if ((b : Nat) : Int) < ((a : Nat) : Int) then ((b : Nat) : Int) else ((a : Nat) : Int)) = ((min a b : Nat) : Int) := by
  split <;> omega
theorem ok_Tails_least (T : Tx K mg c) (F : Fun K "least" "Tails.least" s_Tails_least f fd) : FnOk P w K mg base CX0 1 f fd ["self", "first", "last"] (sp_Tails_least c.Tails) := by
  refine F.ok sc_Tails_least (fun vs H Q E h => ?_) (fun cdv A outer s H vs Q E hr h => ?_)
  · obtain ⟨t, S, n, p, rows, e, f, l, rfl, _⟩ := h
    rfl
  · refine ⟨_, (pss_cons (ps_set (i := 3) sc_Tails_least.nd rfl (Or.inl rfl) (pe_op op_sub (pe_bits (pe_op op_add (pe_op op_sub (pv 2) (pv 1)) pe_int)) pe_int))
  (pss_cons (ps_set (i := 4) sc_Tails_least.nd rfl (Or.inl rfl) (pe_ix (ix_list : IxR _ (rIxL K)) (pe_fld (pv 0) rfl) (pv 3) (fun _ _ => rfl)))
  (pss_one (ps_ret (pe_callB (call_min2 rfl) (by rfl) T.min (by decide +kernel) (pa_cons (pe_ix (ix_list : IxR _ (rIxL K)) (pv 4) (pv 1) (fun _ _ => rfl)) (pa_cons (pe_ix (ix_list : IxR _ (rIxL K)) (pv 4) (pe_op op_sub (pe_op op_add (pv 2) pe_int) (pe_op op_shl pe_int (pv 3))) (fun _ _ => rfl)) pa_nil))))))), ?_⟩
    obtain ⟨t, S, n, p, rows, e, f, l, rfl, hT, hR, hpf, hfl, hln, hm, hn, q⟩ := h
    obtain ⟨dx, L, ht, hL, hLS⟩ := hT.obj
    have e1 : ((l : Nat) : Int) - ((f : Nat) : Int) + 1 = ((l - f + 1 : Nat) : Int) := by omega
    have hlog : Nat.log2 (l - f + 1) < 8 := (Nat.log2_lt (by omega)).mpr (by omega)
    have h2a : 2 ^ Nat.log2 (l - f + 1) ≤ l - f + 1 := Nat.log2_self_le (by omega)
    have h2b : l - f + 1 < 2 ^ (Nat.log2 (l - f + 1) + 1) := Nat.lt_log2_self
    rw [Nat.pow_succ] at h2b
    have hb : Builtin.Int.intBits (((l - f + 1 : Nat)) : Int) = Nat.log2 (l - f + 1) + 1 := by rw [bits_nn, if_neg (by omega)]
    refine ⟨_, rfl, _, rfl, _, _, rfl, rfl, _, _, rfl, rfl, _, rfl, _, _, rfl, rfl, ?_⟩
    dsimp only
    rw [e1, hb]
    generalize Nat.log2 (l - f + 1) = k at hlog h2a h2b ⊢
    rw [show ((k + 1 : Nat) : Int) - 1 = ((k : Nat) : Int) by omega]
    have hw : 1 ≤ 2 ^ k := Nat.one_le_two_pow
    have gS : S[k]? = some (S[k]'(by rw [hT.slen]; exact hlog)) := List.getElem?_eq_getElem _
    have gR : rows[k]? = some (rows[k]'(by rw [hT.rlen]; exact hlog)) := List.getElem?_eq_getElem _
    generalize S[k]'(by rw [hT.slen]; exact hlog) = sk at gS
    generalize rows[k]'(by rw [hT.rlen]; exact hlog) = rk at gR
    have hrow := hT.at_ k sk rk gS gR
    have hrl := hT.len rk (List.mem_of_getElem? gR)
    refine ⟨_, rfl, t, _, dx, _, _, rfl, ht, T.c_Tails, T.n_Tails_levels, tlF_levels L n, _, rfl, L, _, _, _, rfl, rfl, .inl (.inl hL), at_of rfl (by rw [List.getElem?_map, gS]; rfl), ?_⟩
    have e2 : ((l : Nat) : Int) + 1 - 1 * 2 ^ (((k : Nat) : Int)).toNat = ((f + (l - f + 1 - 2 ^ k) : Nat) : Int) := by
      rw [Int.toNat_natCast, Int.one_mul, show (2 : Int) ^ k = ((2 ^ k : Nat) : Int) by simp]
      omega
    refine ⟨_, rfl, _, rfl, sk, _, _, _, rfl, rfl, .inl (.inl hrow), at_of rfl (nat_get (by omega)), _, rfl, _, rfl, _, _, rfl, rfl, _, rfl, _, _, rfl, rfl, ⟨by omega, by omega, by decide⟩, _, _, rfl, rfl, sk, _, _, _, rfl, rfl, .inl (.inl hrow), at_of e2 (nat_get (by omega)), _, _, rfl, ?_⟩
    rw [natmin, hR k rk f gR hpf (by omega), hR k rk (f + (l - f + 1 - 2 ^ k)) gR (by omega) (by omega), ← least_two e hw h2a (by omega)]
    exact q
theorem ok_Tails_tell (T : Tx K mg c) (F : Fun K "tell" "Tails.tell" s_Tails_tell f fd) : FnOk P w K mg base CX0 1 f fd ["self", "place", "cost"] (sp_Tails_tell c.Tails) := by
  refine F.ok sc_Tails_tell (fun vs H Q E h => ?_) (fun cdv A outer s H vs Q E hr h => ?_)
  · obtain ⟨t, S, n, rows, e, p, cost, rfl, _⟩ := h
    rfl
  · refine ⟨_, (pss_cons (ps_set (i := 3) sc_Tails_tell.nd rfl (Or.inl rfl) (pe_op op_add (pe_op op_mul (pv 2) (pe_gI rfl T.COST_UNIT)) (pv 1)))
  (pss_cons (ps_asg (pv 3) (pg_sub (pe_ix (ix_list : IxR _ (rIxL K)) (pe_fld (pv 0) rfl) pe_int (fun _ _ => rfl)) (pv 1) set_list))
  (pss_cons (ps_set (i := 4) sc_Tails_tell.nd rfl (Or.inl rfl) pe_int)
  (pss_one (ps_for PassesOwn.never rfl (pi_range2 rfl T.range (pa_cons pe_int (pa_cons (pe_gI rfl T.LEVELS) pa_nil))) (pg_name (i := 5) sc_Tails_tell.nd rfl (Or.inl rfl)) (pss_cons (ps_if (pt_cmpR op_gt (pe_op op_sub (pe_op op_add (pv 1) (pe_op op_mul pe_int (pv 4))) pe_int) (pe_fld (pv 0) rfl) (nomark _)) (pss_one ps_break) pss_nil)
    (pss_cons (ps_set (i := 3) sc_Tails_tell.nd rfl (Or.inl rfl) (pe_callB (call_min2 rfl) (by rfl) T.min (by decide +kernel) (pa_cons (pv 3) (pa_cons (pe_ix (ix_list : IxR _ (rIxL K)) (pe_ix (ix_list : IxR _ (rIxL K)) (pe_fld (pv 0) rfl) (pe_op op_sub (pv 5) pe_int) (fun _ _ => rfl)) (pe_op op_add (pv 1) (pv 4)) (fun _ _ => rfl)) pa_nil))))
    (pss_cons (ps_asg (pv 3) (pg_sub (pe_ix (ix_list : IxR _ (rIxL K)) (pe_fld (pv 0) rfl) (pv 5) (fun _ _ => rfl)) (pv 1) set_list))
    (pss_one (ps_aug (i := 4) sc_Tails_tell.nd rfl (Or.inl rfl) pe_int iop_mul)))))))))), ?_⟩
    obtain ⟨t, S, n, rows, e, p, cost, rfl, hT, hR, hpn, hep, hn, q⟩ := h
    have row : ∀ {H' : Hp} {rows' : List (List Nat)}, TLo c.Tails H' t S n rows' → ∀ k, k < 8 → ∃ s r, S[k]? = some s ∧ rows'[k]? = some r ∧ H' s = some (.lst (natsV r)) ∧ r.length = n + 1 := fun hT' k hk => by
      have gS : S[k]? = some (S[k]'(by rw [hT'.slen]; exact hk)) := List.getElem?_eq_getElem _
      have gR := List.getElem?_eq_getElem (show k < _ by rw [hT'.rlen]; exact hk)
      exact ⟨_, _, gS, gR, hT'.at_ k _ _ gS gR, hT'.len _ (List.mem_of_getElem? gR)⟩
    obtain ⟨s0, r0, gS0, gR0, hrow0, hrl0⟩ := row hT 0 (by decide)
    obtain ⟨dx, L, ht, hL, hLS⟩ := hT.obj
    have e0 : ((cost : Nat) : Int) * 2048 + ((p : Nat) : Int) = ((e p : Nat) : Int) := by rw [hep]; omega
    refine ⟨_, rfl, _, _, rfl, rfl, .inr ⟨by decide, by decide⟩, _, rfl, _, _, rfl, rfl, ?_⟩
    dsimp only
    rw [e0]
    refine ⟨_, rfl, _, rfl, t, _, dx, _, _, rfl, ht, T.c_Tails, T.n_Tails_levels, tlF_levels L n, L, _, _, _, rfl, rfl, .inl (.inl hL), at_of (j := 0) rfl (by rw [List.getElem?_map, gS0]; rfl), _, rfl, s0, _, _, p, rfl, rfl, hrow0, ixN_nat rfl (by rw [natsV, List.length_map]; omega), ?_⟩
    have eset : ∀ (r : List Nat) (v : Nat), (natsV r).set p (V.int (v : Nat)) = natsV (r.set p v) := fun r v => by
      unfold natsV
      rw [List.map_set]
    rw [eset]
    refine ⟨_, _, rfl, ⟨by decide, by decide, by decide, by decide⟩, ?_⟩
    refine for_it (walk_range (lo := 1) (n := 7)) (fun i σ H' => ∃ (v5 : Option V) (rows' : List (List Nat)), σ = [some (.ref t), some (.int p), some (.int cost), some (.int (leastOf e p (2 ^ i - 1) : Nat)), some (.int (2 ^ i : Nat)), v5] ∧ SameOut S H H' ∧ TLo c.Tails H' t S n rows' ∧ ToldTo n p i e rows' ∧ p + 2 ^ i ≤ n + 1)
      ⟨none, rows.set 0 (r0.set p (e p)), rfl, SameOut.put (SameOut.refl _ _) (List.mem_of_getElem? gS0), hT.put gS0 gR0, ToldTo.put (k := 0) (fun k' r q g1 g2 g3 g4 => hR k' r q g1 (by
          rcases Nat.lt_or_ge p q with h | h
          · exact h
          · exact absurd (g3 (by omega)) (by omega)) g4) gR0 (by omega), by omega⟩ (fun _ _ _ _ _ => trivial) (fun i x σ H' H2 hi hP y => ?_) (fun σ H' hP => ?_)
    · obtain ⟨rfl, rfl⟩ := y
      obtain ⟨v5, rows', rfl, hs, hT', hR', hpi⟩ := hP
      obtain ⟨dx', L', ht', hL', hLS'⟩ := hT'.obj
      have hw2 : 2 ^ (i + 1) = 2 * 2 ^ i := by rw [Nat.pow_succ]; omega
      have hw1 : 1 ≤ 2 ^ i := Nat.one_le_two_pow
      refine ⟨_, rfl, _, rfl, _, _, rfl, rfl, .inl ⟨by decide, by decide⟩, _, _, rfl, rfl, _, _, rfl, rfl, _, rfl, t, _, dx', _, _, rfl, ht', T.c_Tails, T.n_Tails_size, tlF_size L' n, _, _, rfl, rfl, _, rfl, ?_⟩
      refine ite2 (fun h1 => ?_) (fun h1 => ?_)
      · have h1' := of_decide_eq_true h1
        refine q _ rows' hs hT' fun k r q' g1 g2 g4 => hR' k r q' g1 g2 (fun hq => ?_) g4
        rcases Nat.lt_or_ge i k with h | h
        · have : 2 ^ (i + 1) ≤ 2 ^ k := Nat.pow_le_pow_right (by decide) h
          omega
        · exact h
      · have h1' : p + 2 ^ (i + 1) ≤ n + 1 := by
          have : ¬ (((n : Nat) : Int) < ((p : Nat) : Int) + 2 * ((2 ^ i : Nat) : Int) - 1) := fun z => h1 (decide_eq_true z)
          omega
        obtain ⟨s1, r1, gS1, gR1, hrow1, hrl1⟩ := row hT' i (by omega)
        obtain ⟨s2, r2, gS2, gR2, hrow2, hrl2⟩ := row hT' (i + 1) (by omega)
        have ei : (1 : Int) + (i : Nat) - 1 = ((i : Nat) : Int) := by omega
        have ei1 : (1 : Int) + (i : Nat) = ((i + 1 : Nat) : Int) := by omega
        have ew : ((p : Nat) : Int) + ((2 ^ i : Nat) : Int) = ((p + 2 ^ i : Nat) : Int) := by omega
        refine ⟨_, rfl, _, rfl, t, _, dx', _, _, rfl, ht', T.c_Tails, T.n_Tails_levels, tlF_levels L' n, _, rfl, _, _, rfl, rfl, L', _, _, _, rfl, rfl, .inl (.inl hL'), at_of ei (by rw [List.getElem?_map, gS1]; rfl), _, rfl, _, rfl, _, _, rfl, rfl, s1, _, _, _, rfl, rfl, .inl (.inl hrow1), at_of ew (nat_get (by omega)), _, _, rfl, ?_⟩
        have hmin : min (leastOf e p (2 ^ i - 1)) (r1.getD (p + 2 ^ i) 0) = leastOf e p (2 ^ (i + 1) - 1) := by
          rw [hR' i r1 (p + 2 ^ i) gR1 (by omega) (fun z => by omega) (by omega)]
          have := least_two e (p := p) (m := 2 ^ (i + 1) - 1) hw1 (by omega) (by omega)
          rw [show p + (2 ^ (i + 1) - 1 + 1 - 2 ^ i) = p + 2 ^ i by omega] at this
          exact this.symm
        rw [natmin, hmin]
        refine ⟨_, rfl, _, rfl, t, _, dx', _, _, rfl, ht', T.c_Tails, T.n_Tails_levels, tlF_levels L' n, _, rfl, L', _, _, _, rfl, rfl, .inl (.inl hL'), at_of ei1 (by rw [List.getElem?_map, gS2]; rfl), _, rfl, s2, _, _, p, rfl, rfl, hrow2, ixN_nat rfl (by rw [natsV, List.length_map]; omega), ?_⟩
        rw [eset]
        refine ⟨_, rfl, _, _, rfl, rfl, .inr ⟨by decide, by decide⟩, ?_⟩
        refine ⟨some (.int (1 + (i : Nat))), rows'.set (i + 1) (r2.set p (leastOf e p (2 ^ (i + 1) - 1))), ?_, SameOut.put hs (List.mem_of_getElem? gS2), hT'.put gS2 gR2, ToldTo.put (k := i + 1) (fun k' r q g1 g2 g3 g4 => hR' k' r q g1 g2 (fun z => by have := g3 z; omega) g4) gR2 (by omega), h1'⟩
        have e5 : ((2 ^ i : Nat) : Int) * 2 = ((2 ^ (i + 1) : Nat) : Int) := by omega
        dsimp only
        rw [e5]
        rfl
    · obtain ⟨v5, rows', rfl, hs, hT', hR', hpi⟩ := hP
      exact q _ rows' hs hT' fun k r q' g1 g2 g4 => hR' k r q' g1 g2 (fun _ => by
        have := (List.getElem?_eq_some_iff.mp g1).1
        rw [hT'.rlen] at this
        omega) g4
end
end Sq
end
section
set_option Elab.async false
set_option maxRecDepth 100000
set_option maxHeartbeats 2000000
/-! parses: the first step. -/
namespace Sq
open PySem PySem.Spec PyProof.Rows L2 SqX LamX
open MP (leastOf leastOf_le leastOf_is leastOf_eq tenc enc better expand Segs range_best tailAt stepAt afterAt table_at)
open SwSqueeze (classOf further)
theorem class_same {v w : Nat} (h1 : v ≤ w) (h2 : w < least (classOf v + 1)) : classOf w = classOf v := by
  unfold least at h2
  rw [if_neg (by omega), Nat.add_sub_cancel] at h2
  unfold classOf at h2 ⊢
  by_cases hv : v = 0
  · rw [if_pos hv] at h2 ⊢
    have : w = 0 := by omega
    rw [if_pos this]
  · rw [if_neg hv] at h2 ⊢
    rw [if_neg (by omega)]
    congr 1
    have a := (Nat.log2_lt (by omega : w ≠ 0)).mpr h2
    have b : Nat.log2 v ≤ Nat.log2 w := (Nat.le_log2 (by omega)).mpr (Nat.le_trans (Nat.log2_self_le hv) h1)
    omega
theorem class_room {v : Nat} (h : v < 256) : v < least (classOf v + 1) ∧ least (classOf v + 1) - v ≤ 128 ∧ least (classOf v + 1) ≤ 256 ∧ classOf v ≤ 8 := by
  have h8 := class_le (n := v) (k := 8) (by omega)
  have hp : 2 ^ classOf v ≤ 2 ^ 8 := Nat.pow_le_pow_right (by decide) h8
  unfold least
  rw [if_neg (by omega), Nat.add_sub_cancel]
  unfold classOf at *
  by_cases hv : v = 0
  · rw [if_pos hv]; subst hv; decide
  · rw [if_neg hv] at h8 hp ⊢
    have a : v < 2 ^ (Nat.log2 v + 1) := Nat.lt_log2_self
    have b := Nat.log2_self_le hv
    rw [Nat.pow_succ] at a hp ⊢
    omega
theorem expand_cons (L d lg : Nat) (r : List (Nat × Nat)) : expand L ((d, lg) :: r) = (List.range' L (lg + 1 - L)).map (fun l => SwSqueeze.Step.match_ l d) ++ expand (lg + 1) r := rfl
theorem range_cut {L k m : Nat} (h : k + 1 ≤ m) : List.range' L m = List.range' L (k + 1) ++ List.range' (L + (k + 1)) (m - (k + 1)) := by
  have := List.range'_append (s := L) (m := k + 1) (n := m - (k + 1)) (step := 1)
  rw [Nat.one_mul, show k + 1 + (m - (k + 1)) = m by omega] at this
  exact this.symm
def sp_first_step (C : Addr) : Sp := fun vs H Q _ => ∃ (t fd : Addr) (bs : Sw.Bytes) (i : Nat) (S : List Addr) (rows : List (List Nat)) (ps : List Pr2), vs = [.ref t, .int (bs.getD i 0).toNat, .ref fd, .int i] ∧ TLo C H t S bs.length rows ∧ ToldOk bs.length (i + 1) (tenc (tailAt bs.toArray)) rows ∧
  H fd = some (.lst (prrefs ps)) ∧ Prs H ps ∧ Segs bs.toArray i 3 (ps.map Prod.snd) ∧ i < bs.length ∧ bs.length ≤ 1024 ∧
  ∀ H' r st, Same H H' → H r = none → H st = none → H' r = some (.tup [.int (tailAt bs.toArray i : Nat), .ref st]) → H' st = some (.tup (stT (stepAt bs.toArray i))) → Q (.ref r) H'
section
variable {P : Program} {w : World} {K : PySem.W.Frag} {mg : Str → Option Value} {base : Heap} {c : CA} {f : Addr} {fd : FuncData}
theorem ok_first_step (T : Tx K mg c) (GL : Hm P w K mg base CX0 1 c.Tails "least" ["self", "first", "last"] (sp_Tails_least c.Tails)) (GF : Hd P w K mg base CX0 1 "further_width" ["kind"] sp_further_width) (GC : Hd P w K mg base CX0 1 "class_of" ["number"] sp_class_of)
    (GS : Hd P w K mg base CX0 1 "class_start" ["kind"] sp_class_start)
    (F : Fun K "first_step" "first_step" s_first_step f fd) : FnOk P w K mg base CX0 2 f fd ["tails", "letter", "found", "place"] (sp_first_step c.Tails) := by
  refine F.ok sc_first_step (fun vs H Q E h => ?_) (fun cdv A outer s H vs Q E hr h => ?_)
  · obtain ⟨t, fd, bs, i, S, rows, ps, rfl, _⟩ := h
    rfl
  · refine ⟨_, (pss_cons (ps_set (i := 4) sc_first_step.nd rfl (Or.inl rfl) (pe_tup (pa_cons pe_int (pa_cons (pv 1) pa_nil))))
  (pss_cons (ps_set (i := 5) sc_first_step.nd rfl (Or.inl rfl) (pe_op op_add (pe_md T.c_Tails GL (hr.mono (by decide)) pass0 (pv 0) (pa_cons (pe_op op_add (pv 3) pe_int) (pa_cons (pe_op op_add (pv 3) pe_int) pa_nil))) (pe_op op_mul (pe_gI rfl T.LETTER_COST) (pe_gI rfl T.COST_UNIT))))
  (pss_cons (ps_set (i := 6) sc_first_step.nd rfl (Or.inl rfl) (pe_gI rfl T.SHORTEST_MATCH))
  (pss_cons (ps_for PassesOwn.never rfl (pi_list (pv 2)) (pg_tup rfl (pgs_cons (pg_name (i := 7) sc_first_step.nd rfl (Or.inl rfl)) (pgs_cons (pg_name (i := 8) sc_first_step.nd rfl (Or.inl rfl)) pgs_nil))) (pss_cons (ps_set (i := 9) sc_first_step.nd rfl (Or.inl rfl) (pe_op op_add (pe_gI rfl T.MATCH_COST) (pe_cd GF (hr.mono (by decide)) pass0 (pa_cons (pe_cd GC (hr.mono (by decide)) pass0 (pa_cons (pe_op op_sub (pv 7) pe_int) pa_nil)) pa_nil))))
    (pss_one (ps_while PassesOwn.never (pt_cmpR op_le (pv 6) (pv 8) (nomark _)) (pss_cons (ps_set (i := 10) sc_first_step.nd rfl (Or.inl rfl) (pe_cd GC (hr.mono (by decide)) pass0 (pa_cons (pe_op op_sub (pv 6) (pe_gI rfl T.SHORTEST_MATCH)) pa_nil)))
      (pss_cons (ps_set (i := 11) sc_first_step.nd rfl (Or.inl rfl) (pe_callB (call_min2 rfl) (by rfl) T.min (by decide +kernel) (pa_cons (pv 8) (pa_cons (pe_op op_add (pe_op op_sub (pe_cd GS (hr.mono (by decide)) pass0 (pa_cons (pe_op op_add (pv 10) pe_int) pa_nil)) pe_int) (pe_gI rfl T.SHORTEST_MATCH)) pa_nil))))
      (pss_cons (ps_set (i := 12) sc_first_step.nd rfl (Or.inl rfl) (pe_op op_add (pv 9) (pe_cd GF (hr.mono (by decide)) pass0 (pa_cons (pv 10) pa_nil))))
      (pss_cons (ps_set (i := 13) sc_first_step.nd rfl (Or.inl rfl) (pe_op op_add (pe_md T.c_Tails GL (hr.mono (by decide)) pass0 (pv 0) (pa_cons (pe_op op_add (pv 3) (pv 6)) (pa_cons (pe_op op_add (pv 3) (pv 11)) pa_nil))) (pe_op op_mul (pv 12) (pe_gI rfl T.COST_UNIT))))
      (pss_cons (ps_if (pt_cmpR op_lt (pv 13) (pv 5) (nomark _)) (pss_cons (ps_set (i := 5) sc_first_step.nd rfl (Or.inl rfl) (pv 13))
        (pss_one (ps_set (i := 4) sc_first_step.nd rfl (Or.inl rfl) (pe_tup (pa_cons (pe_op op_sub (pe_op op_modN (pv 13) (pe_gI rfl T.COST_UNIT)) (pv 3)) (pa_cons (pv 7) pa_nil)))))) pss_nil)
      (pss_one (ps_set (i := 6) sc_first_step.nd rfl (Or.inl rfl) (pe_op op_add (pv 11) pe_int))))))))))))
  (pss_one (ps_ret (pe_tup (pa_cons (pe_op op_fdivN (pv 5) (pe_gI rfl T.COST_UNIT)) (pa_cons (pv 4) pa_nil))))))))), ?_⟩
    obtain ⟨t, fd, bs, i, S, rows, ps, rfl, hT, hR, hfd, hps, hseg, hin, hbn, q⟩ := h
    generalize ha : bs.toArray = a at *
    have hsz : a.size = bs.length := by rw [← ha]; simp
    obtain ⟨dx, L0, ht, hL, hLS⟩ := hT.obj
    refine ⟨_, rfl, by show 2 ≤ _; decide, fun st0 hst0 => ?_⟩
    have hT1 := hT.same (same_new (o := .tup [V.int 0, V.int (bs.getD i 0).toNat]) hst0)
    have hs1 := same_new (o := .tup [V.int 0, V.int (bs.getD i 0).toNat]) hst0
    have hst1 : upd H st0 (.tup [V.int 0, V.int (bs.getD i 0).toNat]) st0 = some (.tup (stT (.letter (a.getD i 0)))) := by
      rw [upd_same, ← ha, arr_get]
      rfl
    generalize upd H st0 (.tup [V.int 0, V.int (bs.getD i 0).toNat]) = H1 at hT1 hs1 hst1 ⊢
    have ei : ((i : Nat) : Int) + 1 = ((i + 1 : Nat) : Int) := by omega
    refine ⟨_, rfl, t, dx, _, rfl, hs1 _ _ ht, tlF_meth L0 bs.length (by decide +kernel) (by decide +kernel), ?_⟩
    refine ⟨_, rfl, _, _, rfl, rfl, _, rfl, _, _, rfl, rfl, t, S, bs.length, i + 1, rows, tenc (tailAt a), i + 1, i + 1, ?_, hT1, hR, Nat.le_refl _, Nat.le_refl _, by omega, by omega, by omega, ?_⟩
    · dsimp only
      rw [ei]
      rfl
    generalize hy0 : (8 + tailAt a (i + 1), SwSqueeze.Step.letter (a.getD i 0)) = y0
    have henc0 : ((leastOf (tenc (tailAt a)) (i + 1) (i + 1 - (i + 1)) : Nat) : Int) + 8 * 2048 = ((enc i y0 : Nat) : Int) := by
      rw [Nat.sub_self, ← hy0]
      show ((tailAt a (i + 1) * 2048 + (i + 1) : Nat) : Int) + 8 * 2048 = (((8 + tailAt a (i + 1)) * 2048 + (i + 1) : Nat) : Int)
      omega
    refine ⟨_, _, rfl, rfl, .inl ⟨by decide, by decide⟩, _, _, rfl, rfl, ?_⟩
    dsimp only
    rw [henc0]
    have hfd1 := hs1 _ _ hfd
    have hpl : (prrefs ps).length = ps.length := List.length_map ..
    have htab := table_at a i (by omega) hseg
    rw [hy0] at htab
    refine ⟨_, rfl, fd, rfl, ⟨prrefs ps, .inl (.inl hfd1)⟩, for_it (walk_list (xs := prrefs ps)) (fun j σ H' => ∃ (st : Addr) (y : Nat × Stp) (L : Nat) (v7 v8 v9 v10 v11 v12 v13 : Option V), σ = [some (.ref t), some (.int (bs.getD i 0).toNat), some (.ref fd), some (.int i), some (.ref st), some (.int (enc i y : Nat)), some (.int L), v7, v8, v9, v10, v11, v12, v13] ∧
      Same H1 H' ∧ H st = none ∧ H' st = some (.tup (stT y.2)) ∧ (expand 3 (ps.map Prod.snd)).foldl (better (afterAt a i)) y0 = (expand L ((ps.drop j).map Prod.snd)).foldl (better (afterAt a i)) y ∧ y.2.length < L ∧ i + y.2.length < 2048 ∧ Segs a i L ((ps.drop j).map Prod.snd) ∧ 3 ≤ L)
      ⟨st0, y0, 3, _, _, _, _, _, _, _, rfl, Same.refl _, hst0, by rw [← hy0]; exact hst1, rfl, by rw [← hy0]; show 1 < 3; decide, by rw [← hy0]; show i + 1 < 2048; omega, hseg, Nat.le_refl _⟩ (fun j σ H' _ hP => ?_) (fun j x σ H' H2 hj hP y => ?_) (fun σ H' hP => ?_)⟩
    · obtain ⟨_, _, _, _, _, _, _, _, _, _, _, hs, _⟩ := hP
      exact .inl (.inl (hs _ _ hfd1))
    · obtain ⟨rfl, hx⟩ := y
      obtain ⟨st, y, L, v7, v8, v9, v10, v11, v12, v13, rfl, hs2, hst2, hsy, hfold, hyL, hyi, hsg, hL3⟩ := hP
      obtain ⟨⟨tp, d, lg⟩, hpj, rfl⟩ := map_get hx
      rw [hpl] at hj
      have hdr : ps.drop j = (tp, d, lg) :: ps.drop (j + 1) := by
        rw [List.drop_eq_getElem_cons hj]
        congr 1
        rw [List.getElem?_eq_getElem hj] at hpj
        exact Option.some.inj hpj
      have htp := (hs1.trans hs2) _ _ (hps _ (List.mem_of_getElem? hpj))
      rw [hdr] at hfold hsg
      obtain ⟨hg1, hg2, hnear, hmat, hsg2⟩ := hsg
      have hg1 : L ≤ lg := hg1
      have hg2 : lg ≤ 258 := hg2
      have hd1 : 1 ≤ d := hnear.pos
      have hilg : i + lg ≤ bs.length := by
        have := (hmat (lg - 1) (by show lg - 1 < lg; omega)).1
        omega
      refine ⟨tp, _, rfl, .inl (.inl htp), rfl, _, _, rfl, _, _, rfl, rfl, ?_⟩
      have ed : ((d : Nat) : Int) - 1 = ((d - 1 : Nat) : Int) := by omega
      refine ⟨_, rfl, _, _, rfl, rfl, d - 1, congrArg (fun x : Int => [V.int x]) ed, classOf (d - 1), rfl, _, _, rfl, rfl, ?_⟩
      have edc : (12 : Int) + ((classOf (d - 1) - 1 : Nat) : Int) = ((12 + further (d - 1) : Nat) : Int) := by
        unfold further; omega
      dsimp only
      rw [edc]
      generalize hdc : 12 + further (d - 1) = dc
      refine ⟨fun m σ H' => ∃ (st : Addr) (y : Nat × Stp) (L' : Nat) (v10 v11 v12 v13 : Option V), σ = [some (.ref t), some (.int (bs.getD i 0).toNat), some (.ref fd), some (.int i), some (.ref st), some (.int (enc i y : Nat)), some (.int L'), some (.int d), some (.int lg), some (.int dc), v10, v11, v12, v13] ∧
        Same H1 H' ∧ H st = none ∧ H' st = some (.tup (stT y.2)) ∧ (expand 3 (ps.map Prod.snd)).foldl (better (afterAt a i)) y0 = ((List.range' L' (lg + 1 - L')).map (fun l => SwSqueeze.Step.match_ l d) ++ expand (lg + 1) ((ps.drop (j + 1)).map Prod.snd)).foldl (better (afterAt a i)) y ∧ y.2.length < L' ∧ i + y.2.length < 2048 ∧ 3 ≤ L' ∧ L' + m = lg + 1,
        ⟨lg + 1 - L, st, y, L, v10, v11, v12, v13, rfl, hs2, hst2, hsy, hfold, hyL, hyi, hL3, by omega⟩, fun m σ H3 hW => ?_⟩
      obtain ⟨st, y, L', v10, v11, v12, v13, rfl, hs3, hst3, hsy, hfold, hyL, hyi, hL3, hm⟩ := hW
      refine ⟨_, rfl, _, rfl, _, _, rfl, rfl, _, rfl, ?_⟩
      refine ite2 (fun h1 => ?_) (fun h1 => ?_)
      · have h1' : L' ≤ lg := by
          have := of_decide_eq_true h1
          omega
        refine ⟨fun σ' H' => ∃ m', m' < m ∧ ∃ (st : Addr) (y : Nat × Stp) (L' : Nat) (v10 v11 v12 v13 : Option V), σ' = [some (.ref t), some (.int (bs.getD i 0).toNat), some (.ref fd), some (.int i), some (.ref st), some (.int (enc i y : Nat)), some (.int L'), some (.int d), some (.int lg), some (.int dc), v10, v11, v12, v13] ∧
          Same H1 H' ∧ H st = none ∧ H' st = some (.tup (stT y.2)) ∧ (expand 3 (ps.map Prod.snd)).foldl (better (afterAt a i)) y0 = ((List.range' L' (lg + 1 - L')).map (fun l => SwSqueeze.Step.match_ l d) ++ expand (lg + 1) ((ps.drop (j + 1)).map Prod.snd)).foldl (better (afterAt a i)) y ∧ y.2.length < L' ∧ i + y.2.length < 2048 ∧ 3 ≤ L' ∧ L' + m' = lg + 1, fun _ _ h => h, ?_⟩
        have el : ((L' : Nat) : Int) - 3 = ((L' - 3 : Nat) : Int) := by omega
        obtain ⟨cr1, cr2, cr3, cr4⟩ := class_room (v := L' - 3) (by omega)
        refine ⟨_, rfl, _, _, rfl, rfl, L' - 3, congrArg (fun x : Int => [V.int x]) el, ?_⟩
        have ek : ((classOf (L' - 3) : Nat) : Int) + 1 = ((classOf (L' - 3) + 1 : Nat) : Int) := by omega
        refine ⟨_, rfl, _, rfl, _, _, rfl, rfl, classOf (L' - 3) + 1, congrArg (fun x : Int => [V.int x]) ek, by omega, _, _, rfl, rfl, _, _, rfl, rfl, _, _, rfl, ?_⟩
        have els : ((least (classOf (L' - 3) + 1) : Nat) : Int) - 1 + 3 = ((least (classOf (L' - 3) + 1) + 2 : Nat) : Int) := by omega
        rw [els, natmin]
        generalize hlast : min lg (least (classOf (L' - 3) + 1) + 2) = last
        have hkL : ∃ k, last = L' + k := ⟨last - L', by omega⟩
        obtain ⟨k, hk⟩ := hkL
        subst hk
        have hklg : L' + k ≤ lg := by omega
        have hksm : k < 255 := by omega
        have hsame : ∀ j', j' ≤ k → (SwSqueeze.Step.match_ (L' + j') d).cost = dc + further (L' - 3) ∧ afterAt a i (SwSqueeze.Step.match_ (L' + j') d) = tailAt a (i + (L' + j')) := fun j' hj' => by
          refine ⟨?_, rfl⟩
          show 12 + (further (L' + j' - 3) + further (d - 1)) = _
          have : classOf (L' + j' - 3) = classOf (L' - 3) := class_same (by omega) (by omega)
          have e6 : further (L' + j' - 3) = further (L' - 3) := by unfold further; rw [this]
          rw [e6]
          omega
        refine ⟨_, rfl, _, rfl, classOf (L' - 3), rfl, _, _, rfl, rfl, ?_⟩
        have ec : ((dc : Nat) : Int) + ((classOf (L' - 3) - 1 : Nat) : Int) = ((dc + further (L' - 3) : Nat) : Int) := by unfold further; omega
        dsimp only
        rw [ec]
        generalize hcc : dc + further (L' - 3) = cc at hsame ⊢
        have ef1 : ((i : Nat) : Int) + ((L' : Nat) : Int) = ((i + L' : Nat) : Int) := by omega
        have ef2 : ((i : Nat) : Int) + ((L' + k : Nat) : Int) = ((i + L' + k : Nat) : Int) := by omega
        have ht3 := (hs1.trans hs3) _ _ ht
        refine ⟨_, rfl, t, dx, _, rfl, ht3, tlF_meth L0 bs.length (by decide +kernel) (by decide +kernel), ?_⟩
        refine ⟨_, rfl, _, rfl, _, _, rfl, rfl, _, rfl, _, rfl, _, _, rfl, rfl, t, S, bs.length, i + 1, rows, tenc (tailAt a), i + L', i + L' + k, ?_, hT1.same hs3, hR, by omega, by omega, by omega, by omega, by omega, ?_⟩
        · dsimp only
          rw [ef1, ef2]
          rfl
        rw [show i + L' + k - (i + L') = k by omega]
        have hrb := range_best (tailAt a) (afterAt a i) i d cc L' y hyL k (by omega) hsame
        generalize hX : leastOf (tenc (tailAt a)) (i + L') k + cc * 2048 = X at hrb
        obtain ⟨j2, hj2, hlj⟩ := leastOf_is (tenc (tailAt a)) (i + L') k
        have hXm : X % 2048 = i + L' + j2 := by
          rw [← hX, hlj]
          unfold tenc
          omega
        have etot : ((leastOf (tenc (tailAt a)) (i + L') k : Nat) : Int) + ((cc : Nat) : Int) * 2048 = ((X : Nat) : Int) := by rw [← hX]; omega
        refine ⟨_, rfl, _, _, rfl, rfl, .inr ⟨by decide, by decide⟩, _, _, rfl, rfl, ?_⟩
        dsimp only
        rw [etot]
        refine ⟨_, rfl, _, rfl, _, _, rfl, rfl, _, rfl, ?_⟩
        have hrc := range_cut (L := L') (k := k) (m := lg + 1 - L') (by omega)
        have hfold2 : ((List.range' L' (lg + 1 - L')).map (fun l => SwSqueeze.Step.match_ l d) ++ expand (lg + 1) ((ps.drop (j + 1)).map Prod.snd)).foldl (better (afterAt a i)) y = ((List.range' (L' + k + 1) (lg + 1 - (L' + k + 1))).map (fun l => SwSqueeze.Step.match_ l d) ++ expand (lg + 1) ((ps.drop (j + 1)).map Prod.snd)).foldl (better (afterAt a i)) (if X < enc i y then (X / 2048, SwSqueeze.Step.match_ (X % 2048 - i) d) else y) := by
          rw [hrc, List.map_append, List.append_assoc, List.foldl_append, hrb, show L' + (k + 1) = L' + k + 1 by omega, show lg + 1 - L' - (k + 1) = lg + 1 - (L' + k + 1) by omega]
        rw [hfold2] at hfold
        have eln : ((L' + k : Nat) : Int) + 1 = ((L' + k + 1 : Nat) : Int) := by omega
        refine ite2 (fun h2 => ?_) (fun h2 => ?_)
        · have h2' : X < enc i y := by
            have := of_decide_eq_true h2
            omega
          rw [if_pos h2'] at hfold
          refine ⟨_, rfl, _, rfl, _, _, rfl, rfl, (show (2048 : Int) ≠ 0 by decide), _, rfl, _, _, rfl, rfl, _, rfl, by show 2 ≤ _; decide, fun st1 hst1 => ?_⟩
          have emod : ((X : Nat) : Int).fmod 2048 - ((i : Nat) : Int) = ((X % 2048 - i : Nat) : Int) := by
            rw [Int.fmod_eq_emod_of_nonneg _ (by decide)]
            omega
          dsimp only
          rw [emod]
          refine ⟨_, rfl, _, _, rfl, rfl, m - (k + 1), by omega, st1, (X / 2048, SwSqueeze.Step.match_ (X % 2048 - i) d), L' + k + 1, some (.int (classOf (L' - 3) : Nat)), some (.int (L' + k : Nat)), some (.int cc), some (.int X), ?_, same_made hs3 hst1, (hs1.trans hs3).free hst1, upd_same, hfold, ?_, ?_, by omega, by omega⟩
          · dsimp only
            rw [eln]
            have : enc i (X / 2048, SwSqueeze.Step.match_ (X % 2048 - i) d) = X := by
              show X / 2048 * 2048 + (i + (X % 2048 - i)) = X
              omega
            rw [this]
            rfl
          · show X % 2048 - i < _
            omega
          · show i + (X % 2048 - i) < 2048
            omega
        · have h2' : ¬ X < enc i y := fun z => h2 (decide_eq_true (by omega))
          rw [if_neg h2'] at hfold
          refine ⟨_, rfl, _, _, rfl, rfl, m - (k + 1), by omega, st, y, L' + k + 1, some (.int (classOf (L' - 3) : Nat)), some (.int (L' + k : Nat)), some (.int cc), some (.int X), ?_, hs3, hst3, hsy, hfold, by omega, hyi, by omega, by omega⟩
          dsimp only
          rw [eln]
          rfl
      · have h1' : lg + 1 = L' := by
          have : ¬ (((L' : Nat) : Int) ≤ ((lg : Nat) : Int)) := fun z => h1 (decide_eq_true z)
          omega
        subst h1'
        refine ⟨st, y, lg + 1, _, _, _, _, _, _, _, rfl, hs3, hst3, hsy, ?_, hyL, hyi, hsg2, hL3⟩
        rw [hfold, Nat.sub_self]
        rfl
    · obtain ⟨st, y, L, v7, v8, v9, v10, v11, v12, v13, rfl, hs2, hst2, hsy, hfold, hyL, hyi, hsg, hL3⟩ := hP
      rw [hpl, List.drop_length] at hfold
      have hyy : (tailAt a i, stepAt a i) = y := by
        rw [htab, hfold]
        rfl
      have efd : ((enc i y : Nat) : Int).fdiv 2048 = ((y.1 : Nat) : Int) := by
        rw [Int.fdiv_eq_ediv_of_nonneg _ (by decide)]
        unfold enc
        omega
      refine ⟨_, rfl, _, _, rfl, rfl, ⟨by decide, by decide⟩, _, rfl, by show 2 ≤ _; decide, fun r hr0 => ?_⟩
      dsimp only
      rw [efd]
      refine q _ r st (same_made (hs1.trans hs2) hr0) ((hs1.trans hs2).free hr0) hst2 ?_ ?_
      · rw [upd_same, ← hyy]
      · rw [upd_ne (ne_of_none hsy hr0), hsy, ← hyy]
end
end Sq
end
section
set_option Elab.async false
set_option maxRecDepth 100000
set_option maxHeartbeats 2000000
/-! parses: the block's parse. -/
namespace Sq
open PySem PySem.Spec PyProof.Rows L2 SqX LamX
open MP (tenc Segs tailAt stepAt StepOk stepAt_ok Path parse_path)
theorem TLo.upd {C : Addr} {H : Hp} {t : Addr} {S : List Addr} {n : Nat} {rows : List (List Nat)} {r L2 dx2 : Addr} {o : HO} (h : TLo C H t S n rows) (ho : H t = some (.ins C dx2 (tlF L2 n))) (hr : r ∉ S) (ht : t ≠ r) (hL : L2 ≠ r) : TLo C (upd H r o) t S n rows := by
  obtain ⟨dx, L, h1, h2, h3⟩ := h.obj
  have : L = L2 := by
    rw [ho] at h1
    have h1 := Option.some.inj h1
    injection h1 with _ h1 h1
    have h1 := (List.cons.inj h1).1
    injection h1 with _ h1
    injection h1 with h1
    exact h1.symm
  subst this
  refine ⟨⟨dx, L, by rw [upd_ne ht]; exact h1, by rw [upd_ne hL]; exact h2, h3⟩, h.slen, h.rlen, h.nodup, h.out, fun k s r' g1 g2 => ?_, h.len⟩
  rw [upd_ne (fun z : s = r => hr (by rw [← z]; exact List.mem_of_getElem? g1))]
  exact h.at_ k s r' g1 g2
theorem TLo.has {C : Addr} {H : Hp} {t : Addr} {S : List Addr} {n : Nat} {rows : List (List Nat)} (h : TLo C H t S n rows) {s : Addr} (hs : s ∈ S) : H s ≠ none := by
  obtain ⟨k, hk⟩ := List.getElem?_of_mem hs
  have hk8 := (List.getElem?_eq_some_iff.mp hk).1
  rw [h.slen, ← h.rlen] at hk8
  rw [h.at_ k s _ hk (List.getElem?_eq_getElem hk8)]
  simp
theorem stok_of {bs : Sw.Bytes} {p : Nat} {s : Stp} (h : StepOk bs.toArray p s) (hp : p < bs.length) (hn : bs.length ≤ 1024) : StOk s := by
  rcases h with rfl | ⟨L, d, rfl, h3, h258, hnear⟩
  · trivial
  · exact ⟨h3, h258, hnear.pos, by have := hnear.le; omega⟩
theorem step_len {s : Stp} (h : StOk s) : max 1 (stN s).1 = s.length := by
  cases s with
  | letter c => rfl
  | match_ l d =>
    have := h.1
    show max 1 l = l
    omega
def sp_block_parse (K : PySem.W.Frag) : Sp := fun vs H Q _ => ∃ (a : Addr) (bs : Sw.Bytes), vs = [.ref a] ∧ SqL K H a (bytesV bs) ∧ bs.length ≤ 1024 ∧
  ∀ H' p ss, Same H H' → H p = none → H' p = some (.lst (strefs ss)) → Sts H' ss → ss.map Prod.snd = SwSqueeze.parse bs → (∀ x ∈ ss, StOk x.2) → ss.length ≤ 1024 → Q (.ref p) H'
section
variable {P : Program} {w : World} {K : PySem.W.Frag} {mg : Str → Option Value} {base : Heap} {c : CA} {f : Addr} {fd : FuncData}
theorem ok_block_parse (T : Tx K mg c) (GM : Hd P w K mg base CX0 3 "block_matches" ["text"] (sp_block_matches K)) (GI : Hc P w K mg base CX0 1 "Tails" c.Tails ["self", "size"] (sp_Tails_init c.Tails)) (GT : Hm P w K mg base CX0 1 c.Tails "tell" ["self", "place", "cost"] (sp_Tails_tell c.Tails))
    (GF : Hd P w K mg base CX0 2 "first_step" ["tails", "letter", "found", "place"] (sp_first_step c.Tails))
    (F : Fun K "block_parse" "block_parse" s_block_parse f fd) : FnOk P w K mg base CX0 4 f fd ["text"] (sp_block_parse K) := by
  refine F.ok sc_block_parse (fun vs H Q E h => ?_) (fun cdv A outer s H vs Q E hr h => ?_)
  · obtain ⟨a, bs, rfl, _⟩ := h
    rfl
  · refine ⟨_, (pss_cons (ps_set (i := 1) sc_block_parse.nd rfl (Or.inl rfl) (pe_cd GM (hr.mono (by decide)) pass0 (pa_cons (pv 0) pa_nil)))
  (pss_cons (ps_set (i := 2) sc_block_parse.nd rfl (Or.inl rfl) (pe_mkd GI (hr.mono (by decide)) pass0 (pa_cons (pe_callB call_len_seq (by rfl) T.len (by decide +kernel) (pa_cons (pv 0) pa_nil)) pa_nil)))
  (pss_cons (ps_expr (pe_md T.c_Tails GT (hr.mono (by decide)) pass0 (pv 2) (pa_cons (pe_callB call_len_seq (by rfl) T.len (by decide +kernel) (pa_cons (pv 0) pa_nil)) (pa_cons pe_int pa_nil))))
  (pss_cons (ps_set (i := 3) sc_block_parse.nd rfl (Or.inl rfl) (pe_lst pa_nil))
  (pss_cons (ps_for PassesOwn.never rfl (pi_range3 rfl T.range (pa_cons (pe_op op_sub (pe_callB call_len_seq (by rfl) T.len (by decide +kernel) (pa_cons (pv 0) pa_nil)) pe_int) (pa_cons (pe_un un_neg pe_int) (pa_cons (pe_un un_neg pe_int) pa_nil)))) (pg_name (i := 4) sc_block_parse.nd rfl (Or.inl rfl)) (pss_cons (ps_set (i := 5) sc_block_parse.nd rfl (Or.inl rfl) (pe_cd GF (hr.mono (by decide)) pass0 (pa_cons (pv 2) (pa_cons (pe_ix (ix_list : IxR _ (rIxL K)) (pv 0) (pv 4) (fun _ _ => rfl)) (pa_cons (pe_ix (ix_list : IxR _ (rIxL K)) (pv 1) (pv 4) (fun _ _ => rfl)) (pa_cons (pv 4) pa_nil))))))
    (pss_cons (ps_expr (pe_md T.c_Tails GT (hr.mono (by decide)) pass0 (pv 2) (pa_cons (pv 4) (pa_cons (pe_ix (ix_tup : IxR _ (rIxT K)) (pv 5) pe_int (fun _ _ => rfl)) pa_nil))))
    (pss_one (ps_expr (pe_bm PySem.F.plainAttrs_list PySem.F.slot_list_append PySem.F.type_list_append mt_append (pv 3) (pa_cons (pe_ix (ix_tup : IxR _ (rIxT K)) (pv 5) pe_int (fun _ _ => rfl)) pa_nil)))))))
  (pss_cons (ps_expr (pe_bm0 PySem.F.plainAttrs_list PySem.F.slot_list_reverse PySem.F.type_list_reverse mt_reverse (pv 3)))
  (pss_cons (ps_set (i := 6) sc_block_parse.nd rfl (Or.inl rfl) (pe_lst pa_nil))
  (pss_cons (ps_set (i := 4) sc_block_parse.nd rfl (Or.inl rfl) pe_int)
  (pss_cons (ps_while PassesOwn.never (pt_cmpR op_lt (pv 4) (pe_callB call_len_seq (by rfl) T.len (by decide +kernel) (pa_cons (pv 0) pa_nil)) (nomark _)) (pss_cons (ps_expr (pe_bm PySem.F.plainAttrs_list PySem.F.slot_list_append PySem.F.type_list_append mt_append (pv 6) (pa_cons (pe_ix (ix_list : IxR _ (rIxL K)) (pv 3) (pv 4) (fun _ _ => rfl)) pa_nil)))
    (pss_one (ps_aug (i := 4) sc_block_parse.nd rfl (Or.inl rfl) (pe_callB (call_max2 rfl) (by rfl) T.max (by decide +kernel) (pa_cons pe_int (pa_cons (pe_ix (ix_tup : IxR _ (rIxT K)) (pe_ix (ix_list : IxR _ (rIxL K)) (pv 3) (pv 4) (fun _ _ => rfl)) pe_int (fun _ _ => rfl)) pa_nil))) ip_add))))
  (pss_one (ps_ret (pv 6)))))))))))), ?_⟩
    obtain ⟨a, bs, rfl, hS, hbn, q⟩ := h
    have hbl : (bytesV bs).length = bs.length := List.length_map ..
    have hsz : bs.toArray.size = bs.length := by simp
    refine ⟨_, rfl, a, bs, rfl, hS, hbn, fun H1 pm ms hs1 hpm0 hpm1 hml hms => ?_⟩
    refine ⟨_, rfl, _, _, rfl, .inl (hs1.seq hS), fun x dx hx hdx hne => ⟨x, dx, bs.length, by rw [hbl]; rfl, upd_same, by omega, fun H2 S rows hT2 hb2 hSn => ⟨rfl, ?_⟩⟩⟩
    have hs2 : Same H1 H2 := fun b o e => hb2 b o (ne_of_none e hx) (by rw [upd_ne (ne_of_none e hx), upd_ne (ne_of_none e hdx)]; exact e)
    have hSn1 : ∀ s ∈ S, H1 s = none := fun s hs => by
      have := hSn s hs
      have h1 : s ≠ x := fun z => by rw [z, upd_same] at this; cases this
      rw [upd_ne h1] at this
      have h2 : s ≠ dx := fun z => by rw [z, upd_same] at this; cases this
      rw [upd_ne h2] at this
      exact this
    obtain ⟨dx2, L2, ht2, hL2, hLS2⟩ := hT2.obj
    refine ⟨_, rfl, x, dx2, _, rfl, ht2, tlF_meth L2 bs.length (by decide +kernel) (by decide +kernel), _, rfl, _, _, rfl, .inl (hs2.seq (hs1.seq hS)), x, S, bs.length, rows, tenc (tailAt bs.toArray), bs.length, 0, by rw [hbl]; rfl, hT2, fun k r q' g1 g2 g3 => ?_, Nat.le_refl _, ?_, by omega, fun H3 rows3 hs3 hT3 hR3 => ?_⟩
    · have : 1 ≤ 2 ^ k := Nat.one_le_two_pow
      omega
    · show tailAt bs.toArray bs.length * 2048 + bs.length = _
      unfold tailAt
      rw [if_pos (by omega)]
    have hs13 : Same H1 H3 := fun b o eb => hs3 b o (fun hb => by rw [hSn1 b hb] at eb; cases eb) (hs2 b o eb)
    refine ⟨Nat.zero_le _, fun r hr0 => ?_⟩
    have hrS : r ∉ S := fun hb => hT3.has hb hr0
    have hx3 : H3 x = some (.ins c.Tails dx2 (tlF L2 bs.length)) := hs3 _ _ hT2.out ht2
    have hxr : x ≠ r := ne_of_none hx3 hr0
    have hLr : L2 ≠ r := ne_of_none (hs3 _ _ hLS2 hL2) hr0
    have hr1 : H1 r = none := hs13.free hr0
    have ei1 : ((bs.length : Nat) : Int) - 1 - -1 = ((bs.length : Nat) : Int) := by omega
    have hrg := RgC.neg (i := (bs.length : Int) - 1) (j := -1) (by omega) (by omega) (by omega) (by omega)
    rw [ei1, Int.toNat_natCast] at hrg
    refine ⟨_, rfl, _, _, rfl, .inl ((same_made hs13 hr0).seq (hs1.seq hS)), _, _, rfl, rfl, _, rfl, _, rfl, _, _, _, bs.length, rfl, by rw [hbl]; exact hrg, ?_⟩
    refine for_it walk_rangeC (fun j σ H' => ∃ (v4 v5 : Option V) (rows' : List (List Nat)) (sl : List St2), σ = [some (.ref a), some (.ref pm), some (.ref x), some (.ref r), v4, v5, none] ∧ Same H1 H' ∧ TLo c.Tails H' x S bs.length rows' ∧ ToldOk bs.length (bs.length - j) (tenc (tailAt bs.toArray)) rows' ∧ H' x = some (.ins c.Tails dx2 (tlF L2 bs.length)) ∧
      H' r = some (.lst (strefs sl)) ∧ Sts H' sl ∧ sl.map Prod.snd = (List.range j).map (fun k => stepAt bs.toArray (bs.length - 1 - k)) ∧ (∀ y ∈ sl, y.1 ∉ S) ∧ H' L2 ≠ none)
      ⟨none, none, rows3, [], rfl, same_made hs13 hr0, hT3.upd hx3 hrS hxr hLr, by rw [Nat.sub_zero]; exact hR3, by rw [upd_ne hxr]; exact hx3, upd_same, nofun, rfl, nofun, by rw [upd_ne hLr, hs3 _ _ hLS2 hL2]; simp⟩ (fun _ _ _ _ _ => trivial) (fun j y σ H' H4 hj hP hy => ?_) (fun σ H' hP => ?_)
    · obtain ⟨rfl, rfl⟩ := hy
      obtain ⟨v4, v5, rows', sl, rfl, hs4, hT4, hR4, hx4, hr4, hst4, hsm, hsS, hL4⟩ := hP
      have hjn : bs.length - 1 - j < bs.length := by omega
      have ep : ((bs.length : Nat) : Int) - 1 + ((j : Nat) : Int) * -1 = ((bs.length - 1 - j : Nat) : Int) := by omega
      rw [hbl]
      dsimp only
      rw [ep]
      generalize hpl : bs.length - 1 - j = pl at hjn ⊢
      have hpl1 : bs.length - j = pl + 1 := by omega
      rw [hpl1] at hR4
      obtain ⟨m0, hm0⟩ : ∃ m0, ms[pl]? = some m0 := ⟨_, List.getElem?_eq_getElem (by omega)⟩
      obtain ⟨k1, k2, k3, k4⟩ := (hms.same hs4) pl m0 hm0
      refine ⟨_, rfl, _, rfl, _, rfl, a, _, _, _, rfl, rfl, hs4.seq (hs1.seq hS), at_of rfl (bytes_get hjn), _, rfl, _, rfl, pm, _, _, _, rfl, rfl, .inl (.inl (hs4 _ _ hpm1)), at_of rfl (by rw [mtrefs, List.getElem?_map, hm0]; rfl), _, rfl,
        x, m0.1, bs, pl, S, rows', m0.2, rfl, hT4, hR4, k1, k2, k3, hjn, hbn, fun H5 rr st hs5 hrr0 hst0 hrr1 hst1 => ?_⟩
      have hT5 := hT4.same hs5
      have hstS : st ∉ S := fun hb => hT4.has hb hst0
      have hrrS : rr ∉ S := fun hb => hT4.has hb hrr0
      refine ⟨_, rfl, x, dx2, _, rfl, hs5 _ _ hx4, tlF_meth L2 bs.length (by decide +kernel) (by decide +kernel), _, rfl, _, rfl, rr, _, _, _, rfl, rfl, .inl (.inl hrr1), rfl, x, S, bs.length, rows', tenc (tailAt bs.toArray), pl, tailAt bs.toArray pl, rfl, hT5, hR4, by omega, rfl, by omega, fun H6 rows6 hs6 hT6 hR6 => ?_⟩
      have hr6 : H6 r = some (.lst (strefs sl)) := hs6 _ _ hrS (hs5 _ _ hr4)
      have hst6 : H6 st = some (.tup (stT (stepAt bs.toArray pl))) := hs6 _ _ hstS hst1
      have hrst : st ≠ r := fun z => by rw [z, hr4] at hst0; cases hst0
      have hs16 : Same H1 H6 := fun b o eb => hs6 b o (fun hb => by rw [hSn1 b hb] at eb; cases eb) (hs5 _ _ (hs4 b o eb))
      have hx6 : H6 x = some (.ins c.Tails dx2 (tlF L2 bs.length)) := hs6 _ _ hT2.out (hs5 _ _ hx4)
      refine ⟨_, rfl, .inl ⟨rfl, _, .inl (.inl hr6)⟩, _, rfl, rr, _, _, _, rfl, rfl, .inl (.inl (hs6 _ _ hrrS hrr1)), rfl, _, _, _, rfl, rfl, hr6, ?_, ?_⟩
      · have hsll : sl.length = j := by
          have := congrArg List.length hsm
          simpa using this
        rw [strefs, List.length_map, hsll]
        exact line_lt (by omega)
      · refine ⟨some (.int pl), some (.ref rr), rows6, sl ++ [(st, stepAt bs.toArray pl)], rfl, same_upd hs16 hr1, hT6.upd hx6 hrS hxr hLr, ?_, by rw [upd_ne hxr]; exact hx6, ?_, ?_, ?_, ?_, ?_⟩
        · rw [show bs.length - (j + 1) = pl by omega]
          exact hR6
        · rw [upd_same, strefs, strefs, List.map_append]
          rfl
        · intro y hy
          rcases List.mem_append.mp hy with h | h
          · have h1 := hst4 y h
            rw [upd_ne (ne_of h1 hr4 (by intro z; cases z))]
            exact hs6 _ _ (hsS y h) (hs5 _ _ h1)
          · rw [List.mem_singleton.mp h, upd_ne hrst]
            exact hst6
        · rw [List.map_append, hsm, List.range_succ, List.map_append, ← hpl]
          rfl
        · intro y hy
          rcases List.mem_append.mp hy with h | h
          · exact hsS y h
          · rw [List.mem_singleton.mp h]
            exact hstS
        · rw [upd_ne hLr]
          obtain ⟨o, ho⟩ : ∃ o, H4 L2 = some o := by
            cases k : H4 L2 with
            | none => exact absurd k hL4
            | some o => exact ⟨o, rfl⟩
          rw [hs6 _ _ hLS2 (hs5 _ _ ho)]
          simp
    · obtain ⟨v4, v5, rows', sl, rfl, hs4, hT4, hR4, hx4, hr4, hst4, hsm, hsS, hL4⟩ := hP
      have hok : ∀ p, p < bs.toArray.size → StepOk bs.toArray p (stepAt bs.toArray p) := fun p hp => by
        obtain ⟨m0, hm0⟩ : ∃ m0, ms[p]? = some m0 := ⟨_, List.getElem?_eq_getElem (by omega)⟩
        exact stepAt_ok _ p hp (hms p m0 hm0).2.2.1
      have hpath := parse_path bs hok
      have hsll : sl.length = bs.length := by
        have := congrArg List.length hsm
        simpa using this
      have hrev : ∀ p, p < bs.length → ∃ y, sl.reverse[p]? = some y ∧ y.2 = stepAt bs.toArray p ∧ y ∈ sl := fun p hp => by
        have h1 : sl.reverse[p]? = some (sl.reverse[p]'(by rw [List.length_reverse]; omega)) := List.getElem?_eq_getElem _
        refine ⟨_, h1, ?_, List.mem_reverse.mp (List.mem_of_getElem? h1)⟩
        have h2 : (sl.map Prod.snd)[sl.length - 1 - p]? = some (sl.reverse[p]'(by rw [List.length_reverse]; omega)).2 := by
          rw [List.getElem?_map, ← List.getElem?_reverse (by omega), h1]
          rfl
        rw [hsm, List.getElem?_map, List.getElem?_range (by omega)] at h2
        have h3 := Option.some.inj h2
        rw [← h3]
        show stepAt bs.toArray (bs.length - 1 - (sl.length - 1 - p)) = _
        congr 1
        omega
      refine ⟨_, rfl, .inl ⟨rfl, _, .inl (.inl hr4)⟩, r, _, rfl, rfl, hr4, ?_⟩
      have hs7 : Same H1 (upd H' r (.lst (strefs sl).reverse)) := same_upd hs4 hr1
      have hr7 : upd H' r (.lst (strefs sl).reverse) r = some (.lst (strefs sl.reverse)) := by
        rw [upd_same]
        unfold strefs
        rw [List.map_reverse]
      have hst7 : Sts (upd H' r (.lst (strefs sl).reverse)) sl := fun y hy => by
        have h1 := hst4 y hy
        rw [upd_ne (ne_of h1 hr4 (by intro z; cases z))]
        exact h1
      generalize upd H' r (.lst (strefs sl).reverse) = H7 at hs7 hr7 hst7 ⊢
      refine ⟨Nat.zero_le _, fun pp hpp => ?_⟩
      refine ⟨fun m σ H'' => ∃ (pl : Nat) (done : List St2) (rest : List Stp), σ = [some (.ref a), some (.ref pm), some (.ref x), some (.ref r), some (.int pl), v5, some (.ref pp)] ∧ Same H7 H'' ∧ H'' pp = some (.lst (strefs done)) ∧ Sts H'' done ∧ SwSqueeze.parse bs = done.map Prod.snd ++ rest ∧ Path bs.toArray pl rest ∧
        pl + m = bs.length ∧ (∀ y ∈ done, StOk y.2) ∧ done.length ≤ pl, ⟨bs.length, 0, [], _, rfl, same_new hpp, upd_same, nofun, rfl, hpath, by omega, nofun, Nat.le_refl _⟩, fun m σ H8 hW => ?_⟩
      obtain ⟨pl, done, rest, rfl, hs8, hp8, hst8, hpar, hpa, hm, hdok, hdl⟩ := hW
      refine ⟨_, rfl, _, rfl, _, _, rfl, .inl ((hs7.trans hs8).seq (hs1.seq hS)), _, _, rfl, rfl, _, rfl, ?_⟩
      refine ite2 (fun h1 => ?_) (fun h1 => ?_)
      · have h1' : pl < bs.length := by
          have := of_decide_eq_true h1
          rw [hbl] at this
          omega
        refine ⟨fun σ' H'' => ∃ m', m' < m ∧ ∃ (pl : Nat) (done : List St2) (rest : List Stp), σ' = [some (.ref a), some (.ref pm), some (.ref x), some (.ref r), some (.int pl), v5, some (.ref pp)] ∧ Same H7 H'' ∧ H'' pp = some (.lst (strefs done)) ∧ Sts H'' done ∧ SwSqueeze.parse bs = done.map Prod.snd ++ rest ∧ Path bs.toArray pl rest ∧
          pl + m' = bs.length ∧ (∀ y ∈ done, StOk y.2) ∧ done.length ≤ pl, fun _ _ h => h, ?_⟩
        obtain ⟨y, hy1, hy2, hy3⟩ := hrev pl h1'
        cases hpa with
        | done h => omega
        | @step _ l h hpa =>
          have hok1 : StepOk bs.toArray pl y.2 := by rw [hy2]; exact hok pl h
          have hfit := hok1.fits h
          have hstk : StOk y.2 := stok_of hok1 h1' hbn
          have hyt := hs8 _ _ (hst7 y hy3)
          have gat : (strefs sl.reverse)[pl]? = some (.ref y.1) := by rw [strefs, List.getElem?_map, hy1]; rfl
          refine ⟨_, rfl, .inl ⟨rfl, _, .inl (.inl hp8)⟩, _, rfl, _, rfl, r, _, _, _, rfl, rfl, .inl (.inl (hs8 _ _ hr7)), at_of rfl gat, _, _, _, rfl, rfl, hp8, ?_, ?_⟩
          · rw [strefs, List.length_map]
            exact line_lt (by omega)
          · have hs9 : Same H7 (upd H8 pp (.lst (strefs done ++ [V.ref y.1]))) := same_upd hs8 hpp
            have hyt9 := hs9 _ _ (hst7 y hy3)
            have emax : (if (((stN y.2).1 : Nat) : Int) > 1 then (((stN y.2).1 : Nat) : Int) else 1) = ((y.2.length : Nat) : Int) := by
              rw [← step_len hstk]
              split <;> omega
            refine ⟨_, rfl, _, rfl, _, rfl, r, _, _, _, rfl, rfl, .inl (.inl (hs9 _ _ hr7)), at_of rfl gat, y.1, _, _, _, rfl, rfl, .inl (.inl hyt9), rfl, _, _, rfl, _, _, rfl, rfl, ?_⟩
            dsimp only
            rw [emax]
            refine ⟨m - y.2.length, by omega, pl + y.2.length, done ++ [y], l, ?_, hs9, ?_, ?_, ?_, ?_, by omega, ?_, ?_⟩
            · rw [show ((pl : Nat) : Int) + ((y.2.length : Nat) : Int) = ((pl + y.2.length : Nat) : Int) by omega]
              rfl
            · rw [upd_same, strefs, strefs, List.map_append]
              rfl
            · intro z hz
              rcases List.mem_append.mp hz with h2 | h2
              · have h3 := hst8 z h2
                rw [upd_ne (ne_of h3 hp8 (by intro z; cases z))]
                exact h3
              · rw [List.mem_singleton.mp h2]
                exact hyt9
            · rw [hpar, List.map_append, List.append_assoc, ← hy2]
              rfl
            · rw [hy2]
              exact hpa
            · intro z hz
              rcases List.mem_append.mp hz with h2 | h2
              · exact hdok z h2
              · rw [List.mem_singleton.mp h2]
                exact hstk
            · rw [List.length_append, List.length_singleton]
              omega
      · have h1' : bs.length ≤ pl := by
          rcases Nat.lt_or_ge pl bs.length with h | h
          · exact absurd (decide_eq_true (by rw [hbl]; omega)) h1
          · exact h
        refine ⟨_, rfl, q _ pp done (hs1.trans (hs7.trans hs8)) (hs1.free (hs7.free hpp)) hp8 hst8 ?_ hdok (by omega)⟩
        cases hpa with
        | done h => rw [hpar, List.append_nil]
        | step h _ => omega
end
end Sq
end
section
set_option Elab.async false
set_option maxRecDepth 100000
set_option maxHeartbeats 2000000
/-! coding: a block coded. -/
namespace Sq
open PySem PySem.Spec PyProof.Rows L2 SqX LamX
open SwSqueeze (bitsLow classOf further symbolOf toldLengths codewords codeTable stepBits often oftenD toBytes)
def distOf : Stp → Option Nat
  | .match_ _ d => some (classOf (d - 1))
  | .letter _ => none
theorem often_tally (l : List Stp) : often l = tally 265 (l.map symbolOf) := MC.incs_toList 265 (l.map symbolOf)
theorem oftenD_tally (l : List Stp) : oftenD l = tally 11 (l.filterMap distOf) := MC.incs_toList 11 (l.filterMap distOf)
theorem tally_getD {n : Nat} {l : List Nat} {s : Nat} (h : s < n) : (tally n l).getD s 0 = l.count s := by
  unfold tally
  rw [List.getD_eq_getElem?_getD, List.getElem?_map, List.getElem?_range h]
  rfl
theorem tally_len (n : Nat) (l : List Nat) : (tally n l).length = n := by simp [tally]
theorem told_len : ∀ (f : Nat) (l : List Nat), (toldLengths f l).length ≤ 12 * l.length
  | 0, l => Nat.zero_le _
  | f + 1, [] => Nat.zero_le _
  | f + 1, x :: l => by
    show (if x ≠ 0 then bitsLow 4 x ++ toldLengths f l else _).length ≤ _
    by_cases hx : x ≠ 0
    · rw [if_pos hx, List.length_append, bitsLow_length, List.length_cons]
      have := told_len f l
      omega
    · rw [if_neg hx]
      have hk : 1 ≤ min 256 (((x :: l).takeWhile fun (m : Nat) => m == 0).length) := by
        rw [List.takeWhile_cons_of_pos (by simpa using hx), List.length_cons]
        omega
      show (bitsLow 4 0 ++ (bitsLow 8 _ ++ toldLengths f ((x :: l).drop (min 256 (((x :: l).takeWhile fun (m : Nat) => m == 0).length))))).length ≤ _
      have := told_len f ((x :: l).drop (min 256 (((x :: l).takeWhile fun (m : Nat) => m == 0).length)))
      rw [List.length_drop] at this
      rw [List.length_append, List.length_append, bitsLow_length, bitsLow_length]
      rw [List.length_cons] at this ⊢
      omega
def sp_coded (K : PySem.W.Frag) (TT : List (Addr × Str)) : Sp := fun vs H Q _ => ∃ (a : Addr) (bs : Sw.Bytes), vs = [.ref a] ∧ SqL K H a (bytesV bs) ∧ 1 ≤ bs.length ∧ bs.length ≤ 1024 ∧ Tabs TT H ∧
  ∀ H' p, ExtN H H' → Tabs TT H' → Fresh H p → H' p = some (.lst (bytesV (SwSqueeze.coded bs.length (SwSqueeze.parse bs)))) → Q (.ref p) H'
section
variable {P : Program} {w : World} {K : PySem.W.Frag} {mg : Str → Option Value} {base : Heap} {c : CA} {f : Addr} {fd : FuncData} {TT : List (Addr × Str)}
theorem ok_coded (T : Tx K mg c) (GB : Hd P w K mg base CX0 4 "block_parse" ["text"] (sp_block_parse K)) (GS : Hd P w K mg base CX0 2 "symbol_of" ["step"] sp_symbol_of) (GC : Hd P w K mg base CX0 1 "class_of" ["number"] sp_class_of)
    (GL : Hd P w K mg base CX0 4 "code_lengths" ["often"] (sp_code_lengths K TT)) (GW : Hd P w K mg base CX0 1 "low_first" ["number", "width"] sp_low_first) (GT : Hd P w K mg base CX0 2 "length_bits" ["lengths"] (sp_length_bits K))
    (GP : Hd P w K mg base CX0 3 "parse_bits" ["parse", "lengths", "distance_lengths"] (sp_parse_bits K TT)) (GO : Hd P w K mg base CX0 1 "octets_of" ["bits"] (sp_octets_of K))
    (F : Fun K "coded" "coded" s_coded f fd) : FnOk P w K mg base CX0 5 f fd ["text"] (sp_coded K TT) := by
  refine F.ok sc_coded (fun vs H Q E h => ?_) (fun cdv A outer s H vs Q E hr h => ?_)
  · obtain ⟨a, bs, rfl, _⟩ := h
    rfl
  · refine ⟨_, (pss_cons (ps_set (i := 1) sc_coded.nd rfl (Or.inl rfl) (pe_cd GB (hr.mono (by decide)) pass0 (pa_cons (pv 0) pa_nil)))
  (pss_cons (ps_set (i := 2) sc_coded.nd rfl (Or.inl rfl) (pe_op op_rep (pe_lst (pa_cons pe_int pa_nil)) (pe_gI rfl T.SYMBOLS)))
  (pss_cons (ps_set (i := 3) sc_coded.nd rfl (Or.inl rfl) (pe_op op_rep (pe_lst (pa_cons pe_int pa_nil)) (pe_gI rfl T.DISTANCE_CLASSES)))
  (pss_cons (ps_for PassesOwn.never rfl (pi_list (pv 1)) (pg_name (i := 4) sc_coded.nd rfl (Or.inl rfl)) (pss_cons (ps_augS (pv 2) (pe_cd GS (hr.mono (by decide)) pass0 (pa_cons (pv 4) pa_nil)) get_list pe_int ip_add set_list)
    (pss_one (ps_if (pt_truK (K := K) rfl (pe_ix (ix_tup : IxR _ (rIxT K)) (pv 4) pe_int (fun _ _ => rfl)) (by intro _; rfl)) (pss_one (ps_augS (pv 3) (pe_cd GC (hr.mono (by decide)) pass0 (pa_cons (pe_op op_sub (pe_ix (ix_tup : IxR _ (rIxT K)) (pv 4) pe_int (fun _ _ => rfl)) pe_int) pa_nil)) get_list pe_int ip_add set_list)) pss_nil))))
  (pss_cons (ps_set (i := 5) sc_coded.nd rfl (Or.inl rfl) (pe_cd GL (hr.mono (by decide)) pass0 (pa_cons (pv 2) pa_nil)))
  (pss_cons (ps_set (i := 6) sc_coded.nd rfl (Or.inl rfl) (pe_cd GL (hr.mono (by decide)) pass0 (pa_cons (pv 3) pa_nil)))
  (pss_cons (ps_set (i := 7) sc_coded.nd rfl (Or.inl rfl) (pe_cd GW (hr.mono (by decide)) pass0 (pa_cons (pe_op op_sub (pe_callB call_len_seq (by rfl) T.len (by decide +kernel) (pa_cons (pv 0) pa_nil)) pe_int) (pa_cons (pe_gI rfl T.SIZE_WIDTH) pa_nil))))
  (pss_cons (ps_expr (pe_bm PySem.F.plainAttrs_list PySem.F.slot_list_extend PySem.F.type_list_extend mt_extend (pv 7) (pa_cons (pe_cd GT (hr.mono (by decide)) pass0 (pa_cons (pe_op op_cat (pv 5) (pv 6)) pa_nil)) pa_nil)))
  (pss_cons (ps_expr (pe_bm PySem.F.plainAttrs_list PySem.F.slot_list_extend PySem.F.type_list_extend mt_extend (pv 7) (pa_cons (pe_cd GP (hr.mono (by decide)) pass0 (pa_cons (pv 1) (pa_cons (pv 5) (pa_cons (pv 6) pa_nil)))) pa_nil)))
  (pss_one (ps_ret (pe_cd GO (hr.mono (by decide)) pass0 (pa_cons (pv 7) pa_nil))))))))))))), ?_⟩
    obtain ⟨a, bs, rfl, hS, hb1, hbn, hT, q⟩ := h
    have hbl : (bytesV bs).length = bs.length := List.length_map ..
    refine ⟨_, rfl, a, bs, rfl, hS, hbn, fun H1 pp ss hs1 hpp0 hpp1 hst1 hpar hok hsl => ?_⟩
    refine ⟨by show 1 ≤ _; decide, fun z hz => ⟨z, _, _, rfl, rfl, upd_same, by decide, by decide, by show 1 * 265 ≤ _; decide, fun po hpo => ?_⟩⟩
    rw [show (Int.toNat 265) = 265 from rfl, flat_zeros]
    have hs2 : Same H1 (upd (upd H1 z (.lst [V.int 0])) po (.lst (natsV (List.replicate 265 0)))) := same_made (same_new hz) hpo
    have hpo1 : upd (upd H1 z (.lst [V.int 0])) po (.lst (natsV (List.replicate 265 0))) po = some (.lst (natsV (List.replicate 265 0))) := upd_same
    have hpoH : H1 po = none := (same_new hz).free hpo
    generalize upd (upd H1 z (.lst [V.int 0])) po (.lst (natsV (List.replicate 265 0))) = H2 at hs2 hpo1 ⊢
    refine ⟨by show 1 ≤ _; decide, fun z2 hz2 => ⟨z2, _, _, rfl, rfl, upd_same, by decide, by decide, by show 1 * 11 ≤ _; decide, fun pd hpd => ?_⟩⟩
    rw [show (Int.toNat 11) = 11 from rfl, flat_zeros]
    have hs3 : Same H2 (upd (upd H2 z2 (.lst [V.int 0])) pd (.lst (natsV (List.replicate 11 0)))) := same_made (same_new hz2) hpd
    have hpd1 : upd (upd H2 z2 (.lst [V.int 0])) pd (.lst (natsV (List.replicate 11 0))) pd = some (.lst (natsV (List.replicate 11 0))) := upd_same
    have hpdH : H2 pd = none := (same_new hz2).free hpd
    generalize upd (upd H2 z2 (.lst [V.int 0])) pd (.lst (natsV (List.replicate 11 0))) = H3 at hs3 hpd1 ⊢
    have hpod : po ≠ pd := ne_of_none hpo1 hpdH
    have hpdH1 : H1 pd = none := hs2.free hpdH
    refine ⟨_, rfl, pp, rfl, ⟨strefs ss, .inl (.inl (hs3 _ _ (hs2 _ _ hpp1)))⟩, for_it (walk_list (xs := strefs ss)) (fun i σ H' => ∃ v4 : Option V, σ = [some (.ref a), some (.ref pp), some (.ref po), some (.ref pd), v4, none, none, none] ∧ Same H1 H' ∧
      H' po = some (.lst (natsV (tally 265 ((ss.take i).map fun x => symbolOf x.2)))) ∧ H' pd = some (.lst (natsV (tally 11 ((ss.take i).filterMap fun x => distOf x.2)))))
      ⟨none, rfl, hs2.trans hs3, ?_, ?_⟩ (fun i σ H' _ hP => ?_) (fun i x σ H' H4 hi hP y => ?_) (fun σ H' hP => ?_)⟩
    · rw [List.take_zero, List.map_nil, tally_nil]
      exact hs3 _ _ hpo1
    · rw [List.take_zero, List.filterMap_nil, tally_nil]
      exact hpd1
    · obtain ⟨_, _, h, _⟩ := hP
      exact .inl (.inl (h _ _ hpp1))
    · obtain ⟨rfl, hx⟩ := y
      obtain ⟨v4, rfl, hs4, hpo4, hpd4⟩ := hP
      obtain ⟨⟨t, st⟩, hst0, rfl⟩ := map_get hx
      have hmem := List.mem_of_getElem? hst0
      have hok1 : StOk st := hok _ hmem
      have ht4 : H4 t = some (.tup (stT st)) := hs4 _ _ (hst1 _ hmem)
      have hsy : symbolOf st < 265 := symbol_lt hok1
      refine ⟨_, rfl, _, rfl, t, st, rfl, ht4, hok1, po, _, symbolOf st, _, rfl, rfl, .inl (.inl hpo4), tally_get _ hsy, ?_⟩
      refine ⟨_, _, rfl, rfl, po, _, _, symbolOf st, rfl, rfl, hpo4, ixN_nat rfl (by rw [tally_length]; exact hsy), ?_⟩
      rw [tally_set _ hsy]
      have hs5 : Same H1 (upd H4 po (.lst (natsV (tally 265 ((ss.take i).map (fun x => symbolOf x.2) ++ [symbolOf st]))))) := same_upd hs4 hpoH
      have hpo5 : upd H4 po (.lst (natsV (tally 265 ((ss.take i).map (fun x => symbolOf x.2) ++ [symbolOf st])))) po = some (.lst (natsV (tally 265 ((ss.take (i + 1)).map fun x => symbolOf x.2)))) := by
        rw [upd_same, take_succ_of hst0, List.map_append]
        rfl
      have hpd5 : upd H4 po (.lst (natsV (tally 265 ((ss.take i).map (fun x => symbolOf x.2) ++ [symbolOf st])))) pd = some (.lst (natsV (tally 11 ((ss.take i).filterMap fun x => distOf x.2)))) := by
        rw [upd_ne hpod.symm]
        exact hpd4
      generalize upd H4 po (.lst (natsV (tally 265 ((ss.take i).map (fun x => symbolOf x.2) ++ [symbolOf st])))) = H5 at hs5 hpo5 hpd5 ⊢
      have ht5 : H5 t = some (.tup (stT st)) := hs5 _ _ (hst1 _ hmem)
      refine ⟨_, rfl, t, _, _, _, rfl, rfl, .inl (.inl ht5), rfl, ((stN st).1 : Int) != 0, rfl, ?_⟩
      cases st with
      | letter c0 =>
        refine ite2 (fun h => absurd (show (((0 : Nat) : Int) != 0) = true from h) (by decide)) (fun _ => ?_)
        refine ⟨_, rfl, hs5, hpo5, ?_⟩
        rw [hpd5, take_succ_of hst0, List.filterMap_append]
        simp [distOf]
      | match_ l d =>
        obtain ⟨g1, g2, g3, g4⟩ := hok1
        have hcl := dist_lt g3 g4
        have ed : ((d : Nat) : Int) - 1 = ((d - 1 : Nat) : Int) := by omega
        refine ite2 (fun _ => ?_) (fun h => absurd (show (((l : Nat) : Int) != 0) = true by simp; omega) h)
        refine ⟨_, rfl, _, rfl, t, _, _, _, rfl, rfl, .inl (.inl ht5), rfl, _, _, rfl, rfl, d - 1, congrArg (fun x : Int => [V.int x]) ed, pd, _, classOf (d - 1), _, rfl, rfl, .inl (.inl hpd5), tally_get _ hcl, ?_⟩
        refine ⟨_, _, rfl, rfl, pd, _, _, classOf (d - 1), rfl, rfl, hpd5, ixN_nat rfl (by rw [tally_length]; exact hcl), ?_⟩
        rw [tally_set _ hcl]
        refine ⟨_, rfl, same_upd hs5 hpdH1, ?_, ?_⟩
        · rw [upd_ne hpod]
          exact hpo5
        · rw [upd_same, take_succ_of hst0, List.filterMap_append]
          rfl
    · obtain ⟨v4, rfl, hs4, hpo4, hpd4⟩ := hP
      rw [show (strefs ss).length = ss.length from List.length_map .., List.take_length] at hpo4 hpd4
      have eo : tally 265 (ss.map fun x => symbolOf x.2) = often (SwSqueeze.parse bs) := by
        rw [often_tally, ← hpar, List.map_map]
        rfl
      have ed : tally 11 (ss.filterMap fun x => distOf x.2) = oftenD (SwSqueeze.parse bs) := by
        rw [oftenD_tally, ← hpar, List.filterMap_map]
        rfl
      rw [eo] at hpo4
      rw [ed] at hpd4
      have hs14 := hs1.trans hs4
      have hol : (often (SwSqueeze.parse bs)).length = 265 := by rw [often_tally, tally_len]
      have hdl : (oftenD (SwSqueeze.parse bs)).length = 11 := by rw [oftenD_tally, tally_len]
      refine ⟨_, rfl, po, often (SwSqueeze.parse bs), rfl, .inl (.inl hpo4), by omega, hT.ext hs14, fun H5 pl e5 t5 hpl0 hpl1 => ?_⟩
      have hpd5 := e5 _ _ hpd4 (by intro ps z; cases z)
      refine ⟨_, rfl, pd, oftenD (SwSqueeze.parse bs), rfl, .inl (.inl hpd5), by omega, t5, fun H6 pq e6 t6 hpq0 hpq1 => ?_⟩
      have hpl6 := e6 _ _ hpl1 (by intro ps z; cases z)
      have e16 : ExtN H1 H6 := (ExtN.of hs4).trans (e5.trans e6)
      have eN6 : ExtN H H6 := (ExtN.of hs14).trans (e5.trans e6)
      have hcl := MC.lengths_length (often (SwSqueeze.parse bs)) (by omega)
      have hql := MC.lengths_length (oftenD (SwSqueeze.parse bs)) (by omega)
      rw [hol] at hcl
      rw [hdl] at hql
      have hc15 := fun i => MC.lengths_le (often (SwSqueeze.parse bs)) (by omega) i
      have hq15 := fun i => MC.lengths_le (oftenD (SwSqueeze.parse bs)) (by omega) i
      have hcp := fun i => MC.lengths_pos (often (SwSqueeze.parse bs)) (by omega) i
      have hqp := fun i => MC.lengths_pos (oftenD (SwSqueeze.parse bs)) (by omega) i
      have hco : ∀ x ∈ ss, StCoded (SwSqueeze.lengths (often (SwSqueeze.parse bs))) (SwSqueeze.lengths (oftenD (SwSqueeze.parse bs))) x.2 := fun x hx => by
        have hokx := hok x hx
        have hxp : x.2 ∈ SwSqueeze.parse bs := by rw [← hpar]; exact List.mem_map.mpr ⟨x, hx, rfl⟩
        have hsx := symbol_lt hokx
        refine ⟨hokx, (hcp _).mpr ⟨by omega, ?_⟩, ?_⟩
        · rw [often_tally, tally_getD hsx]
          have : 0 < ((SwSqueeze.parse bs).map symbolOf).count (symbolOf x.2) := List.count_pos_iff.mpr (List.mem_map.mpr ⟨x.2, hxp, rfl⟩)
          omega
        · generalize x.2 = st at hokx hxp
          cases st with
          | letter _ => trivial
          | match_ l d =>
            have hcl2 := dist_lt hokx.2.2.1 hokx.2.2.2
            refine (hqp _).mpr ⟨by omega, ?_⟩
            rw [oftenD_tally, tally_getD hcl2]
            have : 0 < ((SwSqueeze.parse bs).filterMap distOf).count (classOf (d - 1)) := List.count_pos_iff.mpr (List.mem_filterMap.mpr ⟨_, hxp, rfl⟩)
            omega
      have hcoded : SwSqueeze.coded bs.length (SwSqueeze.parse bs) = toBytes ((bitsLow 10 (bs.length - 1) ++ (toldOf (SwSqueeze.lengths (often (SwSqueeze.parse bs)) ++ SwSqueeze.lengths (oftenD (SwSqueeze.parse bs))) ++ (ss.flatMap fun x => stepBits (codeTable 265 (SwSqueeze.lengths (often (SwSqueeze.parse bs)))) (codeTable 11 (SwSqueeze.lengths (oftenD (SwSqueeze.parse bs)))) x.2))).length + 1)
          (bitsLow 10 (bs.length - 1) ++ (toldOf (SwSqueeze.lengths (often (SwSqueeze.parse bs)) ++ SwSqueeze.lengths (oftenD (SwSqueeze.parse bs))) ++ (ss.flatMap fun x => stepBits (codeTable 265 (SwSqueeze.lengths (often (SwSqueeze.parse bs)))) (codeTable 11 (SwSqueeze.lengths (oftenD (SwSqueeze.parse bs)))) x.2))) := by
        have e1 : toldOf (SwSqueeze.lengths (often (SwSqueeze.parse bs)) ++ SwSqueeze.lengths (oftenD (SwSqueeze.parse bs))) = toldLengths (SwSqueeze.LETTERS + SwSqueeze.DISTANCES + 1) (SwSqueeze.lengths (often (SwSqueeze.parse bs)) ++ SwSqueeze.lengths (oftenD (SwSqueeze.parse bs))) := by
          unfold toldOf
          rw [List.length_append, hcl, hql]
          rfl
        have e2 : (ss.flatMap fun x => stepBits (codeTable 265 (SwSqueeze.lengths (often (SwSqueeze.parse bs)))) (codeTable 11 (SwSqueeze.lengths (oftenD (SwSqueeze.parse bs)))) x.2) = (SwSqueeze.parse bs).flatMap (stepBits (codeTable SwSqueeze.LETTERS (SwSqueeze.lengths (often (SwSqueeze.parse bs)))) (codeTable SwSqueeze.DISTANCES (SwSqueeze.lengths (oftenD (SwSqueeze.parse bs))))) := by
          rw [← hpar, List.flatMap_map]
          rfl
        rw [e1, e2]
        rfl
      rw [hcoded] at q
      generalize SwSqueeze.lengths (often (SwSqueeze.parse bs)) = cl at *
      generalize SwSqueeze.lengths (oftenD (SwSqueeze.parse bs)) = dl at *
      have htold : (toldOf (cl ++ dl)).length ≤ 12 * 276 := by
        have := told_len ((cl ++ dl).length + 1) (cl ++ dl)
        rw [List.length_append, hcl, hql] at this
        unfold toldOf
        rw [List.length_append, hcl, hql]
        exact this
      have en : ((bs.length : Nat) : Int) - 1 = ((bs.length - 1 : Nat) : Int) := by omega
      refine ⟨_, rfl, _, _, rfl, .inl (ExtN.seq eN6 hS), _, _, rfl, rfl, bs.length - 1, 10, ?_, by decide, fun H7 pb hs7 hpb0 hpb1 => ?_⟩
      · dsimp only
        rw [hbl, en]
        rfl
      have hlc : (natsV cl).length = 265 := by rw [natsV, List.length_map, hcl]
      have hld : (natsV dl).length = 11 := by rw [natsV, List.length_map, hql]
      refine ⟨_, rfl, .inl ⟨rfl, _, .inl (.inl hpb1)⟩, _, rfl, _, rfl, pl, pq, _, _, rfl, rfl, hs7 _ _ hpl6, hs7 _ _ hpq1, by rw [hlc, hld, sizeLine_eq]; decide, fun pc hpc => ?_⟩
      have hpc1 : upd H7 pc (.lst (natsV cl ++ natsV dl)) pc = some (.lst (natsV (cl ++ dl))) := by
        rw [upd_same]
        unfold natsV
        rw [List.map_append]
      have hs8 : Same H6 (upd H7 pc (.lst (natsV cl ++ natsV dl))) := same_made hs7 hpc
      have hpb8 := same_new (o := .lst (natsV cl ++ natsV dl)) hpc _ _ hpb1
      generalize upd H7 pc (.lst (natsV cl ++ natsV dl)) = H8 at hpc1 hs8 hpb8 ⊢
      refine ⟨pc, cl ++ dl, rfl, .inl (.inl hpc1), by rw [List.length_append]; omega, fun H9 pt hs9 hpt0 hpt1 => ?_⟩
      have hpb9 := hs9 _ _ hpb8
      refine ⟨_, _, _, _, rfl, rfl, hpb9, hpt1, ?_, ?_⟩
      · rw [List.length_map, List.length_map, bitsLow_length]
        exact line_le (by omega)
      rw [← List.map_append]
      have hpb10 : upd H9 pb (.lst ((bitsLow 10 (bs.length - 1) ++ toldOf (cl ++ dl)).map bV)) pb = some (.lst ((bitsLow 10 (bs.length - 1) ++ toldOf (cl ++ dl)).map bV)) := upd_same
      have hs10 : Same H6 (upd H9 pb (.lst ((bitsLow 10 (bs.length - 1) ++ toldOf (cl ++ dl)).map bV))) := same_upd (hs8.trans hs9) hpb0
      generalize upd H9 pb (.lst ((bitsLow 10 (bs.length - 1) ++ toldOf (cl ++ dl)).map bV)) = H10 at hpb10 hs10 ⊢
      have e10 : ExtN H1 H10 := e16.trans (ExtN.of hs10)
      refine ⟨_, rfl, .inl ⟨rfl, _, .inl (.inl hpb10)⟩, _, rfl, _, rfl, _, rfl, pp, pl, pq, ss, cl, dl, rfl, .inl (.inl (e10 _ _ hpp1 (by intro ps z; cases z))), hst1.ext e10, .inl (.inl (hs10 _ _ hpl6)), .inl (.inl (hs10 _ _ hpq1)), hcl, hql, hc15, hq15, hco, hsl, t6.ext hs10, fun H11 pr e11 t11 _ hpr1 hprl => ?_⟩
      have hpb11 := e11 _ _ hpb10 (by intro ps z; cases z)
      refine ⟨_, _, _, _, rfl, rfl, hpb11, hpr1, ?_, ?_⟩
      · rw [List.length_map, List.length_map, List.length_append, bitsLow_length]
        exact line_le (by omega)
      rw [← List.map_append, List.append_assoc]
      have eN11 : ExtN H6 H11 := (ExtN.of hs10).trans e11
      generalize hbits : bitsLow 10 (bs.length - 1) ++ (toldOf (cl ++ dl) ++ ss.flatMap fun x => stepBits (codeTable 265 cl) (codeTable 11 dl) x.2) = bits at q ⊢
      have hbitsl : bits.length ≤ 100000 := by
        rw [← hbits, List.length_append, List.length_append, bitsLow_length]
        omega
      have eN12 : ExtN H6 (upd H11 pb (.lst (bits.map bV))) := ExtN.put eN11 hpb0
      have t12 : Tabs TT (upd H11 pb (.lst (bits.map bV))) := Tabs.put t11 hpb11 (plain_lst _)
      have hpb12 : upd H11 pb (.lst (bits.map bV)) pb = some (.lst (bits.map bV)) := upd_same
      generalize upd H11 pb (.lst (bits.map bV)) = H12 at eN12 t12 hpb12 ⊢
      refine ⟨_, rfl, pb, bits, rfl, .inl (.inl hpb12), by omega, fun H13 pz hs13 hpz0 hpz1 => ?_⟩
      exact q _ pz ((eN6.trans eN12).trans (ExtN.of hs13)) (t12.ext hs13) (fresh_of (eN6.trans eN12) hpz0) hpz1
end
end Sq
end
section
set_option Elab.async false
set_option maxRecDepth 100000
set_option maxHeartbeats 2000000
/-! packing. -/
namespace Sq
open PySem PySem.Spec PyProof.Rows L2 SqX LamX
open SwSqueeze (bitsLow toBytes numLow blockOf)
theorem numLow_bits (n : Nat) : ∀ k, numLow (bitsLow k n) = n % 2 ^ k
  | 0 => by
    rw [Nat.pow_zero, Nat.mod_one]
    rfl
  | k + 1 => by
    rw [bitsLow_succ, numLow_snoc, numLow_bits n k, bitsLow_length, Nat.pow_succ, Nat.mod_mul, Nat.testBit_eq_decide_div_mod_eq]
    rcases Nat.mod_two_eq_zero_or_one (n / 2 ^ k) with h | h <;> rw [h] <;> simp
theorem bits_part (n k i : Nat) (h : i < k) : ((bitsLow (8 * k) n).drop (8 * i)).take 8 = bitsLow 8 (n / 256 ^ i) := by
  apply List.ext_getElem?
  intro j
  by_cases hj : j < 8
  · rw [List.getElem?_take, if_pos hj, List.getElem?_drop]
    unfold bitsLow
    rw [List.getElem?_map, List.getElem?_range (by omega), List.getElem?_map, List.getElem?_range hj]
    show some (n.testBit (8 * i + j)) = some ((n / 256 ^ i).testBit j)
    rw [show (256 : Nat) ^ i = 2 ^ (8 * i) by rw [Nat.pow_mul], ← Nat.shiftRight_eq_div_pow, Nat.testBit_shiftRight]
  · rw [List.getElem?_eq_none (by rw [List.length_take]; omega), List.getElem?_eq_none (by rw [bitsLow_length]; omega)]
theorem octets_le (n k : Nat) (f : Nat) (hf : 8 * k < f) : toBytes f (bitsLow (8 * k) n) = Sw.le k n := by
  rw [toBytes_eq f _ (by rw [bitsLow_length]; exact hf), bitsLow_length, show (8 * k + 7) / 8 = k by omega]
  unfold Sw.le
  apply List.map_congr_left
  intro i hi
  have hi := List.mem_range.mp hi
  unfold byteAt
  rw [bits_part n k i hi, numLow_bits]
theorem le_length (k n : Nat) : (Sw.le k n).length = k := by simp [Sw.le]
def sp_octets_of_number : Sp := fun vs H Q _ => ∃ (n k : Nat), vs = [.int n, .int k] ∧ k ≤ 1000 ∧
  ∀ H' p, Same H H' → H p = none → H' p = some (.lst (bytesV (Sw.le k n))) → Q (.ref p) H'
def sp_packed_block (TT : List (Addr × Str)) : Sp := fun vs H Q _ => ∃ (a : Addr) (bs : Sw.Bytes), vs = [.ref a] ∧ H a = some (.lst (bytesV bs)) ∧ 1 ≤ bs.length ∧ bs.length ≤ 1024 ∧ Tabs TT H ∧
  ∀ H' p, ExtN H H' → Tabs TT H' → Fresh H p → H' p = some (.lst (bytesV (blockOf bs))) → Q (.ref p) H'
def sp_packed_end : Sp := fun vs H Q _ => ∃ n : Nat, vs = [.int n] ∧
  ∀ H' p, Same H H' → H p = none → H' p = some (.lst (bytesV (Sw.le 4 0 ++ Sw.le 8 n))) → Q (.ref p) H'
section
variable {P : Program} {w : World} {K : PySem.W.Frag} {mg : Str → Option Value} {base : Heap} {c : CA} {f : Addr} {fd : FuncData} {TT : List (Addr × Str)}
theorem ok_octets_of_number (T : Tx K mg c) (GO : Hd P w K mg base CX0 1 "octets_of" ["bits"] (sp_octets_of K)) (GW : Hd P w K mg base CX0 1 "low_first" ["number", "width"] sp_low_first)
    (F : Fun K "octets_of_number" "octets_of_number" s_octets_of_number f fd) : FnOk P w K mg base CX0 2 f fd ["number", "width"] sp_octets_of_number := by
  refine F.ok sc_octets_of_number (fun vs H Q E h => ?_) (fun cdv A outer s H vs Q E hr h => ?_)
  · obtain ⟨n, k, rfl, _⟩ := h
    rfl
  · refine ⟨_, (pss_one (ps_ret (pe_cd GO (hr.mono (by decide)) pass0 (pa_cons (pe_cd GW (hr.mono (by decide)) pass0 (pa_cons (pv 0) (pa_cons (pe_op op_mul pe_int (pv 1)) pa_nil))) pa_nil)))), ?_⟩
    obtain ⟨n, k, rfl, hk, q⟩ := h
    refine ⟨_, rfl, _, rfl, _, _, rfl, rfl, .inl ⟨by decide, by decide⟩, n, 8 * k, ?_, by omega, fun H1 p1 hs1 hp10 hp11 => ?_⟩
    · dsimp only
      rw [show (8 : Int) * ((k : Nat) : Int) = ((8 * k : Nat) : Int) by omega]
      rfl
    refine ⟨p1, bitsLow (8 * k) n, rfl, .inl (.inl hp11), by rw [bitsLow_length]; omega, fun H2 p2 hs2 hp20 hp21 => ?_⟩
    rw [octets_le n k _ (by rw [bitsLow_length]; omega)] at hp21
    exact q _ p2 (hs1.trans hs2) (hs1.free hp20) hp21
theorem ok_packed_end (T : Tx K mg c) (GO : Hd P w K mg base CX0 2 "octets_of_number" ["number", "width"] sp_octets_of_number)
    (F : Fun K "packed_end" "packed_end" s_packed_end f fd) : FnOk P w K mg base CX0 3 f fd ["size"] sp_packed_end := by
  refine F.ok sc_packed_end (fun vs H Q E h => ?_) (fun cdv A outer s H vs Q E hr h => ?_)
  · obtain ⟨n, rfl, _⟩ := h
    rfl
  · refine ⟨_, (pss_one (ps_ret (pe_op op_cat (pe_op op_rep (pe_lst (pa_cons pe_int pa_nil)) (pe_gI rfl T.COUNT_OCTETS)) (pe_cd GO (hr.mono (by decide)) pass0 (pa_cons (pv 0) (pa_cons (pe_gI rfl T.SIZE_OCTETS) pa_nil)))))), ?_⟩
    obtain ⟨n, rfl, q⟩ := h
    refine ⟨by show 1 ≤ _; decide, fun z hz => ⟨z, _, _, rfl, rfl, upd_same, by decide, by decide, by show 1 * 4 ≤ _; decide, fun p hp => ?_⟩⟩
    rw [show (Int.toNat 4) = 4 from rfl, flat_zeros]
    have hs1 := same_made (o := .lst (natsV (List.replicate 4 0))) (same_new (o := .lst [V.int 0]) hz) hp
    have hp1 : upd (upd H z (.lst [V.int 0])) p (.lst (natsV (List.replicate 4 0))) p = some (.lst (bytesV (Sw.le 4 0))) := by rw [upd_same]; rfl
    generalize upd (upd H z (.lst [V.int 0])) p (.lst (natsV (List.replicate 4 0))) = H1 at hs1 hp1 ⊢
    refine ⟨_, rfl, n, 8, rfl, by decide, fun H2 p2 hs2 hp20 hp21 => ?_⟩
    refine ⟨p, p2, _, _, rfl, rfl, hs2 _ _ hp1, hp21, ?_, fun p3 hp3 => ?_⟩
    · rw [bytesV, bytesV, List.length_map, List.length_map, le_length, le_length]
      exact line_le (by decide)
    · refine q _ p3 (same_made (hs1.trans hs2) hp3) ((hs1.trans hs2).free hp3) ?_
      rw [upd_same, bytesV, bytesV, bytesV, List.map_append]
theorem ok_packed_block (T : Tx K mg c) (GO : Hd P w K mg base CX0 2 "octets_of_number" ["number", "width"] sp_octets_of_number) (GC : Hd P w K mg base CX0 5 "coded" ["text"] (sp_coded K TT))
    (F : Fun K "packed_block" "packed_block" s_packed_block f fd) : FnOk P w K mg base CX0 6 f fd ["text"] (sp_packed_block TT) := by
  refine F.ok sc_packed_block (fun vs H Q E h => ?_) (fun cdv A outer s H vs Q E hr h => ?_)
  · obtain ⟨a, bs, rfl, _⟩ := h
    rfl
  · refine ⟨_, (pss_cons (ps_set (i := 1) sc_packed_block.nd rfl (Or.inl rfl) (pe_gI rfl T.CODED))
  (pss_cons (ps_set (i := 2) sc_packed_block.nd rfl (Or.inl rfl) (pe_cd GC (hr.mono (by decide)) pass0 (pa_cons (pv 0) pa_nil)))
  (pss_cons (ps_if (pt_cmpR op_ge (pe_callB call_len_seq (by rfl) T.len (by decide +kernel) (pa_cons (pv 2) pa_nil)) (pe_callB call_len_seq (by rfl) T.len (by decide +kernel) (pa_cons (pv 0) pa_nil)) (nomark _)) (pss_cons (ps_set (i := 1) sc_packed_block.nd rfl (Or.inl rfl) (pe_gI rfl T.STORED))
    (pss_one (ps_set (i := 2) sc_packed_block.nd rfl (Or.inl rfl) (pv 0)))) pss_nil)
  (pss_one (ps_ret (pe_op op_cat (pe_op op_cat (pe_cd GO (hr.mono (by decide)) pass0 (pa_cons (pe_op op_add pe_int (pe_callB call_len_seq (by rfl) T.len (by decide +kernel) (pa_cons (pv 2) pa_nil))) (pa_cons (pe_gI rfl T.COUNT_OCTETS) pa_nil))) (pe_lst (pa_cons (pv 1) pa_nil))) (pv 2))))))), ?_⟩
    obtain ⟨a, bs, rfl, ha, hb1, hbn, hT, q⟩ := h
    refine ⟨_, rfl, a, bs, rfl, .inl (.inl ha), hb1, hbn, hT, fun H1 pc e1 t1 hpc0 hpc1 => ?_⟩
    have ha1 := e1 _ _ ha (by intro ps z; cases z)
    have hlb : ∀ l : Sw.Bytes, (bytesV l).length = l.length := fun l => List.length_map ..
    generalize hcd : SwSqueeze.coded bs.length (SwSqueeze.parse bs) = cd at hpc1
    have hblk : blockOf bs = Sw.le 4 (if cd.length < bs.length then (1 :: cd) else (0 :: bs)).length ++ (if cd.length < bs.length then (1 :: cd) else (0 :: bs)) := by
      rw [← hcd]; rfl
    refine ⟨_, rfl, _, _, rfl, .inl (.inl (.inl hpc1)), _, rfl, _, _, rfl, .inl (.inl (.inl ha1)), _, _, rfl, rfl, _, rfl, ?_⟩
    refine ite2 (fun h => ?_) (fun h => ?_)
    · have h' : ¬ cd.length < bs.length := by
        have := of_decide_eq_true h
        rw [hlb, hlb] at this
        omega
      rw [if_neg h'] at hblk
      have hzz : blockOf bs = Sw.le 4 (1 + bs.length) ++ ([0] ++ bs) := by rw [hblk, List.length_cons, Nat.add_comm]; rfl
      have hzn : bs.length ≤ 1024 := hbn
      refine ⟨_, rfl, ?_⟩
      have hbb := ha1
      refine ⟨_, rfl, _, _, rfl, .inl (.inl (.inl hbb)), _, _, rfl, rfl, 1 + bs.length, 4, ?_, by decide, fun H2 p2 hs2 hp20 hp21 => ?_⟩
      · dsimp only
        rw [hlb, show (1 : Int) + ((bs.length : Nat) : Int) = ((1 + bs.length : Nat) : Int) by omega]
        rfl
      refine ⟨_, rfl, by show 1 ≤ _; decide, fun p3 hp3 => ?_⟩
      have hbb3 := same_new (o := .lst [V.int 0]) hp3 _ _ (hs2 _ _ hbb)
      have hp23 := same_new (o := .lst [V.int 0]) hp3 _ _ hp21
      have hp33 : upd H2 p3 (.lst [V.int 0]) p3 = some (.lst (bytesV [0])) := by rw [upd_same]; rfl
      have hs3 : Same H1 (upd H2 p3 (.lst [V.int 0])) := same_made hs2 hp3
      generalize upd H2 p3 (.lst [V.int 0]) = H3 at hbb3 hp23 hp33 hs3 ⊢
      refine ⟨p2, p3, _, _, rfl, rfl, hp23, hp33, ?_, fun p4 hp4 => ?_⟩
      · rw [hlb, hlb, le_length]
        exact line_le (by decide)
      have hbb4 := same_new (o := .lst (bytesV (Sw.le 4 (1 + bs.length)) ++ bytesV [0])) hp4 _ _ hbb3
      refine ⟨_, rfl, p4, _, _, _, rfl, rfl, upd_same, hbb4, ?_, fun p5 hp5 => ?_⟩
      · rw [List.length_append, hlb, hlb, hlb, le_length]
        exact line_le (by show 4 + 1 + _ ≤ _; omega)
      · have hs5 : Same H1 (upd (upd H3 p4 (.lst (bytesV (Sw.le 4 (1 + bs.length)) ++ bytesV [0]))) p5 (.lst (bytesV (Sw.le 4 (1 + bs.length)) ++ bytesV [0] ++ bytesV bs))) := same_made (same_made hs3 hp4) hp5
        refine q _ p5 (e1.trans (ExtN.of hs5)) (t1.ext hs5) (fresh_of e1 (hs3.free ((same_new hp4).free hp5))) ?_
        rw [upd_same, hzz]
        unfold bytesV
        rw [List.map_append, List.map_append, List.append_assoc]
    · have h' : cd.length < bs.length := by
        rcases Nat.lt_or_ge cd.length bs.length with h2 | h2
        · exact h2
        · exact absurd (decide_eq_true (by rw [hlb, hlb]; omega)) h
      rw [if_pos h'] at hblk
      have hzz : blockOf bs = Sw.le 4 (1 + cd.length) ++ ([1] ++ cd) := by rw [hblk, List.length_cons, Nat.add_comm]; rfl
      have hbb := hpc1
      refine ⟨_, rfl, _, _, rfl, .inl (.inl (.inl hbb)), _, _, rfl, rfl, 1 + cd.length, 4, ?_, by decide, fun H2 p2 hs2 hp20 hp21 => ?_⟩
      · dsimp only
        rw [hlb, show (1 : Int) + ((cd.length : Nat) : Int) = ((1 + cd.length : Nat) : Int) by omega]
        rfl
      refine ⟨_, rfl, by show 1 ≤ _; decide, fun p3 hp3 => ?_⟩
      have hbb3 := same_new (o := .lst [V.int 1]) hp3 _ _ (hs2 _ _ hbb)
      have hp23 := same_new (o := .lst [V.int 1]) hp3 _ _ hp21
      have hp33 : upd H2 p3 (.lst [V.int 1]) p3 = some (.lst (bytesV [1])) := by rw [upd_same]; rfl
      have hs3 : Same H1 (upd H2 p3 (.lst [V.int 1])) := same_made hs2 hp3
      generalize upd H2 p3 (.lst [V.int 1]) = H3 at hbb3 hp23 hp33 hs3 ⊢
      refine ⟨p2, p3, _, _, rfl, rfl, hp23, hp33, ?_, fun p4 hp4 => ?_⟩
      · rw [hlb, hlb, le_length]
        exact line_le (by decide)
      have hbb4 := same_new (o := .lst (bytesV (Sw.le 4 (1 + cd.length)) ++ bytesV [1])) hp4 _ _ hbb3
      refine ⟨_, rfl, p4, _, _, _, rfl, rfl, upd_same, hbb4, ?_, fun p5 hp5 => ?_⟩
      · rw [List.length_append, hlb, hlb, hlb, le_length]
        exact line_le (by show 4 + 1 + _ ≤ _; omega)
      · have hs5 : Same H1 (upd (upd H3 p4 (.lst (bytesV (Sw.le 4 (1 + cd.length)) ++ bytesV [1]))) p5 (.lst (bytesV (Sw.le 4 (1 + cd.length)) ++ bytesV [1] ++ bytesV cd))) := same_made (same_made hs3 hp4) hp5
        refine q _ p5 (e1.trans (ExtN.of hs5)) (t1.ext hs5) (fresh_of e1 (hs3.free ((same_new hp4).free hp5))) ?_
        rw [upd_same, hzz]
        unfold bytesV
        rw [List.map_append, List.map_append, List.append_assoc]
end
end Sq
end
section
set_option Elab.async false
set_option maxRecDepth 100000
set_option maxHeartbeats 2000000
/-! packing: the row. -/
namespace Sq
open PySem PySem.Spec PyProof.Rows L2 SqX LamX
open SwSqueeze (blockOf pieces)
def keyOf (bb : Sw.Bytes) : List Key := bb.map fun c => (Sum.inl (c.toNat : Int) : Key)
theorem keyOf_V (bb : Sw.Bytes) : (keyOf bb).map kV = bytesV bb := by
  unfold keyOf bytesV
  rw [List.map_map]
  rfl
theorem keyOf_inj : ∀ {b1 b2 : Sw.Bytes}, keyOf b1 = keyOf b2 → b1 = b2
  | [], [], _ => rfl
  | [], _ :: _, h => by cases h
  | _ :: _, [], h => by cases h
  | x :: b1, y :: b2, h => by
    have h := List.cons.inj h
    have h1 : (x.toNat : Int) = (y.toNat : Int) := by
      have := h.1
      injection this
    rw [keyOf_inj h.2, UInt8.toNat_inj.mp (by omega : x.toNat = y.toNat)]
theorem valV_mem {κ : Type} [DecidableEq κ] {kvs : List (κ × V)} {k : κ} {v : V} (h : valV kvs k = some v) : (k, v) ∈ kvs := by
  induction kvs with
  | nil => cases h
  | cons p r ih =>
    by_cases e : p.1 = k
    · rw [valV_pos e] at h
      cases h
      subst e
      exact List.mem_cons_self
    · rw [valV_neg e] at h
      exact List.mem_cons_of_mem _ (ih h)
def pieceAt (t : Sw.Bytes) (i : Nat) : Sw.Bytes := (t.drop (1024 * i)).take 1024
theorem chunks_eq : ∀ (n : Nat) (t : Sw.Bytes), t.length < n → Sw.chunks 1024 n t = (List.range ((t.length + 1023) / 1024)).map (pieceAt t)
  | 0, t, h => by omega
  | n + 1, [], _ => rfl
  | n + 1, x :: t, h => by
    show (x :: t).take 1024 :: Sw.chunks 1024 n ((x :: t).drop 1024) = _
    rw [chunks_eq n _ (by rw [List.length_drop, List.length_cons] at *; omega)]
    have e : ((x :: t).length + 1023) / 1024 = (((x :: t).drop 1024).length + 1023) / 1024 + 1 := by
      rw [List.length_drop, List.length_cons]; omega
    rw [e, List.range_succ_eq_map, List.map_cons, List.map_map]
    congr 1
    apply List.map_congr_left
    intro i _
    show ((List.drop 1024 (x :: t)).drop (1024 * i)).take 1024 = ((x :: t).drop (1024 * (i + 1))).take 1024
    rw [List.drop_drop, show 1024 + 1024 * i = 1024 * (i + 1) by omega]
theorem pieces_eq (t : Sw.Bytes) : pieces t = (List.range ((t.length + 1023) / 1024)).map (pieceAt t) := chunks_eq _ t (Nat.lt_succ_self _)
/-- the row's bytes behind i blocks -/
def rowTo (t : Sw.Bytes) (i : Nat) : Sw.Bytes := Sw.ascii "SWZ1" ++ ((List.range i).map (pieceAt t)).flatMap blockOf
theorem blockOf_len (t : Sw.Bytes) (h : t.length ≤ 1024) : (blockOf t).length ≤ 1029 := by
  unfold blockOf
  dsimp only
  rw [List.length_append, le_length]
  split <;> rw [List.length_cons] <;> omega
theorem pieceAt_len (t : Sw.Bytes) (i : Nat) : (pieceAt t i).length ≤ 1024 := by
  unfold pieceAt
  rw [List.length_take]
  exact Nat.min_le_left _ _
theorem rowTo_succ (t : Sw.Bytes) (i : Nat) : rowTo t (i + 1) = rowTo t i ++ blockOf (pieceAt t i) := by
  unfold rowTo
  rw [List.range_succ, List.map_append, List.flatMap_append, List.append_assoc]
  simp
theorem rowTo_len (t : Sw.Bytes) : ∀ i, (rowTo t i).length ≤ 4 + 1029 * i
  | 0 => by
    show (Sw.ascii "SWZ1" ++ []).length ≤ 4
    decide
  | i + 1 => by
    rw [rowTo_succ, List.length_append]
    have := rowTo_len t i
    have := blockOf_len _ (pieceAt_len t i)
    omega
theorem packed_eq (t : Sw.Bytes) : SwSqueeze.packed t = rowTo t ((t.length + 1023) / 1024) ++ (Sw.le 4 0 ++ Sw.le 8 t.length) := by
  unfold SwSqueeze.packed rowTo
  rw [pieces_eq, List.append_assoc]
/-- the bytes of the first k blocks -/
def blocksTo (t : Sw.Bytes) (k : Nat) : Sw.Bytes := ((List.range k).map (pieceAt t)).flatMap blockOf
theorem rowTo_eq (t : Sw.Bytes) (k : Nat) : rowTo t k = Sw.ascii "SWZ1" ++ blocksTo t k := rfl
theorem blocksTo_succ (t : Sw.Bytes) (i : Nat) : blocksTo t (i + 1) = blocksTo t i ++ blockOf (pieceAt t i) := by
  unfold blocksTo
  rw [List.range_succ, List.map_append, List.flatMap_append]
  simp
theorem blocksTo_len (t : Sw.Bytes) : ∀ i, (blocksTo t i).length ≤ 1029 * i
  | 0 => Nat.le_refl _
  | i + 1 => by
    rw [blocksTo_succ, List.length_append]
    have := blocksTo_len t i
    have := blockOf_len _ (pieceAt_len t i)
    omega
/-! ### what belongs to an object: S; what moves -/
def Own (H : Hp) (b : Addr) : Prop := ∃ o, H b = some o ∧ ∀ ps, o ≠ .tbl ps
def FrS (S : Addr → Prop) (H H' : Hp) : Prop := ∀ b o, ¬ S b → H b = some o → (∀ ps, o ≠ .tbl ps) → H' b = some o
structure Mv (TT : List (Addr × Str)) (S S' : Addr → Prop) (H H' : Hp) : Prop where
  fr : FrS S H H'
  gr : ∀ b, S' b → S b ∨ Fresh H b
  tb : Tabs TT H'
theorem Own.fresh {H : Hp} {b : Addr} (h : Own H b) (f : Fresh H b) : False := by
  obtain ⟨o, h1, h2⟩ := h
  obtain ⟨ps, e⟩ := f o h1
  exact h2 ps e
theorem own_of {H : Hp} {b : Addr} (h : ¬ Fresh H b) : Own H b := by
  cases e : H b with
  | none => exact absurd (fun o z => by rw [e] at z; cases z) h
  | some o =>
    refine ⟨o, e, fun ps z => h fun o' z' => ?_⟩
    rw [e] at z'
    cases z'
    exact ⟨ps, z⟩
theorem fresh_none {H : Hp} {b : Addr} (h : H b = none) : Fresh H b := fun o z => by rw [h] at z; cases z
theorem Mv.refl {TT : List (Addr × Str)} {S : Addr → Prop} {H : Hp} (t : Tabs TT H) : Mv TT S S H H := ⟨fun _ _ _ h _ => h, fun _ h => .inl h, t⟩
theorem Mv.own {TT : List (Addr × Str)} {S S' : Addr → Prop} {H H' : Hp} (m : Mv TT S S' H H') {b : Addr} (ho : Own H b) (hb : ¬ S b) : ¬ S' b := fun h => by
  rcases m.gr b h with h | h
  · exact hb h
  · exact ho.fresh h
theorem Mv.get {TT : List (Addr × Str)} {S S' : Addr → Prop} {H H' : Hp} (m : Mv TT S S' H H') {b : Addr} {o : HO} (h : H b = some o) (hn : ∀ ps, o ≠ .tbl ps) (hb : ¬ S b) : H' b = some o := m.fr b o hb h hn
theorem Mv.trans {TT : List (Addr × Str)} {S S1 S2 : Addr → Prop} {H H1 H2 : Hp} (a : Mv TT S S1 H H1) (b : Mv TT S1 S2 H1 H2) : Mv TT S S2 H H2 := by
  refine ⟨fun x o hx e hn => b.fr x o (a.own ⟨o, e, hn⟩ hx) (a.fr x o hx e hn) hn, fun x h => ?_, b.tb⟩
  rcases b.gr x h with h | h
  · exact a.gr x h
  · by_cases hs : S x
    · exact .inl hs
    · by_cases hf : Fresh H x
      · exact .inr hf
      · obtain ⟨o, h1, h2⟩ := own_of hf
        obtain ⟨ps, e⟩ := h o (a.fr x o hs h1 h2)
        exact absurd e (h2 ps)
theorem Mv.ext {TT : List (Addr × Str)} {S : Addr → Prop} {H H' : Hp} (e : ExtN H H') (t : Tabs TT H') : Mv TT S S H H' := ⟨fun b o _ h hn => e b o h hn, fun _ h => .inl h, t⟩
theorem Mv.same {TT : List (Addr × Str)} {S : Addr → Prop} {H H' : Hp} (t : Tabs TT H) (e : Same H H') : Mv TT S S H H' := .ext (ExtN.of e) (t.ext e)
theorem Mv.put {TT : List (Addr × Str)} {S : Addr → Prop} {H : Hp} {p : Addr} {o u : HO} (t : Tabs TT H) (hp : S p) (h : H p = some o) (ho : Plain o) : Mv TT S S H (upd H p u) :=
  ⟨fun b v hb e _ => by rw [upd_ne (fun z : b = p => hb (by rw [z]; exact hp))]; exact e, fun _ h => .inl h, Tabs.put t h ho⟩
theorem Mv.less {TT : List (Addr × Str)} {S S1 S2 : Addr → Prop} {H H1 : Hp} (a : Mv TT S S1 H H1) (h : ∀ b, S2 b → S1 b ∨ Fresh H b) : Mv TT S S2 H H1 := ⟨a.fr, fun b hb => (h b hb).elim (a.gr b) .inr, a.tb⟩
/-- what's new moves nothing -/
theorem Mv.extN {TT : List (Addr × Str)} {S S' : Addr → Prop} {H H1 H2 : Hp} (m : Mv TT S S' H1 H2) (e : ExtN H H1) (hS : ∀ b, S b → Fresh H b) : ExtN H H2 := fun b o h hn => m.fr b o (fun z => by
  obtain ⟨ps, k⟩ := hS b z o h
  exact hn ps k) (e b o h hn) hn
/-! ### packings -/
def pkF (n : Nat) (aw au ak : Addr) : List (Str × V) := [("size", .int n), ("waiting", .ref aw), ("upcoming", .ref au), ("known", .ref ak)]
theorem pk_size {n aw au ak} : (pkF n aw au ak).lookup ("size" : Str) = some (.int n) := lk_here
theorem pk_waiting {n aw au ak} : (pkF n aw au ak).lookup ("waiting" : Str) = some (.ref aw) := (lk_past (by decide +kernel)).trans lk_here
theorem pk_upcoming {n aw au ak} : (pkF n aw au ak).lookup ("upcoming" : Str) = some (.ref au) := (lk_past (by decide +kernel)).trans ((lk_past (by decide +kernel)).trans lk_here)
theorem pk_known {n aw au ak} : (pkF n aw au ak).lookup ("known" : Str) = some (.ref ak) := (lk_past (by decide +kernel)).trans ((lk_past (by decide +kernel)).trans ((lk_past (by decide +kernel)).trans lk_here))
theorem pk_put_size {n aw au ak} {m : Nat} : putF "size" (.int m) (pkF n aw au ak) = pkF m aw au ak := put_here
theorem pk_put_waiting {n aw au ak} {b : Addr} : putF "waiting" (.ref b) (pkF n aw au ak) = pkF n b au ak := (put_past (by decide +kernel)).trans (congrArg _ put_here)
theorem pk_put_upcoming {n aw au ak} {b : Addr} : putF "upcoming" (.ref b) (pkF n aw au ak) = pkF n aw b ak := (put_past (by decide +kernel)).trans (congrArg _ ((put_past (by decide +kernel)).trans (congrArg _ put_here)))
theorem pk_meth {n aw au ak} {m : Str} (h : ((["size", "waiting", "upcoming", "known"] : List Str).all fun g => !(m == g)) = true) : (pkF n aw au ak).lookup m = none := by
  simp only [List.all_cons, List.all_nil, Bool.and_true, Bool.and_eq_true, Bool.not_eq_true'] at h
  obtain ⟨h1, h2, h3, h4⟩ := h
  exact (lk_past h1).trans ((lk_past h2).trans ((lk_past h3).trans ((lk_past h4).trans rfl)))
/-- what's kept of blocks packed -/
def KnownOk (S : Addr → Prop) (H : Hp) (pr : Addr) (kvs : List (List Key × V)) : Prop := ∀ kv ∈ kvs, ∃ bb q, kv = (keyOf bb, V.ref q) ∧ H q = some (.lst (bytesV (blockOf bb))) ∧ q ≠ pr ∧ S q
structure PkA (C : Addr) (H : Hp) (S : Addr → Prop) (p : Addr) (n m : Nat) (wait up : Sw.Bytes) (dx aw au ak : Addr) (kvs : List (List Key × V)) : Prop where
  hp : H p = some (.ins C dx (pkF n aw au ak))
  hw : H aw = some (.lst (bytesV wait))
  hu : H au = some (.lst (bytesV up))
  hk : H ak = some (.dT kvs)
  ne : aw ≠ au
  kn : KnownOk S H au kvs
  kl : kvs.length ≤ m
  sp : S p
  sw : S aw
  su : S au
  sk : S ak
  own : ∀ b, S b → Own H b
/-- a packing: so many bytes taken, at most m blocks known, what waits, what's to come -/
def Pk (C : Addr) (H : Hp) (S : Addr → Prop) (p : Addr) (n m : Nat) (wait up : Sw.Bytes) : Prop := ∃ dx aw au ak kvs, PkA C H S p n m wait up dx aw au ak kvs
theorem own_lst {H : Hp} {b : Addr} {l : List V} (h : H b = some (.lst l)) : Own H b := ⟨_, h, by intro ps z; cases z⟩
theorem KnownOk.move {S : Addr → Prop} {H H' : Hp} {pr : Addr} {kvs : List (List Key × V)} (h : KnownOk S H pr kvs) (e : ∀ b l, S b → b ≠ pr → H b = some (.lst l) → H' b = some (.lst l)) : KnownOk S H' pr kvs := fun kv hkv => by
  obtain ⟨bb, q, h1, h2, h3, h4⟩ := h kv hkv
  exact ⟨bb, q, h1, e _ _ h4 h3 h2, h3, h4⟩
/-- what leaves alone all that's here -/
theorem PkA.keep {C : Addr} {H H' : Hp} {S : Addr → Prop} {p : Addr} {n m : Nat} {wait up : Sw.Bytes} {dx aw au ak : Addr} {kvs : List (List Key × V)} (h : PkA C H S p n m wait up dx aw au ak kvs) (e : ∀ b o, S b → H b = some o → (∀ ps, o ≠ .tbl ps) → H' b = some o) :
    PkA C H' S p n m wait up dx aw au ak kvs :=
  ⟨e _ _ h.sp h.hp (by intro ps z; cases z), e _ _ h.sw h.hw (by intro ps z; cases z), e _ _ h.su h.hu (by intro ps z; cases z), e _ _ h.sk h.hk (by intro ps z; cases z), h.ne, h.kn.move fun b l hb _ hl => e _ _ hb hl (by intro ps z; cases z), h.kl, h.sp, h.sw, h.su, h.sk,
    fun b hb => by
      obtain ⟨o, h1, h2⟩ := h.own b hb
      exact ⟨o, e _ _ hb h1 h2, h2⟩⟩
theorem PkA.ext {C : Addr} {H H' : Hp} {S : Addr → Prop} {p : Addr} {n m : Nat} {wait up : Sw.Bytes} {dx aw au ak : Addr} {kvs : List (List Key × V)} (h : PkA C H S p n m wait up dx aw au ak kvs) (e : ExtN H H') : PkA C H' S p n m wait up dx aw au ak kvs := h.keep fun b o _ h1 h2 => e b o h1 h2
theorem Pk.keep {C : Addr} {H H' : Hp} {S : Addr → Prop} {p : Addr} {n m : Nat} {wait up : Sw.Bytes} (h : Pk C H S p n m wait up) (e : ∀ b o, S b → H b = some o → (∀ ps, o ≠ .tbl ps) → H' b = some o) : Pk C H' S p n m wait up := by
  obtain ⟨dx, aw, au, ak, kvs, h⟩ := h
  exact ⟨dx, aw, au, ak, kvs, h.keep e⟩
theorem Pk.ext {C : Addr} {H H' : Hp} {S : Addr → Prop} {p : Addr} {n m : Nat} {wait up : Sw.Bytes} (h : Pk C H S p n m wait up) (e : ExtN H H') : Pk C H' S p n m wait up := h.keep fun b o _ h1 h2 => e b o h1 h2
theorem own_upd {H : Hp} {S : Addr → Prop} {p : Addr} {o : HO} (h : ∀ b, S b → Own H b) (ho : ∀ ps, o ≠ .tbl ps) : ∀ b, S b → Own (upd H p o) b := fun b hb => by
  by_cases e : b = p
  · rw [e]; exact ⟨o, upd_same, ho⟩
  · obtain ⟨o', h1, h2⟩ := h b hb
    exact ⟨o', by rw [upd_ne e]; exact h1, h2⟩
theorem plain_dT (kvs : List (List Key × V)) : Plain (.dT kvs) := ⟨fun _ z => (nomatch z), fun c q z => by unfold CodeO at z; cases z⟩
/-- the packing's own fields changed: all else as it was -/
theorem PkA.setF {C : Addr} {H : Hp} {S : Addr → Prop} {p : Addr} {n m : Nat} {wait up : Sw.Bytes} {dx aw au ak : Addr} {kvs : List (List Key × V)} (h : PkA C H S p n m wait up dx aw au ak kvs) (n' : Nat) : PkA C (upd H p (.ins C dx (pkF n' aw au ak))) S p n' m wait up dx aw au ak kvs := by
  have hwp : aw ≠ p := ne_of h.hw h.hp (by intro z; cases z)
  have hup : au ≠ p := ne_of h.hu h.hp (by intro z; cases z)
  have hkp : ak ≠ p := ne_of h.hk h.hp (by intro z; cases z)
  exact ⟨upd_same, by rw [upd_ne hwp]; exact h.hw, by rw [upd_ne hup]; exact h.hu, by rw [upd_ne hkp]; exact h.hk, h.ne, h.kn.move fun b l _ _ hl => by rw [upd_ne (ne_of hl h.hp (by intro z; cases z))]; exact hl, h.kl, h.sp, h.sw, h.su, h.sk, own_upd h.own (by intro ps z; cases z)⟩
/-- another list waits -/
theorem PkA.setW {C : Addr} {H : Hp} {S : Addr → Prop} {p : Addr} {n m : Nat} {wait up : Sw.Bytes} {dx aw au ak : Addr} {kvs : List (List Key × V)} (h : PkA C H S p n m wait up dx aw au ak kvs) {b : Addr} {w' : Sw.Bytes} (hb : H b = some (.lst (bytesV w'))) (hne : b ≠ au) :
    PkA C (upd H p (.ins C dx (pkF n b au ak))) (fun x => S x ∨ x = b) p n m w' up dx b au ak kvs := by
  have hbp : b ≠ p := ne_of hb h.hp (by intro z; cases z)
  have hup : au ≠ p := ne_of h.hu h.hp (by intro z; cases z)
  have hkp : ak ≠ p := ne_of h.hk h.hp (by intro z; cases z)
  refine ⟨upd_same, by rw [upd_ne hbp]; exact hb, by rw [upd_ne hup]; exact h.hu, by rw [upd_ne hkp]; exact h.hk, hne, fun kv hkv => ?_, h.kl, .inl h.sp, .inr rfl, .inl h.su, .inl h.sk, own_upd (fun x hx => ?_) (by intro ps z; cases z)⟩
  · obtain ⟨bb, q, h1, h2, h3, h4⟩ := h.kn kv hkv
    exact ⟨bb, q, h1, by rw [upd_ne (ne_of h2 h.hp (by intro z; cases z))]; exact h2, h3, .inl h4⟩
  · rcases hx with hx | rfl
    · exact h.own x hx
    · exact own_lst hb
def sp_packed (TT : List (Addr × Str)) : Sp := fun vs H Q _ => ∃ (a : Addr) (bs : Sw.Bytes), vs = [.ref a] ∧ H a = some (.lst (bytesV bs)) ∧ bs.length ≤ 10000000 ∧ Tabs TT H ∧
  ∀ H' p, ExtN H H' → Tabs TT H' → Fresh H p → H' p = some (.lst (bytesV (SwSqueeze.packed bs))) → Q (.ref p) H'
def sp_add_block (TT : List (Addr × Str)) (C : Addr) : Sp := fun vs H Q _ => ∃ (p a : Addr) (S : Addr → Prop) (n m : Nat) (wait up bb : Sw.Bytes), vs = [.ref p, .ref a] ∧ Pk C H S p n m wait up ∧ H a = some (.lst (bytesV bb)) ∧ 1 ≤ bb.length ∧ bb.length ≤ 1024 ∧ m ≤ 1000000 ∧ up.length ≤ 15000000 ∧ Tabs TT H ∧
  ∀ H' S', Pk C H' S' p n (m + 1) wait (up ++ blockOf bb) → Mv TT S S' H H' → Q .non H'
section
variable {P : Program} {w : World} {K : PySem.W.Frag} {mg : Str → Option Value} {base : Heap} {c : CA} {f : Addr} {fd : FuncData} {TT : List (Addr × Str)}
theorem ok_Packing_add_block (T : Tx K mg c) (GB : Hd P w K mg base CX0 6 "packed_block" ["text"] (sp_packed_block TT))
    (F : Fun K "add_block" "Packing.add_block" s_Packing_add_block f fd) : FnOk P w K mg base CX0 7 f fd ["self", "text"] (sp_add_block TT c.Packing) := by
  refine F.ok sc_Packing_add_block (fun vs H Q E h => ?_) (fun cdv A outer s H vs Q E hr h => ?_)
  · obtain ⟨p, a, S, n, m, wait, up, bb, rfl, _⟩ := h
    rfl
  · refine ⟨_, (pss_cons (ps_set (i := 2) sc_Packing_add_block.nd rfl (Or.inl rfl) (pe_callTy call_tuple_of (by rfl) T.tuple (by decide +kernel) (pa_cons (pv 1) pa_nil)))
  (pss_cons (ps_if (pt_cmp (pc_dnotin (hu_of hr) (pv 2) (pe_fld (pv 0) rfl))) (pss_one (ps_dput (hu_of hr) (pe_fld (pv 0) rfl) (pv 2) (pe_cd GB (hr.mono (by decide)) pass0 (pa_cons (pv 1) pa_nil)) rfl)) pss_nil)
  (pss_one (ps_expr (pe_bm PySem.F.plainAttrs_list PySem.F.slot_list_extend PySem.F.type_list_extend mt_extend (pe_fld (pv 0) rfl) (pa_cons (pe_dget (hu_of hr) (pe_fld (pv 0) rfl) (pv 2) (fun _ _ => rfl)) pa_nil)))))), ?_⟩
    obtain ⟨p, a, S, n, m, wait, up, bb, rfl, hP, ha, hb1, hb2, hm, hul, hT, q⟩ := h
    obtain ⟨dx, aw, au, ak, kvs, hA⟩ := hP
    have hbl : ∀ l : Sw.Bytes, (bytesV l).length = l.length := fun l => List.length_map ..
    refine ⟨_, rfl, a, _, rfl, .inl ⟨.inl (.inl ha), fun kt hkt => ?_⟩⟩
    have hs1 : Same H (upd H kt (.tup (bytesV bb))) := same_new hkt
    have hkt1 : upd H kt (.tup (bytesV bb)) kt = some (.tup ((keyOf bb).map kV)) := by rw [upd_same, keyOf_V]
    have ha1 := hs1 _ _ ha
    have hA1 := hA.ext (ExtN.of hs1)
    have hT1 := hT.ext hs1
    have hM1 : Mv TT S S H (upd H kt (.tup (bytesV bb))) := Mv.same hT hs1
    have hktS : ¬ S kt := fun z => (hA.own _ z).fresh (fresh_none hkt)
    generalize upd H kt (.tup (bytesV bb)) = H1 at hs1 hkt1 ha1 hA1 hT1 hM1 ⊢
    refine ⟨_, rfl, _, rfl, p, _, dx, _, _, rfl, hA1.hp, T.c_Packing, T.n_Packing_known, pk_known, ak, _, rfl, .inr ⟨kvs, keyOf bb, kt, .inl hA1.hk, rfl, hkt1, rfl⟩, _, rfl, ?_⟩
    refine if_rest (H1 := H1) (fun H5 => ∃ (S' : Addr → Prop) (kvs' : List (List Key × V)) (qa : Addr), PkA c.Packing H5 S' p n (m + 1) wait up dx aw au ak kvs' ∧ Mv TT S S' H H5 ∧ valV kvs' (keyOf bb) = some (.ref qa) ∧ S' qa ∧ qa ≠ au ∧ H5 qa = some (.lst (bytesV (blockOf bb))) ∧ H5 kt = some (.tup ((keyOf bb).map kV))) (fun H5 hR => ?_) (fun h1 rest => ?_) (fun h1 => ?_)
    · obtain ⟨S', kvs', qa, hA5, hM5, hv5, hsq, hqu, hq5, hkt5⟩ := hR
      refine ⟨_, rfl, p, _, dx, _, _, rfl, hA5.hp, T.c_Packing, T.n_Packing_upcoming, pk_upcoming, .inl ⟨rfl, _, .inl (.inl hA5.hu)⟩, _, rfl, p, _, dx, _, _, rfl, hA5.hp, T.c_Packing, T.n_Packing_known, pk_known, _, rfl, ak, _, rfl, .inr ⟨kvs', keyOf bb, kt, .inl hA5.hk, rfl, hkt5, hv5.symm⟩, au, qa, _, _, rfl, rfl, hA5.hu, hq5, ?_, ?_⟩
      · have h2 := blockOf_len bb hb2
        rw [hbl, hbl]
        exact line_le (by omega)
      · refine q _ S' ⟨dx, aw, au, ak, kvs', ?_⟩ (hM5.trans (Mv.put hM5.tb hA5.su hA5.hu (plain_lst _)))
        have hpu : p ≠ au := (ne_of hA5.hu hA5.hp (by intro z; cases z)).symm
        have hku : ak ≠ au := (ne_of hA5.hu hA5.hk (by intro z; cases z)).symm
        refine ⟨by rw [upd_ne hpu]; exact hA5.hp, by rw [upd_ne hA5.ne]; exact hA5.hw, ?_, by rw [upd_ne hku]; exact hA5.hk, hA5.ne, hA5.kn.move fun b l _ hb hl => by rw [upd_ne hb]; exact hl, hA5.kl, hA5.sp, hA5.sw, hA5.su, hA5.sk, own_upd hA5.own (by intro ps z; cases z)⟩
        rw [upd_same]
        unfold bytesV
        rw [List.map_append]
    · refine ⟨_, rfl, a, bb, rfl, ha1, hb1, hb2, hT1, fun H5 qb e5 t5 hqf hqb => ?_⟩
      have hA5 := hA1.ext e5
      have hkt5 := e5 _ _ hkt1 (by intro ps z; cases z)
      refine ⟨_, rfl, p, _, dx, _, _, rfl, hA5.hp, T.c_Packing, T.n_Packing_known, pk_known, _, rfl, ak, _, rfl, .inr ⟨kvs, keyOf bb, kt, hA5.hk, rfl, hkt5, line_lt (by have := hA.kl; omega), rfl⟩, ?_⟩
      have hnone : valV kvs (keyOf bb) = none := by
        cases hv : valV kvs (keyOf bb) with
        | none => rfl
        | some v => rw [hv] at h1; cases h1
      rw [putK_new _ hnone]
      have nf : ∀ {b o}, H1 b = some o → (∀ ps, o ≠ .tbl ps) → qb ≠ b := fun hb hn z => by
        obtain ⟨ps, hz⟩ := hqf _ (z ▸ hb)
        exact hn ps hz
      have hqu : qb ≠ au := nf hA1.hu (by intro ps z; cases z)
      have hqk : qb ≠ ak := nf hA1.hk (by intro ps z; cases z)
      have hktk : kt ≠ ak := ne_of hkt5 hA5.hk (by intro z; cases z)
      have hpk : p ≠ ak := ne_of hA5.hp hA5.hk (by intro z; cases z)
      have hwk : aw ≠ ak := ne_of hA5.hw hA5.hk (by intro z; cases z)
      have huk : au ≠ ak := ne_of hA5.hu hA5.hk (by intro z; cases z)
      have hM6 : Mv TT S S H (upd H5 ak (.dT (kvs ++ [(keyOf bb, .ref qb)]))) := (hM1.trans (Mv.ext e5 t5)).trans (Mv.put t5 hA5.sk hA5.hk (plain_dT _))
      refine rest _ ⟨fun x => S x ∨ x = qb, kvs ++ [(keyOf bb, .ref qb)], qb, ⟨by rw [upd_ne hpk]; exact hA5.hp, by rw [upd_ne hwk]; exact hA5.hw, by rw [upd_ne huk]; exact hA5.hu, upd_same, hA5.ne, fun kv hkv => ?_, by have := hA.kl; rw [List.length_append, List.length_singleton]; omega, .inl hA.sp, .inl hA.sw, .inl hA.su, .inl hA.sk, own_upd (fun x hx => ?_) (by intro ps z; cases z)⟩,
        hM6.less fun x hx => ?_, ?_, .inr rfl, hqu, by rw [upd_ne hqk]; exact hqb, by rw [upd_ne hktk]; exact hkt5⟩
      · rcases List.mem_append.mp hkv with h | h
        · obtain ⟨b2, qq, k1, k2, k3, k4⟩ := hA5.kn kv h
          exact ⟨b2, qq, k1, by rw [upd_ne (ne_of k2 hA5.hk (by intro z; cases z))]; exact k2, k3, .inl k4⟩
        · rw [List.mem_singleton.mp h]
          exact ⟨bb, qb, rfl, by rw [upd_ne hqk]; exact hqb, hqu, .inr rfl⟩
      · rcases hx with hx | rfl
        · exact hA5.own x hx
        · exact own_lst hqb
      · rcases hx with hx | rfl
        · exact .inl hx
        · exact .inr fun o ho => hqf o (hs1 _ _ ho)
      · rw [← putK_new _ hnone, valV_put, if_pos rfl]
    · cases hv : valV kvs (keyOf bb) with
      | none => rw [hv] at h1; exact absurd rfl h1
      | some v =>
        obtain ⟨b2, qq, k1, k2, k3, k4⟩ := hA1.kn _ (valV_mem hv)
        injection k1 with k5 k6
        have := keyOf_inj k5
        subst this
        subst k6
        exact ⟨S, kvs, qq, { hA1 with kl := Nat.le_succ_of_le hA1.kl }, hM1, hv, k4, k3, k2, hkt1⟩
end
end Sq
end
section
set_option Elab.async false
set_option maxRecDepth 100000
set_option maxHeartbeats 2000000
/-! coding: read. -/
namespace Sq
open PySem PySem.Spec PyProof.Rows L2 SqX LamX
open SwSqueeze (readLengths takeBits numLow)
theorem takeBits_drop (bits : List Bool) (k n : Nat) (h : k ≤ bits.length) : takeBits n (bits.drop k) = if bits.length < k + n then none else some (numAt (bits.drop k) n, bits.drop (k + n)) := by
  unfold takeBits numAt
  rw [List.length_drop, List.drop_drop]
  by_cases c : bits.length < k + n
  · rw [if_pos c, if_pos (by omega)]
  · rw [if_neg c, if_neg (by omega)]
theorem SameBut.seqF {K : PySem.W.Frag} {H H' : Hp} {p q : Addr} {xs : List V} (_ : SameBut p H H') (h : H' q = some (.lst xs)) : SqL K H' q xs := .inl (.inl h)
def sp_take_lengths (c : CA) : Sp := fun vs H Q E => ∃ (p a : Addr) (bits : List Bool) (k : Nat), vs = [.ref p] ∧ BR c.BitReader H p a bits k ∧ k ≤ bits.length ∧ bits.length ≤ 1000000 ∧
  (readLengths 277 276 0 (bits.drop k) = none → ∀ H', SameBut p H H' → E (.ref c.NoCodedBlock) none H') ∧
  ∀ ls k2, readLengths 277 276 0 (bits.drop k) = some (ls, bits.drop k2) → k ≤ k2 → k2 ≤ bits.length → ls.length = 276 → (∀ n ∈ ls, n ≤ 15) → ∀ H' q, BR c.BitReader H' p a bits k2 → SameBut p H H' → H q = none → H' q = some (.lst (natsV ls)) → Q (.ref q) H'
theorem BR.keep {C : Addr} {H H' : Hp} {p a : Addr} {bits : List Bool} {k : Nat} (h : BR C H p a bits k) (s : Same H H') : BR C H' p a bits k := by
  obtain ⟨dx, h1, h2⟩ := h
  exact ⟨dx, s _ _ h1, s _ _ h2⟩
theorem BR.put {C : Addr} {H : Hp} {p a q : Addr} {bits : List Bool} {k : Nat} {o : HO} (h : BR C H p a bits k) (h1 : q ≠ p) (h2 : q ≠ a) : BR C (upd H q o) p a bits k := by
  obtain ⟨dx, h3, h4⟩ := h
  exact ⟨dx, by rw [upd_ne h1.symm]; exact h3, by rw [upd_ne h2.symm]; exact h4⟩
section
variable {P : Program} {w : World} {K : PySem.W.Frag} {mg : Str → Option Value} {base : Heap} {c : CA} {f : Addr} {fd : FuncData}
theorem ok_take_lengths (T : Tx K mg c) (GN : Hm P w K mg base (L2N.CX P w) 2 c.BitReader "take_number" ["self", "width"] (sp_take_number c)) (F : Fun K "take_lengths" "take_lengths" s_take_lengths f fd) :
    FnOk P w K mg base (L2N.CX P w) 3 f fd ["reader"] (sp_take_lengths c) := by
  refine okXN F sc_take_lengths (fun vs H Q E h => ?_) (fun cdv A outer s H vs Q E hr h => ?_)
  · obtain ⟨p, a, bits, k, rfl, _⟩ := h
    rfl
  · refine ⟨_, (pss_cons (ps_set (i := 1) sc_take_lengths.nd rfl (Or.inl rfl) (pe_lst pa_nil))
  (pss_cons (ps_set (i := 2) sc_take_lengths.nd rfl (Or.inl rfl) (pe_gI rfl T.LONGEST_RUN))
  (pss_cons (ps_while (passes_of rfl) (pt_cmpR op_lt (pe_callB call_len_seq (by rfl) T.len (by decide +kernel) (pa_cons (pv 1) pa_nil)) (pe_op op_add (pe_gI rfl T.SYMBOLS) (pe_gI rfl T.DISTANCE_CLASSES)) (nomark _)) (pss_cons (ps_set (i := 3) sc_take_lengths.nd rfl (Or.inl rfl) (pe_md T.c_BitReader GN (hr.mono (by decide)) (L2N.passes_call (L2N.takes_of rfl rfl rfl rfl) (fun _ _ _ _ h => h)) (pv 0) (pa_cons (pe_gI rfl T.LENGTH_WIDTH) pa_nil)))
    (pss_one (ps_if (pt_truK (K := K) rfl (pv 3) (by intro _; rfl)) (pss_cons (ps_expr (pe_bm PySem.F.plainAttrs_list PySem.F.slot_list_append PySem.F.type_list_append mt_append (pv 1) (pa_cons (pv 3) pa_nil)))
      (pss_one (ps_set (i := 2) sc_take_lengths.nd rfl (Or.inl rfl) (pe_gI rfl T.LONGEST_RUN)))) (pss_cons (ps_if (pt_cmpR op_lt (pv 2) (pe_gI rfl T.LONGEST_RUN) (nomark _)) (pss_one (L2N.ps_raise rfl (L2N.takes_of rfl rfl rfl rfl) (pmk_own0N PySem.F.excBase_ValueError T.x_NoCodedBlock T.g_NoCodedBlock T.k_NoCodedBlock (raises_own T.b_NoCodedBlock T.t_NoCodedBlock) (by exact rfl)))) pss_nil)
      (pss_cons (ps_set (i := 2) sc_take_lengths.nd rfl (Or.inl rfl) (pe_op op_add (pe_md T.c_BitReader GN (hr.mono (by decide)) (L2N.passes_call (L2N.takes_of rfl rfl rfl rfl) (fun _ _ _ _ h => h)) (pv 0) (pa_cons (pe_gI rfl T.RUN_WIDTH) pa_nil)) pe_int))
      (pss_one (ps_expr (pe_bm PySem.F.plainAttrs_list PySem.F.slot_list_extend PySem.F.type_list_extend mt_extend (pv 1) (pa_cons (pe_op op_rep (pe_lst (pa_cons pe_int pa_nil)) (pv 2)) pa_nil))))))))))
  (pss_cons (ps_if (pt_cmpR op_gt (pe_callB call_len_seq (by rfl) T.len (by decide +kernel) (pa_cons (pv 1) pa_nil)) (pe_op op_add (pe_gI rfl T.SYMBOLS) (pe_gI rfl T.DISTANCE_CLASSES)) (nomark _)) (pss_one (L2N.ps_raise rfl (L2N.takes_of rfl rfl rfl rfl) (pmk_own0N PySem.F.excBase_ValueError T.x_NoCodedBlock T.g_NoCodedBlock T.k_NoCodedBlock (raises_own T.b_NoCodedBlock T.t_NoCodedBlock) (by exact rfl)))) pss_nil)
  (pss_one (ps_ret (pv 1))))))), ?_⟩
    obtain ⟨p, a, bits, k, rfl, hB, hk, hbl, hE, q⟩ := h
    have hnl : ∀ l : List Nat, (natsV l).length = l.length := fun l => List.length_map ..
    refine ⟨Nat.zero_le _, fun r hr0 => ?_⟩
    have hrp : r ≠ p := fun z => by obtain ⟨dx, h1, _⟩ := hB; rw [z, h1] at hr0; cases hr0
    have hra : r ≠ a := fun z => by obtain ⟨dx, _, h2⟩ := hB; rw [z, h2] at hr0; cases hr0
    generalize htot : readLengths 277 276 0 (bits.drop k) = tot at hE q
    refine ⟨fun m σ H' => ∃ (v3 : Option V) (ls : List Nat) (k' run f R : Nat), σ = [some (.ref p), some (.ref r), some (.int R), v3] ∧ SameBut p H H' ∧ BR c.BitReader H' p a bits k' ∧ H' r = some (.lst (natsV ls)) ∧ k ≤ k' ∧ k' ≤ bits.length ∧ (∀ n ∈ ls, n ≤ 15) ∧ R = (if run = 0 then 256 else run) ∧ m = 276 - ls.length ∧
      ((ls.length ≤ 276 ∧ 276 - ls.length < f ∧ tot = (readLengths f (276 - ls.length) run (bits.drop k')).map fun (y : List Nat × List Bool) => (ls ++ y.1, y.2)) ∨ (276 < ls.length ∧ ls.length ≤ 1000 ∧ tot = none)),
      ⟨276, none, [], k, 0, 277, 256, rfl, SameBut.of (same_new hr0), hB.keep (same_new hr0), upd_same, Nat.le_refl _, hk, nofun, rfl, rfl, .inl ⟨by decide, by decide, ?_⟩⟩, fun m σ H1 hW => ?_⟩
    · rw [← htot]
      show readLengths 277 276 0 (bits.drop k) = (readLengths 277 276 0 (bits.drop k)).map fun (y : List Nat × List Bool) => ([] ++ y.1, y.2)
      cases readLengths 277 276 0 (bits.drop k) <;> rfl
    · obtain ⟨v3, ls, k', run, f, R, rfl, hs1, hB1, hr1, hkk, hkb, h15, hR, hm, hcase⟩ := hW
      refine ⟨_, rfl, _, _, rfl, .inl (.inl (.inl hr1)), _, _, rfl, rfl, _, _, rfl, rfl, _, rfl, ?_⟩
      refine ite2 (fun h1 => ?_) (fun h1 => ?_)
      · have h1' : ls.length < 276 := by
          have := of_decide_eq_true h1
          rw [hnl] at this
          have : ((ls.length : Nat) : Int) < 265 + 11 := this
          omega
        have hcase2 : 276 - ls.length < f ∧ tot = (readLengths f (276 - ls.length) run (bits.drop k')).map fun (y : List Nat × List Bool) => (ls ++ y.1, y.2) := by
          rcases hcase with ⟨_, h2, h3⟩ | ⟨h2, _⟩
          · exact ⟨h2, h3⟩
          · omega
        obtain ⟨hf, ht⟩ := hcase2
        obtain ⟨f0, rfl⟩ : ∃ f0, f = f0 + 1 := ⟨f - 1, by omega⟩
        have hrd : readLengths (f0 + 1) (276 - ls.length) run (bits.drop k') = (takeBits 4 (bits.drop k')).bind fun (x : Nat × List Bool) =>
            if x.1 ≠ 0 then (readLengths f0 (276 - ls.length - 1) 0 x.2).map fun (y : List Nat × List Bool) => (x.1 :: y.1, y.2)
            else (takeBits 8 x.2).bind fun (k : Nat × List Bool) =>
              if (run ≠ 0 ∧ run < 256) ∨ 276 - ls.length < k.1 + 1 then none
              else (readLengths f0 (276 - ls.length - (k.1 + 1)) (k.1 + 1) k.2).map fun (y : List Nat × List Bool) => (List.replicate (k.1 + 1) 0 ++ y.1, y.2) := by
          show (if 276 - ls.length = 0 then some ([], bits.drop k') else _) = _
          rw [if_neg (by omega)]
        rw [hrd, takeBits_drop bits k' 4 hkb] at ht
        refine ⟨fun σ' H' => ∃ m', m' < m ∧ ∃ (v3 : Option V) (ls : List Nat) (k' run f R : Nat), σ' = [some (.ref p), some (.ref r), some (.int R), v3] ∧ SameBut p H H' ∧ BR c.BitReader H' p a bits k' ∧ H' r = some (.lst (natsV ls)) ∧ k ≤ k' ∧ k' ≤ bits.length ∧ (∀ n ∈ ls, n ≤ 15) ∧ R = (if run = 0 then 256 else run) ∧ m' = 276 - ls.length ∧
          ((ls.length ≤ 276 ∧ 276 - ls.length < f ∧ tot = (readLengths f (276 - ls.length) run (bits.drop k')).map fun (y : List Nat × List Bool) => (ls ++ y.1, y.2)) ∨ (276 < ls.length ∧ ls.length ≤ 1000 ∧ tot = none)), fun _ _ h => h, ?_⟩
        obtain ⟨dx1, hp1, ha1⟩ := id hB1
        refine ⟨_, rfl, p, dx1, _, rfl, hp1, brF_meth a _ (by decide +kernel) (by decide +kernel), p, a, bits, k', 4, rfl, hB1, hkb, hbl, by decide, fun hlt H2 hs2 => ?_, fun hge H2 hB2 hs2 => ?_⟩
        · rw [if_pos hlt] at ht
          exact hE ht _ (hs1.trans hs2)
        rw [if_neg (by omega)] at ht
        have hv := numAt_lt (bits.drop k') 4
        generalize numAt (bits.drop k') 4 = v at ht hv ⊢
        have ht : tot = (if v ≠ 0 then (readLengths f0 (276 - ls.length - 1) 0 (bits.drop (k' + 4))).map fun (y : List Nat × List Bool) => (v :: y.1, y.2)
            else (takeBits 8 (bits.drop (k' + 4))).bind fun (k : Nat × List Bool) =>
              if (run ≠ 0 ∧ run < 256) ∨ 276 - ls.length < k.1 + 1 then none
              else (readLengths f0 (276 - ls.length - (k.1 + 1)) (k.1 + 1) k.2).map fun (y : List Nat × List Bool) => (List.replicate (k.1 + 1) 0 ++ y.1, y.2)).map fun (y : List Nat × List Bool) => (ls ++ y.1, y.2) := ht
        have hr2 := hs2 _ _ hrp hr1
        refine ⟨_, rfl, ((v : Nat) : Int) != 0, rfl, ?_⟩
        refine ite2 (fun hb => ?_) (fun hb => ?_)
        · have hv0 : v ≠ 0 := by
            intro z; subst z; cases hb
          rw [if_pos hv0] at ht
          refine ⟨_, rfl, .inl ⟨rfl, _, .inl (.inl hr2)⟩, _, rfl, _, _, _, rfl, rfl, hr2, ?_, ?_⟩
          · rw [hnl]
            exact line_lt (by omega)
          · refine ⟨m - 1, by omega, some (.int v), ls ++ [v], k' + 4, 0, f0, 256, rfl, (hs1.trans hs2).made hr0, hB2.put hrp hra, ?_, by omega, by omega, ?_, rfl, by rw [List.length_append, List.length_singleton]; omega, .inl ⟨by rw [List.length_append, List.length_singleton]; omega, by rw [List.length_append, List.length_singleton]; omega, ?_⟩⟩
            · rw [upd_same]
              unfold natsV
              rw [List.map_append]
              rfl
            · intro n hn
              rcases List.mem_append.mp hn with h | h
              · exact h15 n h
              · rw [List.mem_singleton.mp h]; omega
            · rw [ht, List.length_append, List.length_singleton, show 276 - (ls.length + 1) = 276 - ls.length - 1 by omega]
              cases readLengths f0 (276 - ls.length - 1) 0 (bits.drop (k' + 4)) with
              | none => rfl
              | some y => simp
        · have hv0 : v = 0 := by
            by_cases z : v = 0
            · exact z
            · exact absurd (show (((v : Nat) : Int) != 0) = true by simp; omega) hb
          rw [if_neg (by omega), takeBits_drop bits (k' + 4) 8 (by omega)] at ht
          refine ⟨_, rfl, _, _, rfl, rfl, _, rfl, ?_⟩
          refine ite2 (fun hc => ?_) (fun hc => ?_)
          · have hc' : run ≠ 0 ∧ run < 256 := by
              have := of_decide_eq_true hc
              have : ((R : Nat) : Int) < 256 := this
              rw [hR] at this
              split at this <;> omega
            refine hE ?_ _ (hs1.trans hs2)
            rw [ht]
            split
            · rfl
            · show (if (run ≠ 0 ∧ run < 256) ∨ _ then none else _ : Option _).map _ = none
              rw [if_pos (.inl hc')]
              rfl
          · have hc' : ¬ (run ≠ 0 ∧ run < 256) := fun z => hc (decide_eq_true (by
              show ((R : Nat) : Int) < 256
              rw [hR, if_neg z.1]
              omega))
            obtain ⟨dx2, hp2, ha2⟩ := id hB2
            refine ⟨_, rfl, p, dx2, _, rfl, hp2, brF_meth a _ (by decide +kernel) (by decide +kernel), p, a, bits, k' + 4, 8, rfl, hB2, by omega, hbl, by decide, fun hlt H3 hs3 => ?_, fun hge2 H3 hB3 hs3 => ?_⟩
            · rw [if_pos hlt] at ht
              exact hE ht _ ((hs1.trans hs2).trans hs3)
            rw [if_neg (by omega)] at ht
            have hkv := numAt_lt (bits.drop (k' + 4)) 8
            generalize numAt (bits.drop (k' + 4)) 8 = kk at ht hkv ⊢
            have ht : tot = (if (run ≠ 0 ∧ run < 256) ∨ 276 - ls.length < kk + 1 then none
              else (readLengths f0 (276 - ls.length - (kk + 1)) (kk + 1) (bits.drop (k' + 4 + 8))).map fun (y : List Nat × List Bool) => (List.replicate (kk + 1) 0 ++ y.1, y.2)).map fun (y : List Nat × List Bool) => (ls ++ y.1, y.2) := ht
            have hr3 := hs3 _ _ hrp hr2
            have ek : ((kk : Nat) : Int) + 1 = ((kk + 1 : Nat) : Int) := by omega
            refine ⟨_, _, rfl, rfl, ?_⟩
            dsimp only
            rw [ek]
            refine ⟨_, rfl, .inl ⟨rfl, _, .inl (.inl hr3)⟩, by show 1 ≤ _; decide, fun z hz => ⟨_, rfl, z, _, _, rfl, rfl, upd_same, by omega, by omega, ?_, fun z2 hz2 => ?_⟩⟩
            · rw [List.length_singleton, Int.toNat_natCast]
              exact line_le (by omega)
            · rw [Int.toNat_natCast, flat_zeros]
              have hr5 : upd (upd H3 z (.lst [V.int 0])) z2 (.lst (natsV (List.replicate (kk + 1) 0))) r = some (.lst (natsV ls)) := by
                rw [upd_ne (ne_of_none ((same_new hz) _ _ hr3) hz2), upd_ne (ne_of_none hr3 hz)]
                exact hr3
              have hs5 : Same H3 (upd (upd H3 z (.lst [V.int 0])) z2 (.lst (natsV (List.replicate (kk + 1) 0)))) := same_made (same_new hz) hz2
              have hz5 : upd (upd H3 z (.lst [V.int 0])) z2 (.lst (natsV (List.replicate (kk + 1) 0))) z2 = some (.lst (natsV (List.replicate (kk + 1) 0))) := upd_same
              generalize upd (upd H3 z (.lst [V.int 0])) z2 (.lst (natsV (List.replicate (kk + 1) 0))) = H5 at hr5 hs5 hz5 ⊢
              have hlap : (ls ++ List.replicate (kk + 1) 0).length = ls.length + (kk + 1) := by rw [List.length_append, List.length_replicate]
              refine ⟨r, z2, _, _, rfl, rfl, hr5, hz5, ?_, ?_⟩
              · rw [hnl, hnl, List.length_replicate]
                exact line_le (by omega)
              · refine ⟨m - (kk + 1), by omega, some (.int v), ls ++ List.replicate (kk + 1) 0, k' + 4 + 8, kk + 1, f0, kk + 1, rfl, (((hs1.trans hs2).trans hs3).trans (SameBut.of hs5)).made hr0, (hB3.keep hs5).put hrp hra, ?_, by omega, by omega, ?_, by rw [if_neg (by omega)], by rw [hlap]; omega, ?_⟩
                · rw [upd_same]
                  unfold natsV
                  rw [List.map_append]
                · intro n hn
                  rcases List.mem_append.mp hn with h | h
                  · exact h15 n h
                  · rw [(List.mem_replicate.mp h).2]; omega
                · by_cases hov : 276 - ls.length < kk + 1
                  · refine .inr ⟨by rw [hlap]; omega, by rw [hlap]; omega, ?_⟩
                    rw [ht, if_pos (.inr hov)]
                    rfl
                  · refine .inl ⟨by rw [hlap]; omega, by rw [hlap]; omega, ?_⟩
                    rw [ht, if_neg (by rintro (h | h); exact hc' h; exact hov h), hlap, show 276 - (ls.length + (kk + 1)) = 276 - ls.length - (kk + 1) by omega]
                    cases readLengths f0 (276 - ls.length - (kk + 1)) (kk + 1) (bits.drop (k' + 4 + 8)) with
                    | none => rfl
                    | some y => simp
      · have h1' : 276 ≤ ls.length := by
          rcases Nat.lt_or_ge ls.length 276 with h | h
          · exact absurd (decide_eq_true (show ((natsV ls).length : Int) < 265 + 11 by rw [hnl]; omega)) h1
          · exact h
        refine ⟨_, rfl, _, _, rfl, .inl (.inl (.inl hr1)), _, _, rfl, rfl, _, _, rfl, rfl, _, rfl, ?_⟩
        refine ite2 (fun h2 => ?_) (fun h2 => ?_)
        · have h2' : 276 < ls.length := by
            have := of_decide_eq_true h2
            rw [hnl] at this
            have : (265 : Int) + 11 < ((ls.length : Nat) : Int) := this
            omega
          rcases hcase with ⟨h3, _⟩ | ⟨_, _, h3⟩
          · omega
          · exact hE h3 _ hs1
        · have h2' : ¬ 276 < ls.length := fun z => h2 (decide_eq_true (show (265 : Int) + 11 < ((natsV ls).length : Int) by rw [hnl]; omega))
          rcases hcase with ⟨h3, h4, h5⟩ | ⟨h3, _⟩
          · have hz : 276 - ls.length = 0 := by omega
            rw [hz] at h5 h4
            obtain ⟨f0, rfl⟩ : ∃ f0, f = f0 + 1 := ⟨f - 1, by omega⟩
            have h6 : readLengths (f0 + 1) 0 run (bits.drop k') = some ([], bits.drop k') := rfl
            rw [h6] at h5
            refine ⟨_, rfl, q ls k' ?_ hkk hkb (by omega) h15 _ r hB1 hs1 hr0 hr1⟩
            rw [h5]
            simp
          · omega
end
end Sq
end
section
set_option Elab.async false
set_option maxRecDepth 100000
set_option maxHeartbeats 2000000
/-! coding: codes checked, symbols read. -/
namespace Sq
open PySem PySem.Spec PyProof.Rows L2 SqX LamX
open SwSqueeze (takeBits wholeCode codewords readSymbol readNumber)
/-- lengths that are none of a block's codes -/
def BadCodes (ls ld : List Nat) : Prop := wholeCode ls = false ∨ wholeCode ld = false ∨ ls.all (fun (n : Nat) => n == 0) = true ∨ ((ls.drop 256).any (fun (n : Nat) => n != 0) = true ∧ ld.all (fun (n : Nat) => n == 0) = true)
theorem any_ints_eq (ls : List Nat) : (intsOf ls).any (fun n => n != 0) = !ls.all (fun n => n == 0) := by
  induction ls with
  | nil => rfl
  | cons n ls ih =>
    show (((n : Int) != 0) || (intsOf ls).any (fun n => n != 0)) = !((n == 0) && ls.all fun n => n == 0)
    rw [ih, Bool.not_and]
    congr 1
    cases n <;> rfl
theorem not_all_any (ls : List Nat) : (!ls.all (fun n => n == 0)) = ls.any (fun n => n != 0) := by
  induction ls with
  | nil => rfl
  | cons n ls ih =>
    rw [List.all_cons, List.any_cons, Bool.not_and, ih]
    congr 1
def sp_check_codes (K : PySem.W.Frag) (c : CA) : Sp := fun vs H Q E => ∃ (a b : Addr) (ls ld : List Nat), vs = [.ref a, .ref b] ∧ SqL K H a (natsV ls) ∧ SqL K H b (natsV ld) ∧ (∀ n ∈ ls, n ≤ 15) ∧ (∀ n ∈ ld, n ≤ 15) ∧ ls.length ≤ 10000 ∧ ld.length ≤ 10000 ∧
  (BadCodes ls ld → ∀ H', Same H H' → E (.ref c.NoCodedBlock) none H') ∧ (¬ BadCodes ls ld → ∀ H', Same H H' → Q .non H')
section
variable {P : Program} {w : World} {K : PySem.W.Frag} {mg : Str → Option Value} {base : Heap} {c : CA} {f : Addr} {fd : FuncData}
theorem ok_check_codes (T : Tx K mg c) (GW : Hd P w K mg base CX0 1 "is_whole" ["lengths"] (sp_is_whole K)) (F : Fun K "check_codes" "check_codes" s_check_codes f fd) :
    FnOk P w K mg base (L2N.CX P w) 2 f fd ["lengths", "distance_lengths"] (sp_check_codes K c) := by
  refine okXN F sc_check_codes (fun vs H Q E h => ?_) (fun cdv A outer s H vs Q E hr h => ?_)
  · obtain ⟨a, b, ls, ld, rfl, _⟩ := h
    rfl
  · refine ⟨_, (pss_cons (ps_if (PW.pt (pw_or (pt_not (pt_val (pe_cd GW (hr.mono (by decide)) pass0 (pa_cons (pv 0) pa_nil)))) (pw_or (pt_not (pt_val (pe_cd GW (hr.mono (by decide)) pass0 (pa_cons (pv 1) pa_nil)))) (pw_or1 (pt_not (pt_val (pe_callB (cr_anyI rfl) (by rfl) T.any (by decide +kernel) (pa_cons (pv 0) pa_nil)))))))) (pss_one (L2N.ps_raise rfl (L2N.takes_of rfl rfl rfl rfl) (pmk_own0N PySem.F.excBase_ValueError T.x_NoCodedBlock T.g_NoCodedBlock T.k_NoCodedBlock (raises_own T.b_NoCodedBlock T.t_NoCodedBlock) (by exact rfl)))) pss_nil)
  (pss_one (ps_if (PW.pt (pw_and (pt_val (pe_callB (cr_anyI rfl) (by rfl) T.any (by decide +kernel) (pa_cons (pe_slice sl_list (pv 0) (po_some (pe_gI rfl T.LETTERS)) po_none) pa_nil))) (pw_and1 (pt_not (pt_val (pe_callB (cr_anyI rfl) (by rfl) T.any (by decide +kernel) (pa_cons (pv 1) pa_nil))))))) (pss_one (L2N.ps_raise rfl (L2N.takes_of rfl rfl rfl rfl) (pmk_own0N PySem.F.excBase_ValueError T.x_NoCodedBlock T.g_NoCodedBlock T.k_NoCodedBlock (raises_own T.b_NoCodedBlock T.t_NoCodedBlock) (by exact rfl)))) pss_nil))), ?_⟩
    obtain ⟨a, b, ls, ld, rfl, hS, hD, h15, hd15, hl, hdl, hE, q⟩ := h
    refine ⟨_, rfl, a, ls, rfl, hS, h15, hl, fun H1 hs1 => ⟨_, rfl, ?_⟩⟩
    refine ite2 (fun h1 => ?_) (fun h1 => ?_)
    · exact hE (.inl (by simpa using h1)) _ hs1
    have h1' : wholeCode ls = true := by simpa using h1
    refine ⟨_, rfl, b, ld, rfl, hs1.seq hD, hd15, hdl, fun H2 hs2 => ⟨_, rfl, ?_⟩⟩
    have hs12 := hs1.trans hs2
    refine ite2 (fun h2 => ?_) (fun h2 => ?_)
    · exact hE (.inr (.inl (by simpa using h2))) _ hs12
    have h2' : wholeCode ld = true := by simpa using h2
    refine ⟨_, rfl, a, intsOf ls, rfl, by rw [intsV]; exact hs12.seq hS, _, rfl, ?_⟩
    refine ite2 (fun h3 => ?_) (fun h3 => ?_)
    · rw [any_ints_eq, Bool.not_not] at h3
      exact hE (.inr (.inr (.inl h3))) _ hs12
    rw [any_ints_eq, Bool.not_not] at h3
    refine ⟨_, rfl, _, rfl, _, _, rfl, hs12.seq hS, fun r hr0 => ?_⟩
    rw [show cutV (natsV ls) (some 256) none = (natsV ls).drop 256 from cut_drop _ 256]
    have hr1 : upd H2 r (.lst ((natsV ls).drop 256)) r = some (.lst (natsV (ls.drop 256))) := by
      rw [upd_same]
      unfold natsV
      rw [List.map_drop]
    have hs3 : Same H (upd H2 r (.lst ((natsV ls).drop 256))) := same_made hs12 hr0
    generalize upd H2 r (.lst ((natsV ls).drop 256)) = H3 at hr1 hs3 ⊢
    refine ⟨r, intsOf (ls.drop 256), rfl, by rw [intsV]; exact .inl (.inl hr1), _, rfl, ?_⟩
    refine ite2 (fun h4 => ?_) (fun h4 => ?_)
    · rw [any_ints_eq, not_all_any] at h4
      refine ⟨_, rfl, b, intsOf ld, rfl, by rw [intsV]; exact hs3.seq hD, _, rfl, ?_⟩
      refine ite2 (fun h5 => ?_) (fun h5 => ?_)
      · rw [any_ints_eq, Bool.not_not] at h5
        exact hE (.inr (.inr (.inr ⟨h4, h5⟩))) _ hs3
      · rw [any_ints_eq, Bool.not_not] at h5
        refine q ?_ _ hs3
        rintro (h | h | h | ⟨_, h⟩)
        · rw [h1'] at h; cases h
        · rw [h2'] at h; cases h
        · exact h3 h
        · exact h5 h
    · rw [any_ints_eq, not_all_any] at h4
      refine q ?_ _ hs3
      rintro (h | h | h | ⟨h, _⟩)
      · rw [h1'] at h; cases h
      · rw [h2'] at h; cases h
      · exact h3 h
      · exact h4 h
end
/-! ### items of a dict that's made there: it's locked from then on -/
def tLocked (td : TE) : TE := fun σ H Q => td σ H fun x H1 => ∃ (d : Addr) (kvs : List (Key × V)), x = .ref d ∧ H1 d = some (.dK kvs) ∧ ∀ o, Q x (upd H1 d (.frz o (.dK kvs)))
theorem pi_itemsL {X : Cx} {e : Expr} {td : TE} {apos cpos tpos : Pos} {elts : List Expr} {kk : Nat} (he : PE X e td) (hbase : attributeBase e "items" X.env (eval e X.env) = eval e X.env := by rfl) (hline : (apos.endLine == cpos.line) = true := by rfl) :
    PI X (.Tuple elts kk tpos) (.Call (.Attribute e "items" apos) [] [] cpos) (iItems (tLocked td)) := by
  refine pi_items (tpos := tpos) (elts := elts) (kk := kk) ⟨fun pins s σ H Q I h => ?_⟩ hbase hline
  refine thn (he.run pins s σ H _ I h) fun v s1 ⟨x, H1, I1, rx, d, kvs, ex, hd, q⟩ => ?_
  obtain ⟨od, I2⟩ := I1.lock hd trivial
  exact ⟨x, _, I2, rx, q od⟩
theorem merge_none {k : List Key} : ∀ (l kvs : List (List Key × V)), (∀ x ∈ l, x.1 ≠ k) → valV (mergeT kvs l) k = valV kvs k
  | [], _, _ => rfl
  | y :: l, kvs, h => by
    show valV (mergeT (putK kvs y.1 y.2) l) k = _
    rw [merge_none l _ (fun x hx => h x (List.mem_cons_of_mem _ hx)), valV_put, if_neg (fun z => h y List.mem_cons_self z.symm)]
theorem merge_some {x : List Key × V} : ∀ (l kvs : List (List Key × V)), x ∈ l → (∀ y ∈ l, y.1 = x.1 → y.2 = x.2) → valV (mergeT kvs l) x.1 = some x.2
  | [], _, h, _ => by cases h
  | y :: l, kvs, h, hu => by
    show valV (mergeT (putK kvs y.1 y.2) l) x.1 = _
    by_cases hm : ∃ z ∈ l, z.1 = x.1
    · obtain ⟨z, hz, he⟩ := hm
      have := merge_some (x := z) l (putK kvs y.1 y.2) hz (fun w hw hk => by rw [hu w (List.mem_cons_of_mem _ hw) (hk.trans he), hu z (List.mem_cons_of_mem _ hz) he])
      rw [he, hu z (List.mem_cons_of_mem _ hz) he] at this
      exact this
    · rw [merge_none l _ (fun z hz he => hm ⟨z, hz, he⟩), valV_put]
      rcases List.mem_cons.mp h with e | e
      · subst e; rw [if_pos rfl]
      · exact absurd ⟨x, e, rfl⟩ hm
/-- the key of a codeword -/
def wkey (n v : Nat) : List Key := [.inl (n : Int), .inl (v : Int)]
theorem wkey_inj {n v n' v' : Nat} (h : wkey n v = wkey n' v') : n = n' ∧ v = v' := by
  have h1 := List.cons.inj h
  have h2 := List.cons.inj h1.2
  have a := h1.1
  have b := h2.1
  injection a with a
  injection b with b
  omega
def symT (ls : List Nat) : List (List Key × V) := mergeT [] ((codewords ls).map fun q => (wkey q.2.1 q.2.2, V.int (q.1 : Nat)))
theorem symT_none {ls : List Nat} {n v : Nat} (h : ∀ q ∈ codewords ls, ¬ (q.2.1 = n ∧ q.2.2 = v)) : valV (symT ls) (wkey n v) = none := by
  unfold symT
  rw [merge_none _ _ fun x hx => ?_]
  · rfl
  · obtain ⟨q, hq, rfl⟩ := List.mem_map.mp hx
    exact fun e => h q hq (wkey_inj e)
theorem symT_some {ls : List Nat} (g : MC.GoodWords (codewords ls)) {q : Nat × Nat × Nat} (hq : q ∈ codewords ls) : valV (symT ls) (wkey q.2.1 q.2.2) = some (V.int (q.1 : Nat)) := by
  unfold symT
  refine merge_some (x := (wkey q.2.1 q.2.2, V.int (q.1 : Nat))) _ _ (List.mem_map.mpr ⟨q, hq, rfl⟩) fun y hy he => ?_
  obtain ⟨q', hq', rfl⟩ := List.mem_map.mp hy
  obtain ⟨h1, h2⟩ := wkey_inj he
  rw [MC.good_one g hq' hq h1 h2]
def sp_symbols_by_word (K : PySem.W.Frag) (TT : List (Addr × Str)) : Sp := fun vs H Q _ => ∃ (a : Addr) (ls : List Nat), vs = [.ref a] ∧ SqL K H a (natsV ls) ∧ ls.length ≤ 5000 ∧ (∀ i, ls.getD i 0 ≤ 15) ∧ Tabs TT H ∧
  ∀ H' p, ExtN H H' → Tabs TT H' → Fresh H p → H' p = some (.dT (symT ls)) → Q (.ref p) H'
section
variable {P : Program} {w : World} {K : PySem.W.Frag} {mg : Str → Option Value} {base : Heap} {c : CA} {f : Addr} {fd : FuncData} {TT : List (Addr × Str)}
theorem ok_symbols_by_word (T : Tx K mg c) (GW : Hd P w K mg base CX0 1 "codewords" ["lengths"] (sp_codewords K TT)) (F : Fun K "symbols_by_word" "symbols_by_word" s_symbols_by_word f fd) :
    FnOk P w K mg base CX0 2 f fd ["lengths"] (sp_symbols_by_word K TT) := by
  refine F.ok sc_symbols_by_word (fun vs H Q E h => ?_) (fun cdv A outer s H vs Q E hr h => ?_)
  · obtain ⟨a, ls, rfl, _⟩ := h
    rfl
  · refine ⟨_, (pss_one (ps_ret (pe_callTy (call_dictPT hr rfl) (by rfl) T.dict (by decide +kernel) (pa_cons (pe_lc (own := [("symbol", 1), ("word", 2)]) (g := gTup K 2 (gCons (gName 1) (gCons (gName 2) (gNil)))) (tt := tYes) rfl sc_symbols_by_word.nd (pi_itemsL (pe_cd GW (hr.mono (by decide)) pass0 (pa_cons (pv 0) pa_nil))) (blkOk_by (N := ["lengths", "symbol", "word"]) (sc := defScope s_symbols_by_word) (by decide +kernel)) (fun _ _ _ _ _ => pg_tup rfl (pgs_cons (pg_name (i := 1) sc_symbols_by_word.nd rfl (Or.inl rfl)) (pgs_cons (pg_name (i := 2) sc_symbols_by_word.nd rfl (Or.inl rfl)) pgs_nil))) (fun _ _ _ _ _ => pts_nil) (fun _ _ _ _ _ => (pe_tup (pa_cons (pe_tup (pa_cons (pe_ix (ix_list : IxR _ (rIxL K)) (pv 0) (pv 1) (fun _ _ => rfl)) (pa_cons (pv 2) pa_nil))) (pa_cons (pv 1) pa_nil))))) pa_nil)))), ?_⟩
    obtain ⟨a, ls, rfl, hS, hl, h15, hT, q⟩ := h
    refine ⟨_, rfl, a, ls, rfl, hS, hl, h15, hT, fun H1 d e1 t1 hd0 hd1 => ⟨d, _, rfl, hd1, fun o => ⟨d, o, _, rfl, upd_same, fun D hD => ?_⟩⟩⟩
    have e2 : ExtN H (upd H1 d (.frz o (.dK (wordsK (codewords ls))))) := ExtN.put e1 hd0
    have t2 : Tabs TT (upd H1 d (.frz o (.dK (wordsK (codewords ls))))) := Tabs.put t1 hd1 (plain_dK _)
    have hd2 : upd H1 d (.frz o (.dK (wordsK (codewords ls)))) d = some (.frz o (.dK (wordsK (codewords ls)))) := upd_same
    generalize upd H1 d (.frz o (.dK (wordsK (codewords ls)))) = H2 at e2 t2 hd2 hD ⊢
    have hwl : (wordsK (codewords ls)).length = (codewords ls).length := List.length_map ..
    have hcl : (codewords ls).length ≤ 5000 := by
      have h1 := congrArg List.length (MC.codewords_syms ls h15)
      have h2 := MC.symsOf_length_le ls
      rw [List.length_map] at h1
      omega
    refine lc_it walk_items (fun j H' => Same H2 H' ∧ ∃ ps : List (Addr × Addr × List Key × V), H' D = some (.lst (ps.map fun x => V.ref x.1)) ∧ (ps.map fun x => x.2.2) = ((codewords ls).take j).map (fun q => (wkey q.2.1 q.2.2, V.int (q.1 : Nat))) ∧ ∀ x ∈ ps, H' x.1 = some (.tup [.ref x.2.1, x.2.2.2]) ∧ H' x.2.1 = some (.tup (x.2.2.1.map kV)))
      ⟨same_new hD, [], upd_same, rfl, nofun⟩ (fun j H' _ hP => hP.1 _ _ hd2) (fun j x H' H3 hj hP y => ?_) (fun H' hP => ?_)
    · obtain ⟨t, x1, x2, rfl, ht, rfl, hx1, hx2⟩ := y
      obtain ⟨hs, ps, hD2, hps, hpt⟩ := hP
      rw [hwl] at hj
      obtain ⟨q0, hq0⟩ : ∃ q0, (codewords ls)[j]? = some q0 := ⟨_, List.getElem?_eq_getElem hj⟩
      have hkv : (wordsK (codewords ls))[j]? = some (Sum.inl (q0.1 : Int), V.int q0.2.2) := by rw [wordsK, List.getElem?_map, hq0]; rfl
      have hx1 : ((wordsK (codewords ls))[j]?.map fun kv => kV kv.1) = some x1 := hx1
      have hx2 : ((wordsK (codewords ls))[j]?.map Prod.snd) = some x2 := hx2
      rw [hkv] at hx1 hx2
      obtain rfl := Option.some.inj hx1
      obtain rfl := Option.some.inj hx2
      have hqm := List.mem_of_getElem? hq0
      have hlen := MC.codewords_len ls h15 q0 hqm
      have hsm : q0.1 ∈ MC.symsOf ls := by rw [← MC.codewords_syms ls h15]; exact List.mem_map.mpr ⟨q0, hqm, rfl⟩
      have hlt := ((MC.symsOf_mem ls q0.1).mp hsm).1
      have hDt := ne_of_none hD2 ht
      have hpl : ps.length = j := by
        have := congrArg List.length hps
        rw [List.length_map, List.length_map, List.length_take] at this
        omega
      refine ⟨t, _, rfl, .inl (.inl upd_same), rfl, _, _, rfl, _, _, rfl, rfl, ?_⟩
      refine ⟨rfl, ?_⟩
      have hs4 : Same H2 (upd H' t (.tup [kV (Sum.inl (q0.1 : Int)), V.int q0.2.2])) := same_made hs ht
      have hs14 : Same H' (upd H' t (.tup [kV (Sum.inl (q0.1 : Int)), V.int q0.2.2])) := same_new ht
      generalize upd H' t (.tup [kV (Sum.inl (q0.1 : Int)), V.int q0.2.2]) = H4 at hs4 hs14 ⊢
      refine ⟨_, rfl, _, rfl, a, _, _, _, rfl, rfl, hs4.seq (ExtN.seq e2 hS), at_of (j := q0.1) rfl (nat_get hlt), _, rfl, by show 2 ≤ _; decide, fun p1 hp1 => ?_⟩
      refine ⟨_, rfl, by show 2 ≤ _; decide, fun p2 hp2 => ?_⟩
      have h5 : upd (upd H4 p1 (.tup [.int (ls.getD q0.1 0 : Nat), V.int q0.2.2])) p2 (.tup [.ref p1, kV (Sum.inl (q0.1 : Int))]) p1 = some (.tup ((wkey q0.2.1 q0.2.2).map kV)) := by
        rw [upd_ne (ne_of_none upd_same hp2), upd_same, hlen]
        rfl
      have h6 : upd (upd H4 p1 (.tup [.int (ls.getD q0.1 0 : Nat), V.int q0.2.2])) p2 (.tup [.ref p1, kV (Sum.inl (q0.1 : Int))]) p2 = some (.tup [.ref p1, V.int (q0.1 : Nat)]) := upd_same
      have hs6 : Same H4 (upd (upd H4 p1 (.tup [.int (ls.getD q0.1 0 : Nat), V.int q0.2.2])) p2 (.tup [.ref p1, kV (Sum.inl (q0.1 : Int))])) := same_made (same_new hp1) hp2
      generalize upd (upd H4 p1 (.tup [.int (ls.getD q0.1 0 : Nat), V.int q0.2.2])) p2 (.tup [.ref p1, kV (Sum.inl (q0.1 : Int))]) = H6 at h5 h6 hs6 ⊢
      have hD6 := hs6 _ _ (hs14 _ _ hD2)
      refine ⟨_, hD6, ?_, same_upd (hs4.trans hs6) hD, ps ++ [(p2, p1, wkey q0.2.1 q0.2.2, V.int (q0.1 : Nat))], ?_, ?_, ?_⟩
      · rw [List.length_map, hpl]
        exact line_lt (by omega)
      · rw [upd_same, List.map_append]
        rfl
      · rw [List.map_append, hps, take_succ_of hq0, List.map_append]
        rfl
      · have key : ∀ {b : Addr} {xs : List V}, H6 b = some (.tup xs) → upd H6 D (.lst ((ps.map fun x => V.ref x.1) ++ [V.ref p2])) b = some (.tup xs) := fun hb => by
          rw [upd_ne (ne_of hb hD6 (by intro z; cases z))]
          exact hb
        intro x hx
        rcases List.mem_append.mp hx with h | h
        · obtain ⟨k1, k2⟩ := hpt x h
          exact ⟨key (hs6 _ _ (hs14 _ _ k1)), key (hs6 _ _ (hs14 _ _ k2))⟩
        · rw [List.mem_singleton.mp h]
          exact ⟨key h6, key h5⟩
    · obtain ⟨hs, ps, hD2, hps, hpt⟩ := hP
      rw [hwl, List.take_length] at hps
      refine ⟨D, ps, rfl, .inl (.inl hD2), hpt, fun p hp => ?_⟩
      rw [hps]
      exact q _ p ((e2.trans (ExtN.of hs)).trans (ExtN.of (same_new hp))) ((t2.ext hs).ext (same_new hp)) (fresh_of (e2.trans (ExtN.of hs)) hp) upd_same
end
end Sq
end
section
set_option Elab.async false
set_option maxRecDepth 100000
set_option maxHeartbeats 2000000
/-! coding: symbols and numbers taken. -/
namespace Sq
open PySem PySem.Spec PyProof.Rows L2 SqX LamX
open SwSqueeze (takeBits codewords readSymbol readNumber)
open MC (GoodWords hv hits)
structure WordsOk (ls : List Nat) : Prop where
  good : GoodWords (codewords ls)
  lens : ∀ q ∈ codewords ls, 1 ≤ q.2.1 ∧ q.2.1 ≤ 15
def sp_take_symbol (c : CA) : Sp := fun vs H Q E => ∃ (p a d : Addr) (bits : List Bool) (k : Nat) (ls : List Nat), vs = [.ref p, .ref d] ∧ BR c.BitReader H p a bits k ∧ k ≤ bits.length ∧ bits.length ≤ 1000000 ∧ H d = some (.dT (symT ls)) ∧ WordsOk ls ∧
  (readSymbol (codewords ls) (bits.drop k) = none → ∀ H', SameBut p H H' → E (.ref c.NoCodedBlock) none H') ∧
  ∀ s k2, readSymbol (codewords ls) (bits.drop k) = some (s, bits.drop k2) → k ≤ k2 → k2 ≤ bits.length → (∃ q ∈ codewords ls, q.1 = s) → ∀ H', BR c.BitReader H' p a bits k2 → SameBut p H H' → Q (.int s) H'
def sp_take_further (c : CA) : Sp := fun vs H Q E => ∃ (p a : Addr) (bits : List Bool) (k n : Nat), vs = [.ref p, .int n] ∧ BR c.BitReader H p a bits k ∧ k ≤ bits.length ∧ bits.length ≤ 1000000 ∧ n ≤ 1000 ∧
  (readNumber n (bits.drop k) = none → ∀ H', SameBut p H H' → E (.ref c.NoCodedBlock) none H') ∧
  ∀ v k2, readNumber n (bits.drop k) = some (v, bits.drop k2) → k ≤ k2 → k2 ≤ bits.length → v < 2 ^ n → ∀ H', BR c.BitReader H' p a bits k2 → SameBut p H H' → Q (.int v) H'
section
variable {P : Program} {w : World} {K : PySem.W.Frag} {mg : Str → Option Value} {base : Heap} {c : CA} {f : Addr} {fd : FuncData}
theorem ok_take_further (T : Tx K mg c) (GS : Hd P w K mg base CX0 1 "class_start" ["kind"] sp_class_start) (GF : Hd P w K mg base CX0 1 "further_width" ["kind"] sp_further_width) (GN : Hm P w K mg base (L2N.CX P w) 2 c.BitReader "take_number" ["self", "width"] (sp_take_number c))
    (F : Fun K "take_further" "take_further" s_take_further f fd) : FnOk P w K mg base (L2N.CX P w) 3 f fd ["reader", "kind"] (sp_take_further c) := by
  refine okXN F sc_take_further (fun vs H Q E h => ?_) (fun cdv A outer s H vs Q E hr h => ?_)
  · obtain ⟨p, a, bits, k, n, rfl, _⟩ := h
    rfl
  · refine ⟨_, (pss_one (ps_ret (pe_op op_add (pe_cd GS (hr.mono (by decide)) pass0 (pa_cons (pv 1) pa_nil)) (pe_md T.c_BitReader GN (hr.mono (by decide)) (L2N.passes_call (L2N.takes_of rfl rfl rfl rfl) (fun _ _ _ _ h => h)) (pv 0) (pa_cons (pe_cd GF (hr.mono (by decide)) pass0 (pa_cons (pv 1) pa_nil)) pa_nil))))), ?_⟩
    obtain ⟨p, a, bits, k, n, rfl, hB, hk, hbl, hn, hE, q⟩ := h
    obtain ⟨dx, hp, ha⟩ := id hB
    refine ⟨_, rfl, n, rfl, by omega, ?_⟩
    have hrn : readNumber n (bits.drop k) = if bits.length < k + (n - 1) then none else some (least n + numAt (bits.drop k) (n - 1), bits.drop (k + (n - 1))) := by
      unfold readNumber least
      by_cases h0 : n = 0
      · subst h0
        rw [if_pos rfl, if_pos rfl, if_neg (by omega)]
        rfl
      · rw [if_neg h0, if_neg h0, takeBits_drop bits k (n - 1) hk]
        split <;> rfl
    refine ⟨_, rfl, p, dx, _, rfl, hp, brF_meth a _ (by decide +kernel) (by decide +kernel), _, rfl, n, rfl, p, a, bits, k, n - 1, rfl, hB, hk, hbl, by omega, fun hlt H2 hs2 => ?_, fun hge H2 hB2 hs2 => ?_⟩
    · exact hE (by rw [hrn, if_pos hlt]) _ hs2
    · refine ⟨_, _, rfl, rfl, ?_⟩
      have hv := numAt_lt (bits.drop k) (n - 1)
      refine q (least n + numAt (bits.drop k) (n - 1)) (k + (n - 1)) (by rw [hrn, if_neg (by omega)]) (by omega) hge ?_ _ hB2 hs2
      unfold least
      by_cases h0 : n = 0
      · subst h0
        rw [if_pos rfl]
        simpa using hv
      · rw [if_neg h0]
        have : 2 ^ n = 2 ^ (n - 1) + 2 ^ (n - 1) := by
          obtain ⟨m, rfl⟩ : ∃ m, n = m + 1 := ⟨n - 1, by omega⟩
          rw [Nat.add_sub_cancel, Nat.pow_succ]; omega
        omega
theorem ok_take_symbol (T : Tx K mg c) (GB : Hm P w K mg base (L2N.CX P w) 1 c.BitReader "take_bit" ["self"] (sp_take_bit c)) (F : Fun K "take_symbol" "take_symbol" s_take_symbol f fd) :
    FnOk P w K mg base (L2N.CX P w) 2 f fd ["reader", "symbols"] (sp_take_symbol c) := by
  refine okXN F sc_take_symbol (fun vs H Q E h => ?_) (fun cdv A outer s H vs Q E hr h => ?_)
  · obtain ⟨p, a, d, bits, k, ls, rfl, _⟩ := h
    rfl
  · refine ⟨_, (pss_cons (ps_set (i := 2) sc_take_symbol.nd rfl (Or.inl rfl) pe_int)
  (pss_cons (ps_for (passes_of rfl) rfl (pi_range2 rfl T.range (pa_cons pe_int (pa_cons (pe_op op_add (pe_gI rfl T.LONGEST_WORD) pe_int) pa_nil))) (pg_name (i := 3) sc_take_symbol.nd rfl (Or.inl rfl)) (pss_cons (ps_set (i := 2) sc_take_symbol.nd rfl (Or.inl rfl) (pe_op op_add (pe_op op_mul pe_int (pv 2)) (pe_md0 T.c_BitReader GB (hr.mono (by decide)) (L2N.passes_call (L2N.takes_of rfl rfl rfl rfl) (fun _ _ _ _ h => h)) (pv 0))))
    (pss_cons (ps_set (i := 4) sc_take_symbol.nd rfl (Or.inl rfl) (pe_dget1 (hu_of hr) (pv 1) (pe_tup (pa_cons (pv 3) (pa_cons (pv 2) pa_nil))) ⟨rfl, rfl, rfl, rfl⟩))
    (pss_one (ps_if (pt_cmpR op_notN (pv 4) pe_non (nomark _)) (pss_one (ps_ret (pv 4))) pss_nil)))))
  (pss_one (L2N.ps_raise rfl (L2N.takes_of rfl rfl rfl rfl) (pmk_own0N PySem.F.excBase_ValueError T.x_NoCodedBlock T.g_NoCodedBlock T.k_NoCodedBlock (raises_own T.b_NoCodedBlock T.t_NoCodedBlock) (by exact rfl)))))), ?_⟩
    obtain ⟨p, a, d, bits, k, ls, rfl, hB, hk, hbl, hd, hW, hE, q⟩ := h
    have hll : (bits.drop k).length = bits.length - k := List.length_drop ..
    have hdp : d ≠ p := by obtain ⟨dx, hp, _⟩ := hB; exact ne_of hd hp (by intro z; cases z)
    refine ⟨_, _, rfl, rfl, _, _, rfl, ⟨by decide, by decide, by decide, by decide⟩, ?_⟩
    refine for_it (walk_range (lo := 1) (n := 15)) (fun i σ H' => ∃ v3 v4 : Option V, σ = [some (.ref p), some (.ref d), some (.int (hv ((bits.drop k).take i) : Nat)), v3, v4] ∧ BR c.BitReader H' p a bits (k + i) ∧ SameBut p H H' ∧ k + i ≤ bits.length ∧ ∀ q ∈ codewords ls, q.2.1 ≤ i → ¬ hits q (bits.drop k))
      ⟨_, _, rfl, hB, SameBut.refl _ _, hk, fun q hq h => by have := (hW.lens q hq).1; omega⟩ (fun _ _ _ _ _ => trivial) (fun i x σ H' H2 hi hP y => ?_) (fun σ H' hP => ?_)
    · obtain ⟨rfl, rfl⟩ := y
      obtain ⟨v3, v4, rfl, hB2, hs2, hki, hno⟩ := hP
      obtain ⟨dx2, hp2, ha2⟩ := id hB2
      refine ⟨_, rfl, _, _, rfl, rfl, .inl ⟨by decide, by decide⟩, _, rfl, p, dx2, _, rfl, hp2, brF_meth a _ (by decide +kernel) (by decide +kernel), p, a, bits, k + i, rfl, hB2, hki, hbl, fun hend => ?_, fun b hb H3 hB3 hs3 => ?_⟩
      · refine hE (MC.read_none hW.good fun q hq hh => hno q hq ?_ hh) _ hs2
        have := hh.1
        omega
      · have hlt := (List.getElem?_eq_some_iff.mp hb).1
        have hb2 : (bits.drop k)[i]? = some b := by rw [List.getElem?_drop]; exact hb
        have hwd : hv ((bits.drop k).take (i + 1)) = 2 * hv ((bits.drop k).take i) + cond b 1 0 := by rw [take_succ_of hb2, MC.hv_snoc]
        have hs13 := hs2.trans hs3
        have hd3 := hs13 _ _ hdp hd
        refine ⟨_, _, rfl, rfl, ?_⟩
        have ew : (2 : Int) * ((hv ((bits.drop k).take i) : Nat) : Int) + bI b = ((hv ((bits.drop k).take (i + 1)) : Nat) : Int) := by
          rw [hwd]
          cases b <;> simp [bI]
        dsimp only
        rw [ew]
        refine ⟨_, rfl, d, rfl, .inr ⟨_, .inl hd3⟩, _, rfl, _, rfl, by show 2 ≤ _; decide, fun t ht => ?_⟩
        have ht3 : upd H3 t (.tup [V.int (1 + (i : Nat)), V.int (hv ((bits.drop k).take (i + 1)) : Nat)]) t = some (.tup ((wkey (i + 1) (hv ((bits.drop k).take (i + 1)))).map kV)) := by
          rw [upd_same, show ((1 : Int) + (i : Nat)) = ((i + 1 : Nat) : Int) by omega]
          rfl
        have hs4 : SameBut p H (upd H3 t (.tup [V.int (1 + (i : Nat)), V.int (hv ((bits.drop k).take (i + 1)) : Nat)])) := hs13.trans (SameBut.of (same_new ht))
        have hB4 : BR c.BitReader (upd H3 t (.tup [V.int (1 + (i : Nat)), V.int (hv ((bits.drop k).take (i + 1)) : Nat)])) p a bits (k + i + 1) := hB3.keep (same_new ht)
        generalize upd H3 t (.tup [V.int (1 + (i : Nat)), V.int (hv ((bits.drop k).take (i + 1)) : Nat)]) = H4 at ht3 hs4 hB4 ⊢
        refine ⟨_, .inr ⟨symT ls, wkey (i + 1) (hv ((bits.drop k).take (i + 1))), t, .inl (hs4 _ _ hdp hd), rfl, ht3, rfl⟩, ?_⟩
        by_cases hx : ∃ q0 ∈ codewords ls, q0.2.1 = i + 1 ∧ q0.2.2 = hv ((bits.drop k).take (i + 1))
        · obtain ⟨q0, hq0, e1, e2⟩ := hx
          have hv0 := symT_some hW.good hq0
          rw [e1, e2] at hv0
          rw [hv0]
          refine ⟨_, rfl, rfl, _, rfl, ?_⟩
          refine ite2 (fun _ => ?_) (fun h => absurd rfl h)
          have hit : hits q0 (bits.drop k) := ⟨by omega, by rw [e1]; exact e2⟩
          have hrs := MC.read_some hW.good hq0 hit (fun q1 hq1 h1 => hno q1 hq1 (by omega))
          rw [e1, List.drop_drop] at hrs
          exact ⟨_, rfl, q q0.1 (k + (i + 1)) hrs (by omega) (by omega) ⟨q0, hq0, rfl⟩ _ hB4 hs4⟩
        · rw [symT_none fun q1 hq1 h1 => hx ⟨q1, hq1, h1⟩]
          refine ⟨_, rfl, rfl, _, rfl, ?_⟩
          refine ite2 (fun h => absurd h (by decide)) (fun _ => ?_)
          refine ⟨some (.int (1 + (i : Nat))), some .non, rfl, hB4, hs4, by omega, fun q1 hq1 h1 hh => ?_⟩
          rcases Nat.lt_or_ge i q1.2.1 with h2 | h2
          · have h3 : q1.2.1 = i + 1 := by omega
            refine hx ⟨q1, hq1, h3, ?_⟩
            rw [← h3]
            exact hh.2
          · exact hno q1 hq1 h2 hh
    · obtain ⟨v3, v4, rfl, hB2, hs2, hki, hno⟩ := hP
      exact hE (MC.read_none hW.good fun q hq => hno q hq (hW.lens q hq).2) _ hs2
end
end Sq
end
section
set_option Elab.async false
set_option maxRecDepth 100000
set_option maxHeartbeats 2000000
/-! coding: the text taken. -/
namespace Sq
open PySem PySem.Spec PyProof.Rows L2 SqX LamX
open SwSqueeze (takeBits codewords readSymbol readNumber readSteps copy)
theorem copy_succ : ∀ (j : Nat) (out : Array UInt8) (d : Nat), copy out d (j + 1) = (copy out d j).push ((copy out d j).getD ((copy out d j).size - d) 0)
  | 0, out, d => rfl
  | j + 1, out, d => by
    show copy (out.push (out.getD (out.size - d) 0)) d (j + 1) = _
    rw [copy_succ j]
    rfl
theorem copy_size : ∀ (j : Nat) (out : Array UInt8) (d : Nat), (copy out d j).size = out.size + j
  | 0, _, _ => rfl
  | j + 1, out, d => by
    rw [copy_succ, Array.size_push, copy_size j]
    omega
def sp_take_text (c : CA) : Sp := fun vs H Q E => ∃ (p a d e : Addr) (bits : List Bool) (k n : Nat) (ls ld : List Nat), vs = [.ref p, .int n, .ref d, .ref e] ∧ BR c.BitReader H p a bits k ∧ k ≤ bits.length ∧ bits.length ≤ 1000000 ∧ H d = some (.dT (symT ls)) ∧ H e = some (.dT (symT ld)) ∧ WordsOk ls ∧ WordsOk ld ∧
  (∀ q ∈ codewords ls, q.1 < 265) ∧ (∀ q ∈ codewords ld, q.1 < 11) ∧ n ≤ 10000 ∧
  (readSteps (codewords ls) (codewords ld) n (n + 1) #[] (bits.drop k) = none → ∀ H', SameBut p H H' → E (.ref c.NoCodedBlock) none H') ∧
  ∀ (out : Sw.Bytes) k2, readSteps (codewords ls) (codewords ld) n (n + 1) #[] (bits.drop k) = some (out.toArray, bits.drop k2) → k ≤ k2 → k2 ≤ bits.length → out.length = n → ∀ H' r, BR c.BitReader H' p a bits k2 → SameBut p H H' → H r = none → H' r = some (.lst (bytesV out)) → Q (.ref r) H'
section
variable {P : Program} {w : World} {K : PySem.W.Frag} {mg : Str → Option Value} {base : Heap} {c : CA} {f : Addr} {fd : FuncData}
theorem ok_take_text (T : Tx K mg c) (GS : Hd P w K mg base (L2N.CX P w) 2 "take_symbol" ["reader", "symbols"] (sp_take_symbol c)) (GF : Hd P w K mg base (L2N.CX P w) 3 "take_further" ["reader", "kind"] (sp_take_further c)) (F : Fun K "take_text" "take_text" s_take_text f fd) :
    FnOk P w K mg base (L2N.CX P w) 4 f fd ["reader", "size", "symbols", "distance_symbols"] (sp_take_text c) := by
  refine okXN F sc_take_text (fun vs H Q E h => ?_) (fun cdv A outer s H vs Q E hr h => ?_)
  · obtain ⟨p, a, d, e, bits, k, n, ls, ld, rfl, _⟩ := h
    rfl
  · refine ⟨_, (pss_cons (ps_set (i := 4) sc_take_text.nd rfl (Or.inl rfl) (pe_lst pa_nil))
  (pss_cons (ps_while (passes_of rfl) (pt_cmpR op_lt (pe_callB call_len_seq (by rfl) T.len (by decide +kernel) (pa_cons (pv 4) pa_nil)) (pv 1) (nomark _)) (pss_cons (ps_set (i := 5) sc_take_text.nd rfl (Or.inl rfl) (pe_cd GS (hr.mono (by decide)) (L2N.passes_call (L2N.takes_of rfl rfl rfl rfl) (fun _ _ _ _ h => h)) (pa_cons (pv 0) (pa_cons (pv 2) pa_nil))))
    (pss_one (ps_if (pt_cmpR op_lt (pv 5) (pe_gI rfl T.LETTERS) (nomark _)) (pss_one (ps_expr (pe_bm PySem.F.plainAttrs_list PySem.F.slot_list_append PySem.F.type_list_append mt_append (pv 4) (pa_cons (pv 5) pa_nil)))) (pss_cons (ps_set (i := 6) sc_take_text.nd rfl (Or.inl rfl) (pe_op op_add (pe_gI rfl T.SHORTEST_MATCH) (pe_cd GF (hr.mono (by decide)) (L2N.passes_call (L2N.takes_of rfl rfl rfl rfl) (fun _ _ _ _ h => h)) (pa_cons (pv 0) (pa_cons (pe_op op_sub (pv 5) (pe_gI rfl T.LETTERS)) pa_nil)))))
      (pss_cons (ps_set (i := 7) sc_take_text.nd rfl (Or.inl rfl) (pe_op op_add pe_int (pe_cd GF (hr.mono (by decide)) (L2N.passes_call (L2N.takes_of rfl rfl rfl rfl) (fun _ _ _ _ h => h)) (pa_cons (pv 0) (pa_cons (pe_cd GS (hr.mono (by decide)) (L2N.passes_call (L2N.takes_of rfl rfl rfl rfl) (fun _ _ _ _ h => h)) (pa_cons (pv 0) (pa_cons (pv 3) pa_nil))) pa_nil)))))
      (pss_cons (ps_if (PW.pt (pw_or (pt_cmpR op_gt (pv 7) (pe_callB call_len_seq (by rfl) T.len (by decide +kernel) (pa_cons (pv 4) pa_nil)) (nomark _)) (pw_or1 (pt_cmpR op_gt (pe_op op_add (pe_callB call_len_seq (by rfl) T.len (by decide +kernel) (pa_cons (pv 4) pa_nil)) (pv 6)) (pv 1) (nomark _))))) (pss_one (L2N.ps_raise rfl (L2N.takes_of rfl rfl rfl rfl) (pmk_own0N PySem.F.excBase_ValueError T.x_NoCodedBlock T.g_NoCodedBlock T.k_NoCodedBlock (raises_own T.b_NoCodedBlock T.t_NoCodedBlock) (by exact rfl)))) pss_nil)
      (pss_cons (ps_set (i := 8) sc_take_text.nd rfl (Or.inl rfl) (pe_op op_sub (pe_callB call_len_seq (by rfl) T.len (by decide +kernel) (pa_cons (pv 4) pa_nil)) (pv 7)))
      (pss_one (ps_for (passes_of rfl) rfl (pi_range2 rfl T.range (pa_cons (pv 8) (pa_cons (pe_op op_add (pv 8) (pv 6)) pa_nil))) (pg_name (i := 9) sc_take_text.nd rfl (Or.inl rfl)) (pss_one (ps_expr (pe_bm PySem.F.plainAttrs_list PySem.F.slot_list_append PySem.F.type_list_append mt_append (pv 4) (pa_cons (pe_ix (ix_list : IxR _ (rIxL K)) (pv 4) (pv 9) (fun _ _ => rfl)) pa_nil))))))))))))))
  (pss_one (ps_ret (pv 4))))), ?_⟩
    obtain ⟨p, a, d, e, bits, k, n, ls, ld, rfl, hB, hk, hbl, hd, he, hW, hV, hs265, hd11, hn, hE, q⟩ := h
    have hbv : ∀ l : Sw.Bytes, (bytesV l).length = l.length := fun l => List.length_map ..
    generalize htot : readSteps (codewords ls) (codewords ld) n (n + 1) #[] (bits.drop k) = tot at hE q
    obtain ⟨dx0, hp0, ha0⟩ := id hB
    have hdp : d ≠ p := ne_of hd hp0 (by intro z; cases z)
    have hep : e ≠ p := ne_of he hp0 (by intro z; cases z)
    refine ⟨Nat.zero_le _, fun r hr0 => ?_⟩
    have hrp : r ≠ p := fun z => by rw [z, hp0] at hr0; cases hr0
    have hra : r ≠ a := fun z => by rw [z, ha0] at hr0; cases hr0
    refine ⟨fun m σ H' => ∃ (v5 v6 v7 v8 v9 : Option V) (tb : Sw.Bytes) (k' f : Nat), σ = [some (.ref p), some (.int n), some (.ref d), some (.ref e), some (.ref r), v5, v6, v7, v8, v9] ∧ SameBut p H H' ∧ BR c.BitReader H' p a bits k' ∧ H' r = some (.lst (bytesV tb)) ∧ k ≤ k' ∧ k' ≤ bits.length ∧ tb.length + m = n ∧ m < f ∧
      tot = readSteps (codewords ls) (codewords ld) n f tb.toArray (bits.drop k'), ⟨n, _, _, _, _, _, [], k, n + 1, rfl, SameBut.of (same_new hr0), hB.keep (same_new hr0), upd_same, Nat.le_refl _, hk, by simp, by omega, htot.symm⟩, fun m σ H1 hW1 => ?_⟩
    obtain ⟨v5, v6, v7, v8, v9, tb, k', f, rfl, hs1, hB1, hr1, hkk, hkb, hm, hf, ht⟩ := hW1
    obtain ⟨f0, rfl⟩ : ∃ f0, f = f0 + 1 := ⟨f - 1, by omega⟩
    refine ⟨_, rfl, _, _, rfl, .inl (.inl (.inl hr1)), _, rfl, _, _, rfl, rfl, _, rfl, ?_⟩
    refine ite2 (fun h1 => ?_) (fun h1 => ?_)
    · have h1' : tb.length < n := by
        have := of_decide_eq_true h1
        rw [hbv] at this
        omega
      have hrd : readSteps (codewords ls) (codewords ld) n (f0 + 1) tb.toArray (bits.drop k') = (readSymbol (codewords ls) (bits.drop k')).bind fun (x : Nat × List Bool) =>
          if x.1 < 256 then readSteps (codewords ls) (codewords ld) n f0 (tb.toArray.push (UInt8.ofNat x.1)) x.2
          else (readNumber (x.1 - 256) x.2).bind fun (y : Nat × List Bool) => (readSymbol (codewords ld) y.2).bind fun (z : Nat × List Bool) => (readNumber z.1 z.2).bind fun (v : Nat × List Bool) =>
            if tb.toArray.size < v.1 + 1 ∨ n < tb.toArray.size + (y.1 + 3) then none else readSteps (codewords ls) (codewords ld) n f0 (copy tb.toArray (v.1 + 1) (y.1 + 3)) v.2 := by
        show (if tb.toArray.size = n then some (tb.toArray, bits.drop k') else _) = _
        rw [if_neg (by simp; omega)]
      rw [hrd] at ht
      refine ⟨fun σ' H' => ∃ m', m' < m ∧ ∃ (v5 v6 v7 v8 v9 : Option V) (tb : Sw.Bytes) (k' f : Nat), σ' = [some (.ref p), some (.int n), some (.ref d), some (.ref e), some (.ref r), v5, v6, v7, v8, v9] ∧ SameBut p H H' ∧ BR c.BitReader H' p a bits k' ∧ H' r = some (.lst (bytesV tb)) ∧ k ≤ k' ∧ k' ≤ bits.length ∧ tb.length + m' = n ∧ m' < f ∧
        tot = readSteps (codewords ls) (codewords ld) n f tb.toArray (bits.drop k'), fun _ _ h => h, ?_⟩
      refine ⟨_, rfl, _, rfl, p, a, d, bits, k', ls, rfl, hB1, hkb, hbl, hs1 _ _ hdp hd, hW, fun hnone H2 hs2 => ?_, fun sy k2 hsome hk2 hk2b hmem H2 hB2 hs2 => ?_⟩
      · refine hE ?_ _ (hs1.trans hs2)
        rw [ht, hnone]
        rfl
      rw [hsome] at ht
      have hs265' : sy < 265 := by
        obtain ⟨q0, hq0, rfl⟩ := hmem
        exact hs265 q0 hq0
      have ht : tot = if sy < 256 then readSteps (codewords ls) (codewords ld) n f0 (tb.toArray.push (UInt8.ofNat sy)) (bits.drop k2)
          else (readNumber (sy - 256) (bits.drop k2)).bind fun (y : Nat × List Bool) => (readSymbol (codewords ld) y.2).bind fun (z : Nat × List Bool) => (readNumber z.1 z.2).bind fun (v : Nat × List Bool) =>
            if tb.toArray.size < v.1 + 1 ∨ n < tb.toArray.size + (y.1 + 3) then none else readSteps (codewords ls) (codewords ld) n f0 (copy tb.toArray (v.1 + 1) (y.1 + 3)) v.2 := ht
      have hs12 := hs1.trans hs2
      have hr2 := hs2 _ _ hrp hr1
      refine ⟨_, rfl, _, _, rfl, rfl, _, rfl, ?_⟩
      refine ite2 (fun h2 => ?_) (fun h2 => ?_)
      · have h2' : sy < 256 := by
          have := of_decide_eq_true h2
          omega
        rw [if_pos h2'] at ht
        refine ⟨_, rfl, .inl ⟨rfl, _, .inl (.inl hr2)⟩, _, rfl, _, _, _, rfl, rfl, hr2, ?_, ?_⟩
        · rw [hbv]
          exact line_lt (by omega)
        · refine ⟨m - 1, by omega, some (.int sy), v6, v7, v8, v9, tb ++ [UInt8.ofNat sy], k2, f0, rfl, hs12.made hr0, hB2.put hrp hra, ?_, by omega, hk2b, by rw [List.length_append, List.length_singleton]; omega, by omega, ?_⟩
          · rw [upd_same]
            unfold bytesV
            rw [List.map_append]
            show some (HO.lst (_ ++ [V.int sy])) = some (HO.lst (_ ++ [V.int ((UInt8.ofNat sy).toNat : Nat)]))
            rw [UInt8.toNat_ofNat', Nat.mod_eq_of_lt (by omega)]
          · rw [ht]
            congr 1
            simp
      · have h2' : ¬ sy < 256 := fun z => h2 (decide_eq_true (by omega))
        rw [if_neg h2'] at ht
        have esy : ((sy : Nat) : Int) - 256 = ((sy - 256 : Nat) : Int) := by omega
        refine ⟨_, rfl, _, rfl, _, _, rfl, rfl, p, a, bits, k2, sy - 256, ?_, hB2, hk2b, hbl, by omega, fun hnone H3 hs3 => ?_, fun v1 k3 hv1 hk3 hk3b hv1l H3 hB3 hs3 => ?_⟩
        · dsimp only
          rw [esy]
          rfl
        · refine hE ?_ _ (hs12.trans hs3)
          rw [ht, hnone]
          rfl
        rw [hv1] at ht
        have ht : tot = (readSymbol (codewords ld) (bits.drop k3)).bind fun (z : Nat × List Bool) => (readNumber z.1 z.2).bind fun (v : Nat × List Bool) =>
            if tb.toArray.size < v.1 + 1 ∨ n < tb.toArray.size + (v1 + 3) then none else readSteps (codewords ls) (codewords ld) n f0 (copy tb.toArray (v.1 + 1) (v1 + 3)) v.2 := ht
        have hs13 := hs12.trans hs3
        have hv1b : v1 < 256 := Nat.lt_of_lt_of_le hv1l (Nat.pow_le_pow_right (by decide) (show sy - 256 ≤ 8 by omega))
        refine ⟨_, _, rfl, rfl, ?_⟩
        refine ⟨_, rfl, _, rfl, _, rfl, p, a, e, bits, k3, ld, rfl, hB3, hk3b, hbl, hs13 _ _ hep he, hV, fun hnone H4 hs4 => ?_, fun s2 k4 hs2e hk4 hk4b hmem2 H4 hB4 hs4 => ?_⟩
        · refine hE ?_ _ (hs13.trans hs4)
          rw [ht, hnone]
          rfl
        rw [hs2e] at ht
        have ht : tot = (readNumber s2 (bits.drop k4)).bind fun (v : Nat × List Bool) =>
            if tb.toArray.size < v.1 + 1 ∨ n < tb.toArray.size + (v1 + 3) then none else readSteps (codewords ls) (codewords ld) n f0 (copy tb.toArray (v.1 + 1) (v1 + 3)) v.2 := ht
        have hs14 := hs13.trans hs4
        have hs2b : s2 < 11 := by
          obtain ⟨q0, hq0, rfl⟩ := hmem2
          exact hd11 q0 hq0
        refine ⟨p, a, bits, k4, s2, rfl, hB4, hk4b, hbl, by omega, fun hnone H5 hs5 => ?_, fun v2 k5 hv2 hk5 hk5b hv2l H5 hB5 hs5 => ?_⟩
        · refine hE ?_ _ (hs14.trans hs5)
          rw [ht, hnone]
          rfl
        rw [hv2] at ht
        have ht : tot = if tb.toArray.size < v2 + 1 ∨ n < tb.toArray.size + (v1 + 3) then none else readSteps (codewords ls) (codewords ld) n f0 (copy tb.toArray (v2 + 1) (v1 + 3)) (bits.drop k5) := ht
        have hs15 := hs14.trans hs5
        have hv2b : v2 < 1024 := Nat.lt_of_lt_of_le hv2l (Nat.pow_le_pow_right (by decide) (show s2 ≤ 10 by omega))
        have hr5 : H5 r = some (.lst (bytesV tb)) := hs5 _ _ hrp (hs4 _ _ hrp (hs3 _ _ hrp hr2))
        have hsz : tb.toArray.size = tb.length := by simp
        refine ⟨_, _, rfl, rfl, ?_⟩
        refine ⟨_, rfl, _, rfl, _, _, rfl, .inl (.inl (.inl hr5)), _, _, rfl, rfl, _, rfl, ?_⟩
        refine ite2 (fun h3 => ?_) (fun h3 => ?_)
        · have hlt : tb.toArray.size < v2 + 1 := by
            have := of_decide_eq_true h3
            rw [hbv] at this
            omega
          exact hE (by rw [ht, if_pos (.inl hlt)]) _ hs15
        have h3' : ¬ tb.length < v2 + 1 := fun z => h3 (decide_eq_true (by rw [hbv]; omega))
        refine ⟨_, rfl, _, _, rfl, .inl (.inl (.inl hr5)), _, rfl, _, _, rfl, rfl, _, rfl, _, _, rfl, rfl, _, rfl, ?_⟩
        refine ite2 (fun h4 => ?_) (fun h4 => ?_)
        · have hlt : n < tb.toArray.size + (v1 + 3) := by
            have := of_decide_eq_true h4
            rw [hbv] at this
            omega
          exact hE (by rw [ht, if_pos (.inr hlt)]) _ hs15
        have h4' : ¬ n < tb.length + (v1 + 3) := fun z => h4 (decide_eq_true (by rw [hbv]; omega))
        rw [if_neg (by rw [hsz]; omega)] at ht
        refine ⟨_, rfl, _, _, rfl, .inl (.inl (.inl hr5)), _, rfl, _, _, rfl, rfl, ?_⟩
        have e1 : (((bytesV tb).length : Nat) : Int) - (1 + ((v2 : Nat) : Int)) = ((tb.length - (v2 + 1) : Nat) : Int) := by rw [hbv]; omega
        dsimp only
        rw [e1]
        generalize hfi : tb.length - (v2 + 1) = fi
        have e2 : ((fi : Nat) : Int) + (3 + ((v1 : Nat) : Int)) = ((fi + (v1 + 3) : Nat) : Int) := by omega
        refine ⟨_, rfl, _, rfl, _, rfl, _, _, rfl, rfl, _, _, rfl, ?_, ?_⟩
        · rw [e2]
          exact ⟨by omega, by omega, by omega, by omega⟩
        rw [e2, show ((fi + (v1 + 3) : Nat) : Int) - ((fi : Nat) : Int) = ((v1 + 3 : Nat) : Int) by omega, Int.toNat_natCast]
        refine for_it (walk_range (lo := (fi : Int)) (n := v1 + 3)) (fun j σ H' => ∃ v9 : Option V, σ = [some (.ref p), some (.int n), some (.ref d), some (.ref e), some (.ref r), some (.int sy), some (.int (3 + (v1 : Nat))), some (.int (1 + (v2 : Nat))), some (.int fi), v9] ∧ SameBut p H H' ∧ BR c.BitReader H' p a bits k5 ∧
          H' r = some (.lst (bytesV (copy tb.toArray (v2 + 1) j).toList)))
          ⟨_, rfl, hs15, hB5, by rw [hr5]; rfl⟩ (fun _ _ _ _ _ => trivial) (fun j x σ H' H6 hj hP y => ?_) (fun σ H' hP => ?_)
        · obtain ⟨rfl, rfl⟩ := y
          obtain ⟨v9, rfl, hs6, hB6, hr6⟩ := hP
          have hcs := copy_size j tb.toArray (v2 + 1)
          have hcl : (copy tb.toArray (v2 + 1) j).toList.length = tb.length + j := by rw [Array.length_toList, hcs, hsz]
          have hix : fi + j < (copy tb.toArray (v2 + 1) j).toList.length := by omega
          refine ⟨_, rfl, .inl ⟨rfl, _, .inl (.inl hr6)⟩, _, rfl, _, rfl, r, _, _, _, rfl, rfl, .inl (.inl hr6), at_of (j := fi + j) (by omega) (bytes_get hix), _, _, _, rfl, rfl, hr6, ?_, ?_⟩
          · rw [hbv, hcl]
            exact line_lt (by omega)
          · refine ⟨some (.int (fi + (j : Nat))), rfl, hs6.made hr0, hB6.put hrp hra, ?_⟩
            have hg : (copy tb.toArray (v2 + 1) j).getD ((copy tb.toArray (v2 + 1) j).size - (v2 + 1)) 0 = (copy tb.toArray (v2 + 1) j).toList.getD (fi + j) 0 := by
              rw [← arr_get, Array.toArray_toList, hcs, hsz]
              congr 1
              omega
            rw [upd_same, copy_succ, hg, Array.toList_push]
            unfold bytesV
            rw [List.map_append]
            rfl
        · obtain ⟨v9, rfl, hs6, hB6, hr6⟩ := hP
          have hcs := copy_size (v1 + 3) tb.toArray (v2 + 1)
          refine ⟨m - (v1 + 3), by omega, _, _, _, _, _, (copy tb.toArray (v2 + 1) (v1 + 3)).toList, k5, f0, rfl, hs6, hB6, hr6, by omega, hk5b, ?_, by omega, ?_⟩
          · rw [Array.length_toList, hcs, hsz]
            omega
          · rw [ht, Array.toArray_toList]
    · have h1' : tb.length = n := by
        rcases Nat.lt_or_ge tb.length n with h | h
        · exact absurd (decide_eq_true (by rw [hbv]; omega)) h1
        · omega
      have hrd : readSteps (codewords ls) (codewords ld) n (f0 + 1) tb.toArray (bits.drop k') = some (tb.toArray, bits.drop k') := by
        show (if tb.toArray.size = n then some (tb.toArray, bits.drop k') else _) = _
        rw [if_pos (by simp; omega)]
      rw [hrd] at ht
      exact ⟨_, rfl, q tb k' ht hkk hkb h1' _ r hB1 hs1 hr0 hr1⟩
end
end Sq
end
section
set_option Elab.async false
set_option maxRecDepth 100000
set_option maxHeartbeats 2000000
/-! coding: a block read. -/
namespace Sq
open PySem PySem.Spec PyProof.Rows L2 SqX LamX
open SwSqueeze (takeBits codewords readSymbol readNumber readSteps readLengths readCoded toBits bitsLow wholeCode numLow)
theorem bits_cat (x n m : Nat) (hx : x < 256) : bitsLow (8 + m) (x + 256 * n) = bitsLow 8 x ++ bitsLow m n := by
  apply List.ext_getElem?
  intro i
  rw [List.getElem?_append, bitsLow_length]
  unfold bitsLow
  by_cases h : i < 8
  · rw [if_pos h, List.getElem?_map, List.getElem?_range (by omega), List.getElem?_map, List.getElem?_range h]
    show some ((x + 256 * n).testBit i) = some (x.testBit i)
    have : (x + 256 * n) % 2 ^ 8 = x := by omega
    have e := Nat.testBit_mod_two_pow (x + 256 * n) 8 i
    rw [this] at e
    rw [e]
    simp [h]
  · rw [if_neg h]
    by_cases h2 : i < 8 + m
    · rw [List.getElem?_map, List.getElem?_range h2, List.getElem?_map, List.getElem?_range (by omega)]
      show some ((x + 256 * n).testBit i) = some (n.testBit (i - 8))
      have : (x + 256 * n) >>> 8 = n := by rw [Nat.shiftRight_eq_div_pow]; omega
      have e := Nat.testBit_shiftRight (i := 8) (j := i - 8) (x + 256 * n)
      rw [this] at e
      rw [e, show 8 + (i - 8) = i by omega]
    · rw [List.getElem?_eq_none (by simp; omega), List.getElem?_eq_none (by simp; omega)]
theorem toBits_le : ∀ l : Sw.Bytes, toBits l = bitsLow (8 * l.length) (Sw.ofLe l)
  | [] => rfl
  | x :: l => by
    show bitsLow 8 x.toNat ++ toBits l = bitsLow (8 * (l.length + 1)) (x.toNat + 256 * Sw.ofLe l)
    rw [toBits_le l, ← bits_cat _ _ _ x.toNat_lt, show 8 + 8 * l.length = 8 * (l.length + 1) by omega]
theorem bits_take (k j n : Nat) (h : j ≤ k) : (bitsLow k n).take j = bitsLow j n := by
  unfold bitsLow
  rw [← List.map_take, List.take_range, Nat.min_eq_left h]
theorem size_eq (zs : Sw.Bytes) (h : 2 ≤ zs.length) : numAt (toBits (zs.take 2)) 10 = Sw.ofLe (zs.take 2) % 1024 := by
  unfold numAt
  have hl : (zs.take 2).length = 2 := by rw [List.length_take]; omega
  rw [toBits_le, hl, bits_take _ _ _ (by decide), numLow_bits]
instance instBad (ls ld : List Nat) : Decidable (BadCodes ls ld) := by unfold BadCodes; infer_instance
def sp_coded_size (K : PySem.W.Frag) : Sp := fun vs H Q _ => ∃ (a : Addr) (zs : Sw.Bytes), vs = [.ref a] ∧ SqL K H a (bytesV zs) ∧ 2 ≤ zs.length ∧ zs.length ≤ 100000 ∧
  ∀ H', Same H H' → Q (.int (Sw.ofLe (zs.take 2) % 1024 + 1 : Nat)) H'
def sp_decoded (K : PySem.W.Frag) (TT : List (Addr × Str)) (c : CA) : Sp := fun vs H Q E => ∃ (a : Addr) (zs : Sw.Bytes), vs = [.ref a] ∧ SqL K H a (bytesV zs) ∧ zs.length ≤ 100000 ∧ Tabs TT H ∧
  (readCoded zs = none → ∀ H', ExtN H H' → Tabs TT H' → E (.ref c.NoCodedBlock) none H') ∧
  ∀ t, readCoded zs = some t → t.length ≤ 1024 → ∀ H' p, ExtN H H' → Tabs TT H' → Fresh H p → H' p = some (.lst (bytesV t)) → Q (.ref p) H'
section
variable {P : Program} {w : World} {K : PySem.W.Frag} {mg : Str → Option Value} {base : Heap} {c : CA} {f : Addr} {fd : FuncData} {TT : List (Addr × Str)}
theorem ok_coded_size (T : Tx K mg c) (GI : Hc P w K mg base CX0 2 "BitReader" c.BitReader ["self", "octets"] (sp_BitReader_init K c.BitReader)) (GN : Hm P w K mg base (L2N.CX P w) 2 c.BitReader "take_number" ["self", "width"] (sp_take_number c))
    (F : Fun K "coded_size" "coded_size" s_coded_size f fd) : FnOk P w K mg base (L2N.CX P w) 4 f fd ["octets"] (sp_coded_size K) := by
  refine okXN F sc_coded_size (fun vs H Q E h => ?_) (fun cdv A outer s H vs Q E hr h => ?_)
  · obtain ⟨a, zs, rfl, _⟩ := h
    rfl
  · refine ⟨_, (pss_one (ps_ret (pe_op op_add pe_int (pe_md T.c_BitReader GN (hr.mono (by decide)) (L2N.passes_call (L2N.takes_of rfl rfl rfl rfl) (fun _ _ _ _ h => h)) (pe_mkd GI (hr.mono (by decide)) pass0 (pa_cons (pe_slice sl_list (pv 0) po_none (po_some pe_int)) pa_nil)) (pa_cons (pe_gI rfl T.SIZE_WIDTH) pa_nil))))), ?_⟩
    obtain ⟨a, zs, rfl, hS, h2, hl, q⟩ := h
    refine ⟨_, rfl, _, rfl, _, _, rfl, hS, fun r hr0 => ?_⟩
    rw [show cutV (bytesV zs) none (some 2) = (bytesV zs).take 2 from cut_take _ 2]
    have hr1 : upd H r (.lst ((bytesV zs).take 2)) r = some (.lst (bytesV (zs.take 2))) := by
      rw [upd_same]
      unfold bytesV
      rw [List.map_take]
    have hs1 := same_new (o := .lst ((bytesV zs).take 2)) hr0
    generalize upd H r (.lst ((bytesV zs).take 2)) = H1 at hr1 hs1 ⊢
    refine fun x dx hx hdx hne => ⟨x, dx, r, zs.take 2, rfl, upd_same, .inl (.inl ?_), by rw [List.length_take]; omega, fun H2 b hb0 hB2 hb2 => ⟨rfl, ?_⟩⟩
    · have hrx : r ≠ x := ne_of_none hr1 hx
      have hrd : r ≠ dx := ne_of_none hr1 hdx
      rw [upd_ne hrx, upd_ne hrd]
      exact hr1
    obtain ⟨dx2, hx2, hb3⟩ := id hB2
    have hlen : (toBits (zs.take 2)).length = 16 := by
      rw [toBits_length, List.length_take]
      omega
    refine ⟨x, dx2, _, rfl, hx2, brF_meth b _ (by decide +kernel) (by decide +kernel), x, b, toBits (zs.take 2), 0, 10, rfl, hB2, Nat.zero_le _, by omega, by decide, fun h => by omega, fun _ H3 hB3 hs3 => ?_⟩
    refine ⟨_, _, rfl, rfl, ?_⟩
    have e : (1 : Int) + ((numAt ((toBits (zs.take 2)).drop 0) 10 : Nat) : Int) = ((Sw.ofLe (zs.take 2) % 1024 + 1 : Nat) : Int) := by
      rw [List.drop_zero, size_eq zs h2]
      omega
    dsimp only
    rw [e]
    refine q _ (hs1.trans fun b' o hb' => hs3 b' o (ne_of_none hb' hx) (hb2 b' o (ne_of_none hb' hx) ?_))
    rw [upd_ne (ne_of_none hb' hx), upd_ne (ne_of_none hb' hdx)]
    exact hb'
theorem words_ok {ls : List Nat} (h15 : ∀ n ∈ ls, n ≤ 15) (h : wholeCode ls = true) : WordsOk ls := by
  have h15' : ∀ i, ls.getD i 0 ≤ 15 := fun i => by
    rw [List.getD_eq_getElem?_getD]
    cases k : ls[i]? with
    | none => exact Nat.zero_le _
    | some n => exact h15 n (List.mem_of_getElem? k)
  have g := MC.good_words ls h15' h
  exact ⟨g, g.len⟩
theorem getD_le {ls : List Nat} (h15 : ∀ n ∈ ls, n ≤ 15) (i : Nat) : ls.getD i 0 ≤ 15 := by
  rw [List.getD_eq_getElem?_getD]
  cases k : ls[i]? with
  | none => exact Nat.zero_le _
  | some n => exact h15 n (List.mem_of_getElem? k)
theorem word_lt {ls : List Nat} (h15 : ∀ n ∈ ls, n ≤ 15) {q : Nat × Nat × Nat} (h : q ∈ codewords ls) : q.1 < ls.length := by
  have : q.1 ∈ MC.symsOf ls := by rw [← MC.codewords_syms ls (getD_le h15)]; exact List.mem_map.mpr ⟨q, h, rfl⟩
  exact ((MC.symsOf_mem ls q.1).mp this).1
theorem bits_any (l : List Bool) : (l.map bI).any (fun n => n != 0) = l.any id := by
  induction l with
  | nil => rfl
  | cons b l ih =>
    rw [List.map_cons, List.any_cons, List.any_cons, ih]
    cases b <;> rfl
theorem ok_decoded (T : Tx K mg c) (GI : Hc P w K mg base CX0 2 "BitReader" c.BitReader ["self", "octets"] (sp_BitReader_init K c.BitReader)) (GN : Hm P w K mg base (L2N.CX P w) 2 c.BitReader "take_number" ["self", "width"] (sp_take_number c))
    (GT : Hd P w K mg base (L2N.CX P w) 3 "take_lengths" ["reader"] (sp_take_lengths c)) (GC : Hd P w K mg base (L2N.CX P w) 2 "check_codes" ["lengths", "distance_lengths"] (sp_check_codes K c)) (GX : Hd P w K mg base (L2N.CX P w) 4 "take_text" ["reader", "size", "symbols", "distance_symbols"] (sp_take_text c))
    (GS : Hd P w K mg base CX0 2 "symbols_by_word" ["lengths"] (sp_symbols_by_word K TT)) (GB : Hm P w K mg base CX0 1 c.BitReader "bits_left" ["self"] (sp_bits_left c))
    (F : Fun K "decoded" "decoded" s_decoded f fd) : FnOk P w K mg base (L2N.CX P w) 5 f fd ["octets"] (sp_decoded K TT c) := by
  refine okXN F sc_decoded (fun vs H Q E h => ?_) (fun cdv A outer s H vs Q E hr h => ?_)
  · obtain ⟨a, zs, rfl, _⟩ := h
    rfl
  · refine ⟨_, (pss_cons (ps_set (i := 1) sc_decoded.nd rfl (Or.inl rfl) (pe_mkd GI (hr.mono (by decide)) pass0 (pa_cons (pv 0) pa_nil)))
  (pss_cons (ps_set (i := 2) sc_decoded.nd rfl (Or.inl rfl) (pe_op op_add pe_int (pe_md T.c_BitReader GN (hr.mono (by decide)) (L2N.passes_call (L2N.takes_of rfl rfl rfl rfl) (fun _ _ _ _ h => h)) (pv 1) (pa_cons (pe_gI rfl T.SIZE_WIDTH) pa_nil))))
  (pss_cons (ps_set (i := 3) sc_decoded.nd rfl (Or.inl rfl) (pe_cd GT (hr.mono (by decide)) (L2N.passes_call (L2N.takes_of rfl rfl rfl rfl) (fun _ _ _ _ h => h)) (pa_cons (pv 1) pa_nil)))
  (pss_cons (ps_set (i := 4) sc_decoded.nd rfl (Or.inl rfl) (pe_slice sl_list (pv 3) (po_some (pe_gI rfl T.SYMBOLS)) po_none))
  (pss_cons (ps_set (i := 3) sc_decoded.nd rfl (Or.inl rfl) (pe_slice sl_list (pv 3) po_none (po_some (pe_gI rfl T.SYMBOLS))))
  (pss_cons (ps_expr (pe_cd GC (hr.mono (by decide)) (L2N.passes_call (L2N.takes_of rfl rfl rfl rfl) (fun _ _ _ _ h => h)) (pa_cons (pv 3) (pa_cons (pv 4) pa_nil))))
  (pss_cons (ps_set (i := 5) sc_decoded.nd rfl (Or.inl rfl) (pe_cd GX (hr.mono (by decide)) (L2N.passes_call (L2N.takes_of rfl rfl rfl rfl) (fun _ _ _ _ h => h)) (pa_cons (pv 1) (pa_cons (pv 2) (pa_cons (pe_cd GS (hr.mono (by decide)) pass0 (pa_cons (pv 3) pa_nil)) (pa_cons (pe_cd GS (hr.mono (by decide)) pass0 (pa_cons (pv 4) pa_nil)) pa_nil))))))
  (pss_cons (ps_set (i := 6) sc_decoded.nd rfl (Or.inl rfl) (pe_md0 T.c_BitReader GB (hr.mono (by decide)) pass0 (pv 1)))
  (pss_cons (ps_if (PW.pt (pw_or (pt_cmpR op_ge (pe_callB call_len_seq (by rfl) T.len (by decide +kernel) (pa_cons (pv 6) pa_nil)) pe_int (nomark _)) (pw_or1 (pt_val (pe_callB (cr_anyI rfl) (by rfl) T.any (by decide +kernel) (pa_cons (pv 6) pa_nil)))))) (pss_one (L2N.ps_raise rfl (L2N.takes_of rfl rfl rfl rfl) (pmk_own0N PySem.F.excBase_ValueError T.x_NoCodedBlock T.g_NoCodedBlock T.k_NoCodedBlock (raises_own T.b_NoCodedBlock T.t_NoCodedBlock) (by exact rfl)))) pss_nil)
  (pss_one (ps_ret (pv 5)))))))))))), ?_⟩
    obtain ⟨a, zs, rfl, hS, hl, hT, hE, q⟩ := h
    have htb := toBits_length zs
    refine ⟨_, rfl, fun x dx hx hdx hne => ⟨x, dx, a, zs, rfl, upd_same, ?_, by omega, fun H1 b hb0 hB1 hb1 => ⟨rfl, ?_⟩⟩⟩
    · exact (same_made (same_new hdx) (by rw [upd_ne hne.symm]; exact hx)).seq hS
    have hs1 : Same H H1 := fun b' o hb' => hb1 b' o (ne_of_none hb' hx) (by rw [upd_ne (ne_of_none hb' hx), upd_ne (ne_of_none hb' hdx)]; exact hb')
    have step : ∀ {H2 H3 : Hp}, ExtN H H2 → SameBut x H2 H3 → ExtN H H3 := fun e hsb b' o hb' hn => hsb b' o (ne_of_none hb' hx) (e b' o hb' hn)
    have e1 : ExtN H H1 := ExtN.of hs1
    have t1 : Tabs TT H1 := hT.ext hs1
    generalize hbits : toBits zs = bits at *
    obtain ⟨dx1, hx1, hbb1⟩ := id hB1
    have hrc : readCoded zs = (takeBits 10 (bits.drop 0)).bind fun (x : Nat × List Bool) => (readLengths 277 276 0 x.2).bind fun (y : List Nat × List Bool) =>
        if BadCodes (y.1.take 265) (y.1.drop 265) then none
        else (readSteps (codewords (y.1.take 265)) (codewords (y.1.drop 265)) (x.1 + 1) (x.1 + 2) #[] y.2).bind fun (z : Array UInt8 × List Bool) => if z.2.length < 8 ∧ z.2.all (fun (q : Bool) => !q) = true then some z.1.toList else none := by
      rw [List.drop_zero, ← hbits]
      rfl
    rw [takeBits_drop bits 0 10 (Nat.zero_le _)] at hrc
    refine ⟨_, rfl, x, dx1, _, rfl, hx1, brF_meth b _ (by decide +kernel) (by decide +kernel), x, b, bits, 0, 10, rfl, hB1, Nat.zero_le _, by omega, by decide, fun hlt H2 hs2 => ?_, fun hge H2 hB2 hs2 => ?_⟩
    · rw [if_pos hlt] at hrc
      exact hE hrc _ (step e1 hs2) (Tabs.but t1 hx1 (plain_ins _ _ _) hs2)
    rw [if_neg (by omega)] at hrc
    have hsz := numAt_lt (bits.drop 0) 10
    generalize numAt (bits.drop 0) 10 = v at hrc hsz ⊢
    have e2 := step e1 hs2
    have t2 : Tabs TT H2 := Tabs.but t1 hx1 (plain_ins _ _ _) hs2
    obtain ⟨dx2, hx2, hbb2⟩ := id hB2
    refine ⟨_, _, rfl, rfl, ?_⟩
    have ev : (1 : Int) + ((v : Nat) : Int) = ((v + 1 : Nat) : Int) := by omega
    dsimp only
    rw [ev]
    have hrc : readCoded zs = (readLengths 277 276 0 (bits.drop (0 + 10))).bind fun (y : List Nat × List Bool) =>
        if BadCodes (y.1.take 265) (y.1.drop 265) then none
        else (readSteps (codewords (y.1.take 265)) (codewords (y.1.drop 265)) (v + 1) (v + 1 + 1) #[] y.2).bind fun (z : Array UInt8 × List Bool) => if z.2.length < 8 ∧ z.2.all (fun (q : Bool) => !q) = true then some z.1.toList else none := hrc
    refine ⟨_, rfl, x, b, bits, 0 + 10, rfl, hB2, hge, by omega, fun hnone H3 hs3 => ?_, fun ls k2 hsome hk2 hk2b hls h15 H3 r3 hB3 hs3 hr30 hr31 => ?_⟩
    · exact hE (by rw [hrc, hnone]; rfl) _ (step e2 hs3) (Tabs.but t2 hx2 (plain_ins _ _ _) hs3)
    rw [hsome] at hrc
    have e3 := step e2 hs3
    have t3 : Tabs TT H3 := Tabs.but t2 hx2 (plain_ins _ _ _) hs3
    obtain ⟨dx3, hx3, hbb3⟩ := id hB3
    have hrc : readCoded zs = if BadCodes (ls.take 265) (ls.drop 265) then none
        else (readSteps (codewords (ls.take 265)) (codewords (ls.drop 265)) (v + 1) (v + 1 + 1) #[] (bits.drop k2)).bind fun (z : Array UInt8 × List Bool) => if z.2.length < 8 ∧ z.2.all (fun (q : Bool) => !q) = true then some z.1.toList else none := hrc
    refine ⟨_, rfl, _, rfl, _, _, rfl, .inl (.inl hr31), fun r4 hr40 => ?_⟩
    rw [show cutV (natsV ls) (some 265) none = (natsV ls).drop 265 from cut_drop _ 265]
    have hr41 : upd H3 r4 (.lst ((natsV ls).drop 265)) r4 = some (.lst (natsV (ls.drop 265))) := by
      rw [upd_same]
      unfold natsV
      rw [List.map_drop]
    have hs4 := same_new (o := .lst ((natsV ls).drop 265)) hr40
    generalize upd H3 r4 (.lst ((natsV ls).drop 265)) = H4 at hr41 hs4 ⊢
    refine ⟨_, rfl, _, rfl, _, _, rfl, .inl (.inl (hs4 _ _ hr31)), fun r5 hr50 => ?_⟩
    rw [show cutV (natsV ls) none (some 265) = (natsV ls).take 265 from cut_take _ 265]
    have hr51 : upd H4 r5 (.lst ((natsV ls).take 265)) r5 = some (.lst (natsV (ls.take 265))) := by
      rw [upd_same]
      unfold natsV
      rw [List.map_take]
    have hs5 := same_new (o := .lst ((natsV ls).take 265)) hr50
    have hr45 := hs5 _ _ hr41
    generalize upd H4 r5 (.lst ((natsV ls).take 265)) = H5 at hr51 hs5 hr45 ⊢
    have hs35 : Same H3 H5 := hs4.trans hs5
    have e5 : ExtN H H5 := e3.trans (ExtN.of hs35)
    have t5 : Tabs TT H5 := t3.ext hs35
    have hc15 : ∀ n ∈ ls.take 265, n ≤ 15 := fun n hn => h15 n (List.mem_of_mem_take hn)
    have hd15 : ∀ n ∈ ls.drop 265, n ≤ 15 := fun n hn => h15 n (List.mem_of_mem_drop hn)
    have hcl : (ls.take 265).length = 265 := by rw [List.length_take]; omega
    have hdl : (ls.drop 265).length = 11 := by rw [List.length_drop]; omega
    generalize ls.take 265 = cl at *
    generalize ls.drop 265 = dl at *
    refine ⟨_, rfl, _, rfl, r5, r4, cl, dl, rfl, .inl (.inl hr51), .inl (.inl hr45), hc15, hd15, by omega, by omega, fun hbad H6 hs6 => ?_, fun hgood H6 hs6 => ?_⟩
    · exact hE (by rw [hrc, if_pos hbad]) _ (e5.trans (ExtN.of hs6)) (t5.ext hs6)
    rw [if_neg hgood] at hrc
    have hwc : wholeCode cl = true := by
      cases h : wholeCode cl with
      | true => rfl
      | false => exact absurd (.inl h) hgood
    have hwd : wholeCode dl = true := by
      cases h : wholeCode dl with
      | true => rfl
      | false => exact absurd (.inr (.inl h)) hgood
    have e6 := e5.trans (ExtN.of hs6)
    have t6 := t5.ext hs6
    refine ⟨_, rfl, _, rfl, _, rfl, r5, cl, rfl, .inl (.inl (hs6 _ _ hr51)), by omega, getD_le hc15, t6, fun H7 d7 e7 t7 hd70 hd71 => ?_⟩
    have hr47 := e7 _ _ (hs6 _ _ hr45) (by intro ps z; cases z)
    refine ⟨_, rfl, r4, dl, rfl, .inl (.inl hr47), by omega, getD_le hd15, t7, fun H8 d8 e8 t8 hd80 hd81 => ?_⟩
    have hd78 := e8 _ _ hd71 (by intro ps z; cases z)
    have e38 : ExtN H3 H8 := ((ExtN.of (hs35.trans hs6)).trans e7).trans e8
    have e08 : ExtN H H8 := e3.trans e38
    have hB8 : BR c.BitReader H8 x b bits k2 := ⟨dx3, e38 _ _ hx3 (by intro ps z; cases z), e38 _ _ hbb3 (by intro ps z; cases z)⟩
    refine ⟨x, b, d7, d8, bits, k2, v + 1, cl, dl, rfl, hB8, hk2b, by omega, hd78, hd81, words_ok hc15 hwc, words_ok hd15 hwd, fun q0 hq0 => by have := word_lt hc15 hq0; omega, fun q0 hq0 => by have := word_lt hd15 hq0; omega, by omega, fun hnone H9 hs9 => ?_, fun out k3 hso hk3 hk3b hol H9 r9 hB9 hs9 hr90 hr91 => ?_⟩
    · exact hE (by rw [hrc, hnone]; rfl) _ (step e08 hs9) (Tabs.but t8 (e38 _ _ hx3 (by intro ps z; cases z)) (plain_ins _ _ _) hs9)
    rw [hso] at hrc
    have hrc : readCoded zs = if (bits.drop k3).length < 8 ∧ (bits.drop k3).all (fun (q : Bool) => !q) = true then some out else none := by
      rw [hrc]
      show (if _ then some out.toArray.toList else none) = _
      rw [List.toList_toArray]
    have e9 := step e08 hs9
    have t9 : Tabs TT H9 := Tabs.but t8 (e38 _ _ hx3 (by intro ps z; cases z)) (plain_ins _ _ _) hs9
    obtain ⟨dx9, hx9, hbb9⟩ := id hB9
    refine ⟨_, rfl, x, dx9, _, rfl, hx9, brF_meth b _ (by decide +kernel) (by decide +kernel), x, b, bits, k3, rfl, hB9, fun H10 r10 hs10 hr100 hr101 => ?_⟩
    have e10 := e9.trans (ExtN.of hs10)
    have t10 := t9.ext hs10
    have hlb : (((bits.drop k3).map bV)).length = (bits.drop k3).length := List.length_map ..
    refine ⟨_, rfl, _, _, rfl, .inl (.inl (.inl hr101)), _, _, rfl, rfl, _, rfl, ?_⟩
    refine ite2 (fun h1 => ?_) (fun h1 => ?_)
    · have h1' : ¬ (bits.drop k3).length < 8 := by
        have := of_decide_eq_true h1
        rw [hlb] at this
        omega
      exact hE (by rw [hrc, if_neg (fun z => h1' z.1)]) _ e10 t10
    have h1' : (bits.drop k3).length < 8 := by
      rcases Nat.lt_or_ge (bits.drop k3).length 8 with h | h
      · exact h
      · exact absurd (decide_eq_true (by rw [hlb]; omega)) h1
    refine ⟨_, rfl, r10, (bits.drop k3).map bI, rfl, .inl (.inl (by rw [hr101, List.map_map]; rfl)), _, rfl, ?_⟩
    have hall : (bits.drop k3).all (fun (q : Bool) => !q) = !((bits.drop k3).map bI).any (fun n => n != 0) := by
      rw [bits_any]
      generalize bits.drop k3 = l
      induction l with
      | nil => rfl
      | cons y l ih =>
        rw [List.all_cons, List.any_cons, ih]
        cases y <;> rfl
    rw [hall] at hrc
    refine ite2 (fun h2 => ?_) (fun h2 => ?_)
    · exact hE (by rw [hrc, if_neg (fun z => by rw [h2] at z; exact absurd z.2 (by decide))]) _ e10 t10
    · have h2' : (((bits.drop k3).map bI).any fun n => n != 0) = false := by
        cases h : ((bits.drop k3).map bI).any fun n => n != 0 with
        | false => rfl
        | true => exact absurd h h2
      rw [h2', if_pos ⟨h1', rfl⟩] at hrc
      exact ⟨_, rfl, q out hrc (by omega) _ r9 e10 t10 (fresh_of e08 hr90) (hs10 _ _ hr91)⟩
end
end Sq
end
section
set_option Elab.async false
set_option maxRecDepth 100000
set_option maxHeartbeats 2000000
/-! refusals. -/
namespace Sq
open PySem PySem.Spec PyProof.Rows L2 SqX LamX
/-- the fields of a refusal -/
def exF (n k p : V) : List (Str × V) := [("place", p), ("kind", k), ("number", n)]
/-- the exception at a has the fields, in its dict at d; all else as it was -/
def ExcAt (H H' : Hp) (a C d : Addr) (fs : List (Str × V)) : Prop := H d = none ∧ d ≠ a ∧ H' a = some (exo a C (some d)) ∧ H' d = some (exd d fs) ∧ ∀ b, b ≠ a → b ≠ d → H' b = H b
def sp_Refusal_init (K : PySem.W.Frag) : Sp := fun vs H Q _ => ∃ (a C : Addr) (x y z : V), vs = [.ref a, x, y, z] ∧ H a = some (exo a C none) ∧ OexC K C ∧ PySem.W.findIn K (.ref C) "number" = some none ∧ PySem.W.findIn K (.ref C) "kind" = some none ∧ PySem.W.findIn K (.ref C) "place" = some none ∧
  ∀ H' d, ExcAt H H' a C d (exF x y z) → Q .non H'
def sp_fixed_init (C : Addr) (n : Int) : Sp := fun vs H Q _ => ∃ a : Addr, vs = [.ref a] ∧ H a = some (exo a C none) ∧ ∀ H' d, ExcAt H H' a C d (exF (.int n) (.int 0) (.int 0)) → Q .non H'
def sp_NoPackedRow_init (c : CA) : Sp := fun vs H Q _ => ∃ (a : Addr) (y z : V), vs = [.ref a, y, z] ∧ H a = some (exo a c.NoPackedRow none) ∧ ∀ H' d, ExcAt H H' a c.NoPackedRow d (exF (.int (-6)) y z) → Q .non H'
section
variable {P : Program} {w : World} {K : PySem.W.Frag} {mg : Str → Option Value} {base : Heap} {c : CA} {f fi : Addr} {fd fdi : FuncData}
theorem ok_Refusal_init (F : Fun K "__init__" "Refusal.__init__" s_Refusal_init f fd) : FnOk P w K mg base CX0 1 f fd ["self", "number", "kind", "place"] (sp_Refusal_init K) := by
  refine F.ok sc_Refusal_init (fun vs H Q E h => ?_) (fun cdv A outer s H vs Q E hr h => ?_)
  · obtain ⟨a, C, x, y, z, rfl, _⟩ := h
    rfl
  · refine ⟨_, (pss_cons (ps_ost (pv 0) (pv 1))
  (pss_cons (ps_ost (pv 0) (pv 2))
  (pss_one (ps_ost (pv 0) (pv 3))))), ?_⟩
    obtain ⟨a, C, x, y, z, rfl, ha, hO, h1, h2, h3, q⟩ := h
    refine ⟨_, rfl, _, rfl, a, C, rfl, hO, h1, .inl ⟨ha, fun d hd hda => ?_⟩⟩
    have e1 : upd (upd H d (exd d [("number", x)])) a (exo a C (some d)) a = some (exo a C (some d)) := upd_same
    have e2 : upd (upd H d (exd d [("number", x)])) a (exo a C (some d)) d = some (exd d [("number", x)]) := by rw [upd_ne hda, upd_same]
    refine ⟨_, rfl, _, rfl, a, C, rfl, hO, h2, .inr ⟨d, _, e1, e2, by show 1 ≤ 900; decide, ?_⟩⟩
    have e3 : upd (upd (upd H d (exd d [("number", x)])) a (exo a C (some d))) d (exd d [("kind", y), ("number", x)]) a = some (exo a C (some d)) := by rw [upd_ne hda.symm]; exact e1
    refine ⟨_, rfl, _, rfl, a, C, rfl, hO, h3, .inr ⟨d, _, e3, upd_same, by show 2 ≤ 900; decide, ?_⟩⟩
    refine q _ d ⟨hd, hda, by rw [upd_ne hda.symm]; exact e3, upd_same, fun b hb hb2 => ?_⟩
    rw [upd_ne hb2, upd_ne hb2, upd_ne hb, upd_ne hb2]
end
section
variable {P : Program} {w : World} {K : PySem.W.Frag} {mg : Str → Option Value} {base : Heap} {c : CA} {f fi : Addr} {fd fdi : FuncData}
theorem ok_NoPackedRow_init (T : Tx K mg c) (M : ClsM K c.Refusal "__init__" fi) (FI : FnOk P w K mg base CX0 1 fi fdi ["self", "number", "kind", "place"] (sp_Refusal_init K)) (hb : Binds K fdi ["self", "number", "kind", "place"] [])
    (F : Fun K "__init__" "NoPackedRow.__init__" s_NoPackedRow_init f fd) : FnOk P w K mg base CX0 2 f fd ["self", "kind", "place"] (sp_NoPackedRow_init c) := by
  refine F.ok sc_NoPackedRow_init (fun vs H Q E h => ?_) (fun cdv A outer s H vs Q E hr h => ?_)
  · obtain ⟨a, y, z, rfl, _⟩ := h
    rfl
  · refine ⟨_, (pss_one (ps_expr (pe_clsCall M FI (hr.mono (by decide)) rfl T.g_Refusal hb pass0 (pa_cons (pv 0) (pa_cons (pe_un un_neg pe_int) (pa_cons (pv 1) (pa_cons (pv 2) pa_nil))))))), ?_⟩
    obtain ⟨a, y, z, rfl, ha, q⟩ := h
    refine ⟨_, rfl, _, rfl, _, rfl, _, rfl, a, c.NoPackedRow, _, y, z, rfl, ha, T.o_NoPackedRow, T.n_NoPackedRow_number, T.n_NoPackedRow_kind, T.n_NoPackedRow_place, fun H' d hx => q H' d hx⟩
theorem ok_BeyondText_init (T : Tx K mg c) (M : ClsM K c.Refusal "__init__" fi) (FI : FnOk P w K mg base CX0 1 fi fdi ["self", "number", "kind", "place"] (sp_Refusal_init K)) (hb : Binds K fdi ["self", "number", "kind", "place"] [])
    (F : Fun K "__init__" "BeyondText.__init__" s_BeyondText_init f fd) : FnOk P w K mg base CX0 2 f fd ["self"] (sp_fixed_init c.BeyondText (-1)) := by
  refine F.ok sc_BeyondText_init (fun vs H Q E h => ?_) (fun cdv A outer s H vs Q E hr h => ?_)
  · obtain ⟨a, rfl, _⟩ := h
    rfl
  · refine ⟨_, (pss_one (ps_expr (pe_clsCall M FI (hr.mono (by decide)) rfl T.g_Refusal hb pass0 (pa_cons (pv 0) (pa_cons (pe_un un_neg pe_int) (pa_cons pe_int (pa_cons pe_int pa_nil))))))), ?_⟩
    obtain ⟨a, rfl, ha, q⟩ := h
    refine ⟨_, rfl, _, rfl, a, c.BeyondText, _, _, _, rfl, ha, T.o_BeyondText, T.n_BeyondText_number, T.n_BeyondText_kind, T.n_BeyondText_place, fun H' d hx => q H' d hx⟩
theorem ok_TooLong_init (T : Tx K mg c) (M : ClsM K c.Refusal "__init__" fi) (FI : FnOk P w K mg base CX0 1 fi fdi ["self", "number", "kind", "place"] (sp_Refusal_init K)) (hb : Binds K fdi ["self", "number", "kind", "place"] [])
    (F : Fun K "__init__" "TooLong.__init__" s_TooLong_init f fd) : FnOk P w K mg base CX0 2 f fd ["self"] (sp_fixed_init c.TooLong (-2)) := by
  refine F.ok sc_TooLong_init (fun vs H Q E h => ?_) (fun cdv A outer s H vs Q E hr h => ?_)
  · obtain ⟨a, rfl, _⟩ := h
    rfl
  · refine ⟨_, (pss_one (ps_expr (pe_clsCall M FI (hr.mono (by decide)) rfl T.g_Refusal hb pass0 (pa_cons (pv 0) (pa_cons (pe_un un_neg pe_int) (pa_cons pe_int (pa_cons pe_int pa_nil))))))), ?_⟩
    obtain ⟨a, rfl, ha, q⟩ := h
    refine ⟨_, rfl, _, rfl, a, c.TooLong, _, _, _, rfl, ha, T.o_TooLong, T.n_TooLong_number, T.n_TooLong_kind, T.n_TooLong_place, fun H' d hx => q H' d hx⟩
theorem ok_TooOften_init (T : Tx K mg c) (M : ClsM K c.Refusal "__init__" fi) (FI : FnOk P w K mg base CX0 1 fi fdi ["self", "number", "kind", "place"] (sp_Refusal_init K)) (hb : Binds K fdi ["self", "number", "kind", "place"] [])
    (F : Fun K "__init__" "TooOften.__init__" s_TooOften_init f fd) : FnOk P w K mg base CX0 2 f fd ["self"] (sp_fixed_init c.TooOften (-1)) := by
  refine F.ok sc_TooOften_init (fun vs H Q E h => ?_) (fun cdv A outer s H vs Q E hr h => ?_)
  · obtain ⟨a, rfl, _⟩ := h
    rfl
  · refine ⟨_, (pss_one (ps_expr (pe_clsCall M FI (hr.mono (by decide)) rfl T.g_Refusal hb pass0 (pa_cons (pv 0) (pa_cons (pe_un un_neg pe_int) (pa_cons pe_int (pa_cons pe_int pa_nil))))))), ?_⟩
    obtain ⟨a, rfl, ha, q⟩ := h
    refine ⟨_, rfl, _, rfl, a, c.TooOften, _, _, _, rfl, ha, T.o_TooOften, T.n_TooOften_number, T.n_TooOften_kind, T.n_TooOften_place, fun H' d hx => q H' d hx⟩
theorem ok_NoState_init (T : Tx K mg c) (M : ClsM K c.Refusal "__init__" fi) (FI : FnOk P w K mg base CX0 1 fi fdi ["self", "number", "kind", "place"] (sp_Refusal_init K)) (hb : Binds K fdi ["self", "number", "kind", "place"] [])
    (F : Fun K "__init__" "NoState.__init__" s_NoState_init f fd) : FnOk P w K mg base CX0 2 f fd ["self"] (sp_fixed_init c.NoState (-1)) := by
  refine F.ok sc_NoState_init (fun vs H Q E h => ?_) (fun cdv A outer s H vs Q E hr h => ?_)
  · obtain ⟨a, rfl, _⟩ := h
    rfl
  · refine ⟨_, (pss_one (ps_expr (pe_clsCall M FI (hr.mono (by decide)) rfl T.g_Refusal hb pass0 (pa_cons (pv 0) (pa_cons (pe_un un_neg pe_int) (pa_cons pe_int (pa_cons pe_int pa_nil))))))), ?_⟩
    obtain ⟨a, rfl, ha, q⟩ := h
    refine ⟨_, rfl, _, rfl, a, c.NoState, _, _, _, rfl, ha, T.o_NoState, T.n_NoState_number, T.n_NoState_kind, T.n_NoState_place, fun H' d hx => q H' d hx⟩
theorem ok_NotBegun_init (T : Tx K mg c) (M : ClsM K c.Refusal "__init__" fi) (FI : FnOk P w K mg base CX0 1 fi fdi ["self", "number", "kind", "place"] (sp_Refusal_init K)) (hb : Binds K fdi ["self", "number", "kind", "place"] [])
    (F : Fun K "__init__" "NotBegun.__init__" s_NotBegun_init f fd) : FnOk P w K mg base CX0 2 f fd ["self"] (sp_fixed_init c.NotBegun (-3)) := by
  refine F.ok sc_NotBegun_init (fun vs H Q E h => ?_) (fun cdv A outer s H vs Q E hr h => ?_)
  · obtain ⟨a, rfl, _⟩ := h
    rfl
  · refine ⟨_, (pss_one (ps_expr (pe_clsCall M FI (hr.mono (by decide)) rfl T.g_Refusal hb pass0 (pa_cons (pv 0) (pa_cons (pe_un un_neg pe_int) (pa_cons pe_int (pa_cons pe_int pa_nil))))))), ?_⟩
    obtain ⟨a, rfl, ha, q⟩ := h
    refine ⟨_, rfl, _, rfl, a, c.NotBegun, _, _, _, rfl, ha, T.o_NotBegun, T.n_NotBegun_number, T.n_NotBegun_kind, T.n_NotBegun_place, fun H' d hx => q H' d hx⟩
theorem ok_PackedOtherwise_init (T : Tx K mg c) (M : ClsM K c.Refusal "__init__" fi) (FI : FnOk P w K mg base CX0 1 fi fdi ["self", "number", "kind", "place"] (sp_Refusal_init K)) (hb : Binds K fdi ["self", "number", "kind", "place"] [])
    (F : Fun K "__init__" "PackedOtherwise.__init__" s_PackedOtherwise_init f fd) : FnOk P w K mg base CX0 2 f fd ["self"] (sp_fixed_init c.PackedOtherwise (-9)) := by
  refine F.ok sc_PackedOtherwise_init (fun vs H Q E h => ?_) (fun cdv A outer s H vs Q E hr h => ?_)
  · obtain ⟨a, rfl, _⟩ := h
    rfl
  · refine ⟨_, (pss_one (ps_expr (pe_clsCall M FI (hr.mono (by decide)) rfl T.g_Refusal hb pass0 (pa_cons (pv 0) (pa_cons (pe_un un_neg pe_int) (pa_cons pe_int (pa_cons pe_int pa_nil))))))), ?_⟩
    obtain ⟨a, rfl, ha, q⟩ := h
    refine ⟨_, rfl, _, rfl, a, c.PackedOtherwise, _, _, _, rfl, ha, T.o_PackedOtherwise, T.n_PackedOtherwise_number, T.n_PackedOtherwise_kind, T.n_PackedOtherwise_place, fun H' d hx => q H' d hx⟩
end
end Sq
end
section
set_option Elab.async false
set_option maxRecDepth 100000
set_option maxHeartbeats 2000000
/-! reading. -/
namespace Sq
open PySem PySem.Spec PyProof.Rows L2 SqX LamX
def rrF (ar : Addr) (s e r t b : Nat) (ap : Addr) : List (Str × V) := [("row", .ref ar), ("part_start", .int s), ("part_stop", .int e), ("reached", .int r), ("text_size", .int t), ("blocks", .int b), ("part", .ref ap)]
theorem rr_row {ar s e r t b ap} : (rrF ar s e r t b ap).lookup ("row" : Str) = some (.ref ar) := lk_here
theorem rr_start {ar s e r t b ap} : (rrF ar s e r t b ap).lookup ("part_start" : Str) = some (.int s) := (lk_past (by decide +kernel)).trans lk_here
theorem rr_stop {ar s e r t b ap} : (rrF ar s e r t b ap).lookup ("part_stop" : Str) = some (.int e) := (lk_past (by decide +kernel)).trans ((lk_past (by decide +kernel)).trans lk_here)
theorem rr_reached {ar s e r t b ap} : (rrF ar s e r t b ap).lookup ("reached" : Str) = some (.int r) := (lk_past (by decide +kernel)).trans ((lk_past (by decide +kernel)).trans ((lk_past (by decide +kernel)).trans lk_here))
theorem rr_size {ar s e r t b ap} : (rrF ar s e r t b ap).lookup ("text_size" : Str) = some (.int t) := (lk_past (by decide +kernel)).trans ((lk_past (by decide +kernel)).trans ((lk_past (by decide +kernel)).trans ((lk_past (by decide +kernel)).trans lk_here)))
theorem rr_blocks {ar s e r t b ap} : (rrF ar s e r t b ap).lookup ("blocks" : Str) = some (.int b) := (lk_past (by decide +kernel)).trans ((lk_past (by decide +kernel)).trans ((lk_past (by decide +kernel)).trans ((lk_past (by decide +kernel)).trans ((lk_past (by decide +kernel)).trans lk_here))))
theorem rr_part {ar s e r t b ap} : (rrF ar s e r t b ap).lookup ("part" : Str) = some (.ref ap) := (lk_past (by decide +kernel)).trans ((lk_past (by decide +kernel)).trans ((lk_past (by decide +kernel)).trans ((lk_past (by decide +kernel)).trans ((lk_past (by decide +kernel)).trans ((lk_past (by decide +kernel)).trans lk_here)))))
theorem rr_put_reached {ar s e r t b ap} {n : Nat} : putF "reached" (.int n) (rrF ar s e r t b ap) = rrF ar s e n t b ap :=
  (put_past (by decide +kernel)).trans (congrArg _ ((put_past (by decide +kernel)).trans (congrArg _ ((put_past (by decide +kernel)).trans (congrArg _ put_here)))))
/-- a reader of a row: where the row and the part are, what's asked for, how far it is -/
def RR (C : Addr) (H : Hp) (p ar ap : Addr) (row : Sw.Bytes) (s e r t b : Nat) (part : Sw.Bytes) : Prop := ∃ dx, H p = some (.ins C dx (rrF ar s e r t b ap)) ∧ H ar = some (.lst (bytesV row)) ∧ H ap = some (.lst (bytesV part)) ∧ ar ≠ ap
/-- a row refused: the fault's kind and place -/
def NpE (c : CA) (E : XK) (H : Hp) (fr : Hp → Hp → Prop) (k n : Nat) : Prop := ∀ H' d, fr H H' → H' d = some (.xd (exF (.int (-6)) (.int k) (.int n))) → E (.ref c.NoPackedRow) (some d) H'
def sp_rr_take (c : CA) : Sp := fun vs H Q E => ∃ (p ar ap : Addr) (row : Sw.Bytes) (s e r t b n : Nat) (part : Sw.Bytes), vs = [.ref p, .int n] ∧ RR c.RowReader H p ar ap row s e r t b part ∧ r ≤ row.length ∧
  (row.length < r + n → NpE c E H (SameBut p) 1 row.length) ∧
  (r + n ≤ row.length → ∀ H' q, RR c.RowReader H' p ar ap row s e (r + n) t b part → SameBut p H H' → H q = none → H' q = some (.lst (bytesV ((row.drop r).take n))) → Q (.ref q) H')
section
variable {P : Program} {w : World} {K : PySem.W.Frag} {mg : Str → Option Value} {base : Heap} {c : CA} {f fi : Addr} {fd fdi : FuncData}
theorem ok_RowReader_take (T : Tx K mg c) (GN : He P w K mg base CX0 2 "NoPackedRow" c.NoPackedRow ["self", "kind", "place"] (sp_NoPackedRow_init c)) (F : Fun K "take" "RowReader.take" s_RowReader_take f fd) :
    FnOk P w K mg base (L2.CX P w) 4 f fd ["self", "count"] (sp_rr_take c) := by
  refine F.okX sc_RowReader_take (fun vs H Q E h => ?_) (fun cdv A outer s H vs Q E hr h => ?_)
  · obtain ⟨p, ar, ap, row, s, e, r, t, b, n, part, rfl, _⟩ := h
    rfl
  · refine ⟨_, (pss_cons (ps_if (pt_cmpR op_lt (pe_op op_sub (pe_callB call_len_seq (by rfl) T.len (by decide +kernel) (pa_cons (pe_fld (pv 0) rfl) pa_nil)) (pe_fld (pv 0) rfl)) (pv 1) (nomark _)) (pss_one (ps_raise rfl (takes_of rfl rfl rfl rfl) (pmk_exd GN (hr.mono (by decide)) (pa_cons (pe_gI rfl T.ENDS) (pa_cons (pe_callB call_len_seq (by rfl) T.len (by decide +kernel) (pa_cons (pe_fld (pv 0) rfl) pa_nil)) pa_nil))))) pss_nil)
  (pss_cons (ps_fldaug (pv 0) (pv 1) in_add)
  (pss_one (ps_ret (pe_slice sl_list (pe_fld (pv 0) rfl) (po_some (pe_op op_sub (pe_fld (pv 0) rfl) (pv 1))) (po_some (pe_fld (pv 0) rfl))))))), ?_⟩
    obtain ⟨p, ar, ap, row, sP, eP, r, t, b, n, part, rfl, ⟨dx, hp, har, hap, hne⟩, hrl, hE, q⟩ := h
    have hbl : (bytesV row).length = row.length := List.length_map ..
    refine ⟨_, rfl, p, _, dx, _, _, rfl, hp, T.c_RowReader, T.n_RowReader_row, rr_row, _, _, rfl, .inl (.inl (.inl har)), _, rfl, p, _, dx, _, _, rfl, hp, T.c_RowReader, T.n_RowReader_reached, rr_reached, _, _, rfl, rfl, _, rfl, _, _, rfl, rfl, _, rfl, ?_⟩
    refine ite2 (fun h1 => ?_) (fun h1 => ?_)
    · have h1' : row.length < r + n := by
        have := of_decide_eq_true h1
        rw [hbl] at this
        omega
      refine ⟨_, rfl, p, _, dx, _, _, rfl, hp, T.c_RowReader, T.n_RowReader_row, rr_row, _, _, rfl, .inl (.inl (.inl har)), ?_⟩
      rw [hbl]
      refine ⟨by show 2 ≤ 1000; decide, fun a ha0 => ⟨a, _, _, rfl, upd_same, fun H' d hx => ?_⟩⟩
      obtain ⟨k1, k2, k3, k4, k5⟩ := hx
      have hd0 : H d = none := by rw [upd_ne k2] at k1; exact k1
      refine ⟨rfl, d, _, k3, k4, hd0, hE h1' _ d (fun b' o hb' hb2 => ?_) upd_same⟩
      rw [upd_ne (ne_of_none hb2 hd0), del_ne (ne_of_none hb2 ha0), k5 b' (ne_of_none hb2 ha0) (ne_of_none hb2 hd0), upd_ne (ne_of_none hb2 ha0)]
      exact hb2
    · have h1' : r + n ≤ row.length := by
        have : ¬ (((row.length : Nat) : Int) - ((r : Nat) : Int) < ((n : Nat) : Int)) := fun z => h1 (decide_eq_true (by rw [hbl]; exact z))
        omega
      refine ⟨_, rfl, p, _, dx, _, _, rfl, hp, T.c_RowReader, T.n_RowReader_reached, rr_reached, _, rfl, _, _, rfl, rfl, dx, _, hp, (by show 7 < 1000; decide), ?_⟩
      rw [show ((r : Nat) : Int) + ((n : Nat) : Int) = ((r + n : Nat) : Int) by omega, rr_put_reached]
      have hp2 : upd H p (.ins c.RowReader dx (rrF ar sP eP (r + n) t b ap)) p = some (.ins c.RowReader dx (rrF ar sP eP (r + n) t b ap)) := upd_same
      have har2 : upd H p (.ins c.RowReader dx (rrF ar sP eP (r + n) t b ap)) ar = some (.lst (bytesV row)) := by rw [upd_ne (ne_of har hp (by intro z; cases z))]; exact har
      have hap2 : upd H p (.ins c.RowReader dx (rrF ar sP eP (r + n) t b ap)) ap = some (.lst (bytesV part)) := by rw [upd_ne (ne_of hap hp (by intro z; cases z))]; exact hap
      have hs2 : SameBut p H (upd H p (.ins c.RowReader dx (rrF ar sP eP (r + n) t b ap))) := SameBut.put (SameBut.refl _ _)
      generalize upd H p (.ins c.RowReader dx (rrF ar sP eP (r + n) t b ap)) = H2 at hp2 har2 hap2 hs2 ⊢
      have e1 : ((r + n : Nat) : Int) - ((n : Nat) : Int) = ((r : Nat) : Int) := by omega
      refine ⟨_, rfl, p, _, dx, _, _, rfl, hp2, T.c_RowReader, T.n_RowReader_row, rr_row, _, rfl, p, _, dx, _, _, rfl, hp2, T.c_RowReader, T.n_RowReader_reached, rr_reached, _, rfl, _, _, rfl, rfl, _, rfl, _, rfl, p, _, dx, _, _, rfl, hp2, T.c_RowReader, T.n_RowReader_reached, rr_reached, _, rfl, _, _, rfl, .inl (.inl har2), fun z hz => ?_⟩
      have ec : cutV (bytesV row) (some (((r + n : Nat) : Int) - ((n : Nat) : Int))) (some ((r + n : Nat) : Int)) = bytesV ((row.drop r).take n) := by
        rw [e1, cut_part _ _ _ (by omega), show r + n - r = n by omega]
        unfold bytesV
        rw [List.map_take, List.map_drop]
      rw [ec]
      have hzp : z ≠ p := fun k => by rw [k, hp2] at hz; cases hz
      refine q h1' _ z ⟨dx, by rw [upd_ne (ne_of_none hp2 hz)]; exact hp2, by rw [upd_ne (ne_of_none har2 hz)]; exact har2, by rw [upd_ne (ne_of_none hap2 hz)]; exact hap2, hne⟩ (hs2.trans (SameBut.of (same_new hz))) (hs2.free hzp hz) upd_same
theorem ofLe_snoc : ∀ (l : Sw.Bytes) (x : UInt8), Sw.ofLe (l ++ [x]) = Sw.ofLe l + x.toNat * 2 ^ (8 * l.length)
  | [], x => by simp [Sw.ofLe]
  | y :: l, x => by
    show y.toNat + 256 * Sw.ofLe (l ++ [x]) = y.toNat + 256 * Sw.ofLe l + x.toNat * 2 ^ (8 * (l.length + 1))
    rw [ofLe_snoc l x, show 8 * (l.length + 1) = 8 * l.length + 8 by omega, Nat.pow_add]
    generalize 2 ^ (8 * l.length) = z
    rw [Nat.mul_add, ← Nat.add_assoc]
    congr 1
    rw [show (2 : Nat) ^ 8 = 256 from rfl, ← Nat.mul_assoc, ← Nat.mul_assoc, Nat.mul_comm 256 x.toNat, Nat.mul_assoc, Nat.mul_assoc, Nat.mul_comm 256 z]
theorem ofLe_lt : ∀ l : Sw.Bytes, Sw.ofLe l < 2 ^ (8 * l.length)
  | [] => by decide
  | y :: l => by
    show y.toNat + 256 * Sw.ofLe l < 2 ^ (8 * (l.length + 1))
    have h1 := ofLe_lt l
    have h2 := y.toNat_lt
    rw [show 8 * (l.length + 1) = 8 * l.length + 8 by omega, Nat.pow_add]
    generalize 2 ^ (8 * l.length) = z at h1 ⊢
    omega
theorem rr_meth {ar s e r t b ap} {m : Str} (h : ((["row", "part_start", "part_stop", "reached", "text_size", "blocks", "part"] : List Str).all fun g => !(m == g)) = true) : (rrF ar s e r t b ap).lookup m = none := by
  simp only [List.all_cons, List.all_nil, Bool.and_true, Bool.and_eq_true, Bool.not_eq_true'] at h
  obtain ⟨h1, h2, h3, h4, h5, h6, h7⟩ := h
  exact (lk_past h1).trans ((lk_past h2).trans ((lk_past h3).trans ((lk_past h4).trans ((lk_past h5).trans ((lk_past h6).trans ((lk_past h7).trans rfl))))))
theorem RR.keep {C : Addr} {H H' : Hp} {p ar ap : Addr} {row part : Sw.Bytes} {s e r t b : Nat} (h : RR C H p ar ap row s e r t b part) (k : Same H H') : RR C H' p ar ap row s e r t b part := by
  obtain ⟨dx, h1, h2, h3, h4⟩ := h
  exact ⟨dx, k _ _ h1, k _ _ h2, k _ _ h3, h4⟩
def sp_rr_take_number (c : CA) : Sp := fun vs H Q E => ∃ (p ar ap : Addr) (row : Sw.Bytes) (s e r t b n : Nat) (part : Sw.Bytes), vs = [.ref p, .int n] ∧ RR c.RowReader H p ar ap row s e r t b part ∧ r ≤ row.length ∧ n ≤ 1000 ∧
  (row.length < r + n → NpE c E H (SameBut p) 1 row.length) ∧
  (r + n ≤ row.length → ∀ H', RR c.RowReader H' p ar ap row s e (r + n) t b part → SameBut p H H' → Q (.int (Sw.ofLe ((row.drop r).take n) : Nat)) H')
theorem or_shl {n x k : Nat} (h : n < 2 ^ k) : Builtin.bitOr ((n : Nat) : Int) (((x : Nat) : Int) * 2 ^ k) = ((n + x * 2 ^ k : Nat) : Int) := by
  rw [show ((x : Nat) : Int) * 2 ^ k = ((x * 2 ^ k : Nat) : Int) by simp, or_nn]
  have := Nat.two_pow_add_eq_or_of_lt h x
  rw [Nat.or_comm, Nat.mul_comm x, ← this, Nat.add_comm]
theorem ok_RowReader_take_number (T : Tx K mg c) (GT : Hm P w K mg base (L2.CX P w) 4 c.RowReader "take" ["self", "count"] (sp_rr_take c)) (F : Fun K "take_number" "RowReader.take_number" s_RowReader_take_number f fd) :
    FnOk P w K mg base (L2.CX P w) 5 f fd ["self", "width"] (sp_rr_take_number c) := by
  refine F.okX sc_RowReader_take_number (fun vs H Q E h => ?_) (fun cdv A outer s H vs Q E hr h => ?_)
  · obtain ⟨p, ar, ap, row, s, e, r, t, b, n, part, rfl, _⟩ := h
    rfl
  · refine ⟨_, (pss_cons (ps_set (i := 2) sc_RowReader_take_number.nd rfl (Or.inl rfl) pe_int)
  (pss_cons (ps_for (passes_of rfl) rfl (pi_enum rfl T.enumerate (pa_cons (pe_md T.c_RowReader GT (hr.mono (by decide)) (passes_call (takes_of rfl rfl rfl rfl) (fun _ _ _ _ h => h)) (pv 0) (pa_cons (pv 1) pa_nil)) pa_nil)) (pg_tup rfl (pgs_cons (pg_name (i := 3) sc_RowReader_take_number.nd rfl (Or.inl rfl)) (pgs_cons (pg_name (i := 4) sc_RowReader_take_number.nd rfl (Or.inl rfl)) pgs_nil))) (pss_one (ps_aug (i := 2) sc_RowReader_take_number.nd rfl (Or.inl rfl) (pe_op op_shl (pv 4) (pe_op op_mul pe_int (pv 3))) iop_or)))
  (pss_one (ps_ret (pv 2))))), ?_⟩
    obtain ⟨p, ar, ap, row, sP, eP, r, t, b, n, part, rfl, hR, hrl, hn, hE, q⟩ := h
    obtain ⟨dx, hp, har, hap, hne⟩ := id hR
    refine ⟨_, rfl, p, dx, _, rfl, hp, rr_meth (by decide +kernel), _, rfl, p, ar, ap, row, sP, eP, r, t, b, n, part, rfl, hR, hrl, hE, fun hle H1 z hR1 hs1 hz0 hz1 => ?_⟩
    generalize hzz : (row.drop r).take n = zz at hz1 q
    have hzl : zz.length = n := by rw [← hzz, List.length_take, List.length_drop]; omega
    have hbl : (bytesV zz).length = zz.length := List.length_map ..
    refine ⟨z, _, rfl, .inl (.inl hz1), for_it (walk_enum (xs := bytesV zz)) (fun i σ H' => ∃ v3 v4 : Option V, σ = [some (.ref p), some (.int n), some (.int (Sw.ofLe (zz.take i) : Nat)), v3, v4] ∧ Same H1 H')
      ⟨_, _, rfl, Same.refl _⟩ (fun i σ H' _ hP => ?_) (fun i x σ H' H2 hi hP y => ?_) (fun σ H' hP => ?_)⟩
    · obtain ⟨_, _, _, h⟩ := hP
      exact .inl (.inl (h _ _ hz1))
    · obtain ⟨tt, x1, x2, rfl, ht, rfl, hx1, hx2⟩ := y
      cases hx1
      obtain ⟨v3, v4, rfl, hs2⟩ := hP
      rw [hbl] at hi
      obtain rfl := Option.some.inj ((bytes_get hi).symm.trans hx2)
      have htl : (zz.take i).length = i := by rw [List.length_take]; omega
      have hlt := ofLe_lt (zz.take i)
      rw [htl] at hlt
      have h256 := (zz.getD i 0).toNat_lt
      have hgi : zz[i]? = some (zz.getD i 0) := by rw [List.getD_eq_getElem?_getD, List.getElem?_eq_getElem hi]; rfl
      refine ⟨tt, _, rfl, .inl (.inl upd_same), rfl, _, _, rfl, _, _, rfl, rfl, ?_⟩
      refine ⟨_, rfl, _, rfl, _, rfl, _, _, rfl, rfl, .inl ⟨by decide, by decide⟩, _, _, rfl, rfl, ⟨by omega, by omega, by omega⟩, _, _, rfl, rfl, ?_⟩
      have e : Builtin.bitOr ((Sw.ofLe (zz.take i) : Nat) : Int) (((zz.getD i 0).toNat : Int) * 2 ^ ((8 : Int) * ((i : Nat) : Int)).toNat) = ((Sw.ofLe (zz.take (i + 1)) : Nat) : Int) := by
        rw [show ((8 : Int) * ((i : Nat) : Int)).toNat = 8 * i by omega, or_shl hlt, take_succ_of hgi, ofLe_snoc, htl]
      dsimp only
      rw [e]
      exact ⟨_, _, rfl, same_made hs2 ht⟩
    · obtain ⟨v3, v4, rfl, hs2⟩ := hP
      rw [hbl, List.take_length]
      exact ⟨_, rfl, q hle _ (hR1.keep hs2) (hs1.trans (SameBut.of hs2))⟩
end
end Sq
end
section
set_option Elab.async false
set_option maxRecDepth 100000
set_option maxHeartbeats 2000000
/-! reading: the mark. -/
namespace Sq
open PySem PySem.Spec PyProof.Rows L2 SqX LamX
open SwSqueeze (must)
def markB : Sw.Bytes := [83, 87, 90, 49]
theorem mark_eq : Sw.ascii "SWZ1" = markB := by decide
theorem NpE.mono {c : CA} {E : XK} {H H1 : Hp} {fr fr1 : Hp → Hp → Prop} {k n : Nat} (h : NpE c E H fr k n) (s : ∀ H', fr1 H1 H' → fr H H') : NpE c E H1 fr1 k n := fun H' d hf hd => h H' d (s H' hf) hd
theorem ofLe_one (row : Sw.Bytes) {i : Nat} (h : i < row.length) : Sw.ofLe ((row.drop i).take 1) = (row.getD i 0).toNat := by
  rw [List.drop_eq_getElem_cons h, List.getD_eq_getElem?_getD, List.getElem?_eq_getElem h]
  show row[i].toNat + 256 * 0 = row[i].toNat
  omega
/-- the end of a raise NoPackedRow(y, z) -/
theorem np_done {c : CA} {E : XK} {H : Hp} {a : Addr} {y z : V} (ha0 : H a = none) (hE : ∀ H' d, Same H H' → H' d = some (.xd (exF (.int (-6)) y z)) → E (.ref c.NoPackedRow) (some d) H') (H' : Hp) (d : Addr) (hx : ExcAt (upd H a (exo a c.NoPackedRow none)) H' a c.NoPackedRow d (exF (.int (-6)) y z)) :
    V.non = .non ∧ ∃ (d : Addr) (fs : List (Str × V)), H' a = some (exo a c.NoPackedRow (some d)) ∧ H' d = some (exd d fs) ∧ H d = none ∧ E (.ref c.NoPackedRow) (some d) (upd (del H' a) d (.xd fs)) := by
  obtain ⟨k1, k2, k3, k4, k5⟩ := hx
  have hd0 : H d = none := by rw [upd_ne k2] at k1; exact k1
  refine ⟨rfl, d, _, k3, k4, hd0, hE _ d (fun b' o hb2 => ?_) upd_same⟩
  rw [upd_ne (ne_of_none hb2 hd0), del_ne (ne_of_none hb2 ha0), k5 b' (ne_of_none hb2 ha0) (ne_of_none hb2 hd0), upd_ne (ne_of_none hb2 ha0)]
  exact hb2
def sp_rr_mark (c : CA) : Sp := fun vs H Q E => ∃ (p ar ap : Addr) (row : Sw.Bytes) (s e t b : Nat) (part : Sw.Bytes), vs = [.ref p] ∧ RR c.RowReader H p ar ap row s e 0 t b part ∧
  (∀ f, must 0 (Sw.ascii "SWZ1") row = some f → NpE c E H (SameBut p) f.kind f.place) ∧
  (must 0 (Sw.ascii "SWZ1") row = none → 4 ≤ row.length → ∀ H', RR c.RowReader H' p ar ap row s e 4 t b part → SameBut p H H' → Q .non H')
section
variable {P : Program} {w : World} {K : PySem.W.Frag} {mg : Str → Option Value} {base : Heap} {c : CA} {f fi : Addr} {fd fdi : FuncData}
theorem ok_RowReader_read_mark (T : Tx K mg c) (GT : Hm P w K mg base (L2.CX P w) 5 c.RowReader "take_number" ["self", "width"] (sp_rr_take_number c)) (GN : He P w K mg base CX0 2 "NoPackedRow" c.NoPackedRow ["self", "kind", "place"] (sp_NoPackedRow_init c))
    (F : Fun K "read_mark" "RowReader.read_mark" s_RowReader_read_mark f fd) : FnOk P w K mg base (L2.CX P w) 6 f fd ["self"] (sp_rr_mark c) := by
  refine F.okX sc_RowReader_read_mark (fun vs H Q E h => ?_) (fun cdv A outer s H vs Q E hr h => ?_)
  · obtain ⟨p, ar, ap, row, s, e, t, b, part, rfl, _⟩ := h
    rfl
  · refine ⟨_, (pss_one (ps_for (passes_of rfl) rfl (pi_tup (pe_gT rfl T.MARK)) (pg_name (i := 1) sc_RowReader_read_mark.nd rfl (Or.inl rfl)) (pss_one (ps_if (pt_cmpR op_ne (pe_md T.c_RowReader GT (hr.mono (by decide)) (passes_call (takes_of rfl rfl rfl rfl) (fun _ _ _ _ h => h)) (pv 0) (pa_cons pe_int pa_nil)) (pv 1) (nomark _)) (pss_one (ps_raise rfl (takes_of rfl rfl rfl rfl) (pmk_exd GN (hr.mono (by decide)) (pa_cons (pe_gI rfl T.NOT_SO) (pa_cons (pe_op op_sub (pe_fld (pv 0) rfl) pe_int) pa_nil))))) pss_nil)))), ?_⟩
    obtain ⟨p, ar, ap, row, sP, eP, t, b, part, rfl, hR, hE, q⟩ := h
    rw [mark_eq] at hE q
    refine fun am hm => ⟨am, rfl, ⟨_, hm _⟩, ?_⟩
    refine for_it (walk_tup (xs := [.int 83, .int 87, .int 90, .int 49])) (fun i σ H' => ∃ v1 : Option V, σ = [some (.ref p), v1] ∧ RR c.RowReader H' p ar ap row sP eP i t b part ∧ SameBut p H H' ∧ i ≤ row.length ∧ must 0 markB row = must i (markB.drop i) (row.drop i))
      ⟨_, rfl, hR, SameBut.refl _ _, Nat.zero_le _, rfl⟩ (fun i σ H' _ _ => hm _) (fun i x σ H' H2 hi hP y => ?_) (fun σ H' hP => ?_)
    · obtain ⟨rfl, hx⟩ := y
      obtain ⟨v1, rfl, hR2, hs2, hil, hmu⟩ := hP
      have hi : i < 4 := hi
      obtain ⟨m0, hm0⟩ : ∃ m0, markB[i]? = some m0 := ⟨_, List.getElem?_eq_getElem hi⟩
      have hxm : x = V.int (m0.toNat : Nat) := by
        have h1 : ([V.int 83, V.int 87, V.int 90, V.int 49] : List V) = bytesV markB := rfl
        rw [h1, bytesV, List.getElem?_map, hm0] at hx
        exact (Option.some.inj hx).symm
      subst hxm
      have hdm : markB.drop i = m0 :: markB.drop (i + 1) := by
        rw [List.drop_eq_getElem_cons hi]
        congr 1
        rw [List.getElem?_eq_getElem hi] at hm0
        exact Option.some.inj hm0
      obtain ⟨dx2, hp2, har2, hap2, hne⟩ := id hR2
      refine ⟨_, rfl, p, dx2, _, rfl, hp2, rr_meth (by decide +kernel), p, ar, ap, row, sP, eP, i, t, b, 1, part, rfl, hR2, hil, by decide, fun hlt => ?_, fun hle H3 hR3 hs3 => ?_⟩
      · have hl : row.length = i := by omega
        have hmu2 : must 0 markB row = some ⟨1, i⟩ := by
          rw [hmu, hdm, List.drop_of_length_le (l := row) (by omega)]
          rfl
        have := hE _ hmu2
        rw [hl]
        exact this.mono fun H' hf => hs2.trans hf
      · have hi2 : i < row.length := by omega
        have hdr : row.drop i = row.getD i 0 :: row.drop (i + 1) := by
          rw [List.drop_eq_getElem_cons hi2, List.getD_eq_getElem?_getD, List.getElem?_eq_getElem hi2]
          rfl
        rw [ofLe_one row hi2]
        refine ⟨_, rfl, rfl, _, rfl, ?_⟩
        rw [bU_inj]
        rw [hdm, hdr] at hmu
        have hmu : must 0 markB row = if row.getD i 0 = m0 then must (i + 1) (markB.drop (i + 1)) (row.drop (i + 1)) else some ⟨2, i⟩ := hmu
        refine ite2 (fun h1 => ?_) (fun h1 => ?_)
        · have h1' : ¬ row.getD i 0 = m0 := by simpa using h1
          rw [if_neg h1'] at hmu
          obtain ⟨dx3, hp3, har3, hap3, _⟩ := id hR3
          refine ⟨_, rfl, p, _, dx3, _, _, rfl, hp3, T.c_RowReader, T.n_RowReader_reached, rr_reached, _, _, rfl, rfl, ?_⟩
          dsimp only
          rw [show ((i + 1 : Nat) : Int) - 1 = ((i : Nat) : Int) by omega]
          refine ⟨by show 2 ≤ 1000; decide, fun a ha0 => ⟨a, _, _, rfl, upd_same, np_done ha0 fun H' d hs hd => ?_⟩⟩
          exact hE _ hmu H' d ((hs2.trans hs3).trans (SameBut.of hs)) hd
        · have h1' : row.getD i 0 = m0 := by simpa using h1
          rw [if_pos h1'] at hmu
          exact ⟨_, rfl, hR3, hs2.trans hs3, by omega, hmu⟩
    · obtain ⟨v1, rfl, hR2, hs2, hil, hmu⟩ := hP
      exact q hmu hil _ hR2 hs2
end
end Sq
end
section
set_option Elab.async false
set_option maxRecDepth 100000
set_option maxHeartbeats 2000000
/-! reading: the end. -/
namespace Sq
open PySem PySem.Spec PyProof.Rows L2 SqX LamX
theorem int_ne (a b : Nat) : (!decide (V.int (a : Nat) = V.int (b : Nat))) = !decide (a = b) := by
  rw [dec_int]
  congr 1
  rw [Bool.eq_iff_iff]
  simp
  omega
def sp_rr_end (c : CA) : Sp := fun vs H Q E => ∃ (p ar ap : Addr) (row : Sw.Bytes) (s e r t b : Nat) (part : Sw.Bytes), vs = [.ref p] ∧ RR c.RowReader H p ar ap row s e r t b part ∧ r ≤ row.length ∧
  (row.length < r + 8 → NpE c E H (SameBut p) 1 row.length) ∧
  (r + 8 ≤ row.length → Sw.ofLe ((row.drop r).take 8) ≠ t → NpE c E H (SameBut p) 3 r) ∧
  (r + 8 < row.length → Sw.ofLe ((row.drop r).take 8) = t → NpE c E H (SameBut p) 4 (r + 8)) ∧
  (r + 8 = row.length → Sw.ofLe ((row.drop r).take 8) = t → ∀ H', RR c.RowReader H' p ar ap row s e (r + 8) t b part → SameBut p H H' → Q .non H')
section
variable {P : Program} {w : World} {K : PySem.W.Frag} {mg : Str → Option Value} {base : Heap} {c : CA} {f fi : Addr} {fd fdi : FuncData}
theorem ok_RowReader_read_end (T : Tx K mg c) (GT : Hm P w K mg base (L2.CX P w) 5 c.RowReader "take_number" ["self", "width"] (sp_rr_take_number c)) (GN : He P w K mg base CX0 2 "NoPackedRow" c.NoPackedRow ["self", "kind", "place"] (sp_NoPackedRow_init c))
    (F : Fun K "read_end" "RowReader.read_end" s_RowReader_read_end f fd) : FnOk P w K mg base (L2.CX P w) 6 f fd ["self"] (sp_rr_end c) := by
  refine F.okX sc_RowReader_read_end (fun vs H Q E h => ?_) (fun cdv A outer s H vs Q E hr h => ?_)
  · obtain ⟨p, ar, ap, row, s, e, r, t, b, part, rfl, _⟩ := h
    rfl
  · refine ⟨_, (pss_cons (ps_set (i := 1) sc_RowReader_read_end.nd rfl (Or.inl rfl) (pe_fld (pv 0) rfl))
  (pss_cons (ps_if (pt_cmpR op_ne (pe_md T.c_RowReader GT (hr.mono (by decide)) (passes_call (takes_of rfl rfl rfl rfl) (fun _ _ _ _ h => h)) (pv 0) (pa_cons (pe_gI rfl T.SIZE_OCTETS) pa_nil)) (pe_fld (pv 0) rfl) (nomark _)) (pss_one (ps_raise rfl (takes_of rfl rfl rfl rfl) (pmk_exd GN (hr.mono (by decide)) (pa_cons (pe_gI rfl T.COUNT_OFF) (pa_cons (pv 1) pa_nil))))) pss_nil)
  (pss_one (ps_if (pt_cmpR op_lt (pe_fld (pv 0) rfl) (pe_callB call_len_seq (by rfl) T.len (by decide +kernel) (pa_cons (pe_fld (pv 0) rfl) pa_nil)) (nomark _)) (pss_one (ps_raise rfl (takes_of rfl rfl rfl rfl) (pmk_exd GN (hr.mono (by decide)) (pa_cons (pe_gI rfl T.LEFT_OVER) (pa_cons (pe_fld (pv 0) rfl) pa_nil))))) pss_nil)))), ?_⟩
    obtain ⟨p, ar, ap, row, sP, eP, r, t, b, part, rfl, hR, hrl, hE1, hE2, hE3, q⟩ := h
    have hbl : (bytesV row).length = row.length := List.length_map ..
    obtain ⟨dx, hp, har, hap, hne⟩ := id hR
    refine ⟨_, rfl, p, _, dx, _, _, rfl, hp, T.c_RowReader, T.n_RowReader_reached, rr_reached, ?_⟩
    refine ⟨_, rfl, p, dx, _, rfl, hp, rr_meth (by decide +kernel), p, ar, ap, row, sP, eP, r, t, b, 8, part, rfl, hR, hrl, by decide, hE1, fun hle H2 hR2 hs2 => ?_⟩
    obtain ⟨dx2, hp2, har2, hap2, _⟩ := id hR2
    generalize hnum : Sw.ofLe ((row.drop r).take 8) = num at *
    refine ⟨_, rfl, p, _, dx2, _, _, rfl, hp2, T.c_RowReader, T.n_RowReader_text_size, rr_size, rfl, _, rfl, ?_⟩
    rw [int_ne]
    refine ite2 (fun h1 => ?_) (fun h1 => ?_)
    · have h1' : num ≠ t := by simpa using h1
      refine ⟨_, rfl, by show 2 ≤ 1000; decide, fun a ha0 => ⟨a, _, _, rfl, upd_same, np_done ha0 fun H' d hs hd => ?_⟩⟩
      exact hE2 hle h1' H' d (hs2.trans (SameBut.of hs)) hd
    · have h1' : num = t := by simpa using h1
      refine ⟨_, rfl, p, _, dx2, _, _, rfl, hp2, T.c_RowReader, T.n_RowReader_reached, rr_reached, _, rfl, p, _, dx2, _, _, rfl, hp2, T.c_RowReader, T.n_RowReader_row, rr_row, _, _, rfl, .inl (.inl (.inl har2)), _, _, rfl, rfl, _, rfl, ?_⟩
      refine ite2 (fun h2 => ?_) (fun h2 => ?_)
      · have h2' : r + 8 < row.length := by
          have := of_decide_eq_true h2
          rw [hbl] at this
          omega
        refine ⟨_, rfl, p, _, dx2, _, _, rfl, hp2, T.c_RowReader, T.n_RowReader_reached, rr_reached, by show 2 ≤ 1000; decide, fun a ha0 => ⟨a, _, _, rfl, upd_same, np_done ha0 fun H' d hs hd => ?_⟩⟩
        exact hE3 h2' h1' H' d (hs2.trans (SameBut.of hs)) hd
      · have h2' : ¬ r + 8 < row.length := fun z => h2 (decide_eq_true (by rw [hbl]; omega))
        exact q (by omega) h1' _ hR2 hs2
end
end Sq
end
section
set_option Elab.async false
set_option maxRecDepth 100000
set_option maxHeartbeats 2000000
/-! reading: the reader made. -/
namespace Sq
open PySem PySem.Spec PyProof.Rows L2 SqX LamX
theorem put_new {f : Str} {v : V} (ns : List Str) : ∀ {r : List (Str × V)}, r.map Prod.fst = ns → (ns.all fun g => !decide (g = f)) = true → putF f v r = r ++ [(f, v)] := by
  induction ns with
  | nil =>
    intro r hr _
    rw [List.map_eq_nil_iff.mp hr]
    rfl
  | cons n ns ih =>
    intro r hr h
    match r, hr with
    | (g, x) :: r, hr =>
      have h1 := List.cons.inj hr
      have h0 : g = n := h1.1
      subst h0
      rw [List.all_cons, Bool.and_eq_true] at h
      rw [put_past (by simpa using h.1), ih h1.2 h.2]
      rfl
def sp_rr_init (C : Addr) : Sp := fun vs H Q _ => ∃ (p dx ar : Addr) (row : Sw.Bytes) (s e : Nat), vs = [.ref p, .ref ar, .int s, .int e] ∧ H p = some (.ins C dx []) ∧ H ar = some (.lst (bytesV row)) ∧
  ∀ H' ap, RR C H' p ar ap row s e 0 0 0 [] → SameBut p H H' → H ap = none → Q .non H'
section
variable {P : Program} {w : World} {K : PySem.W.Frag} {mg : Str → Option Value} {base : Heap} {c : CA} {f fi : Addr} {fd fdi : FuncData}
theorem ok_RowReader_init (T : Tx K mg c) (F : Fun K "__init__" "RowReader.__init__" s_RowReader_init f fd) : FnOk P w K mg base CX0 1 f fd ["self", "row", "part_start", "part_stop"] (sp_rr_init c.RowReader) := by
  refine F.ok sc_RowReader_init (fun vs H Q E h => ?_) (fun cdv A outer s H vs Q E hr h => ?_)
  · obtain ⟨p, dx, ar, row, s, e, rfl, _⟩ := h
    rfl
  · refine ⟨_, (pss_cons (ps_fld (pv 0) (pv 1) rfl)
  (pss_cons (ps_fld (pv 0) (pv 2) rfl)
  (pss_cons (ps_fld (pv 0) (pv 3) rfl)
  (pss_cons (ps_fld (pv 0) pe_int rfl)
  (pss_cons (ps_fld (pv 0) pe_int rfl)
  (pss_cons (ps_fld (pv 0) pe_int rfl)
  (pss_one (ps_fld (pv 0) (pe_lst pa_nil) rfl)))))))), ?_⟩
    obtain ⟨p, dx, ar, row, sP, eP, rfl, hp, har, q⟩ := h
    have hap : ar ≠ p := ne_of har hp (by intro z; cases z)
    have hb : ∀ (o : HO) (b : Addr), b ≠ p → upd H p o b = H b := fun o b h => upd_ne h
    refine ⟨_, rfl, _, rfl, p, _, dx, _, rfl, hp, T.c_RowReader, T.n_RowReader_row, (by show 0 < 1000; decide), ?_⟩
    rw [show putF ("row" : Str) (V.ref ar) ([] : List (Str × V)) = ([("row", V.ref ar)] : List (Str × V)) from put_new ([] : List Str) rfl (by decide +kernel)]
    refine ⟨_, rfl, _, rfl, p, _, dx, _, rfl, upd_same, T.c_RowReader, T.n_RowReader_part_start, (by show 1 < 1000; decide), ?_⟩
    rw [upd_upd]
    rw [show putF ("part_start" : Str) (V.int sP) ([("row", V.ref ar)] : List (Str × V)) = ([("row", V.ref ar), ("part_start", V.int sP)] : List (Str × V)) from put_new (["row"] : List Str) rfl (by decide +kernel)]
    refine ⟨_, rfl, _, rfl, p, _, dx, _, rfl, upd_same, T.c_RowReader, T.n_RowReader_part_stop, (by show 2 < 1000; decide), ?_⟩
    rw [upd_upd]
    rw [show putF ("part_stop" : Str) (V.int eP) ([("row", V.ref ar), ("part_start", V.int sP)] : List (Str × V)) = ([("row", V.ref ar), ("part_start", V.int sP), ("part_stop", V.int eP)] : List (Str × V)) from put_new (["row", "part_start"] : List Str) rfl (by decide +kernel)]
    refine ⟨_, rfl, p, _, dx, _, rfl, upd_same, T.c_RowReader, T.n_RowReader_reached, (by show 3 < 1000; decide), ?_⟩
    rw [upd_upd]
    rw [show putF ("reached" : Str) (V.int 0) ([("row", V.ref ar), ("part_start", V.int sP), ("part_stop", V.int eP)] : List (Str × V)) = ([("row", V.ref ar), ("part_start", V.int sP), ("part_stop", V.int eP), ("reached", V.int 0)] : List (Str × V)) from put_new (["row", "part_start", "part_stop"] : List Str) rfl (by decide +kernel)]
    refine ⟨_, rfl, p, _, dx, _, rfl, upd_same, T.c_RowReader, T.n_RowReader_text_size, (by show 4 < 1000; decide), ?_⟩
    rw [upd_upd]
    rw [show putF ("text_size" : Str) (V.int 0) ([("row", V.ref ar), ("part_start", V.int sP), ("part_stop", V.int eP), ("reached", V.int 0)] : List (Str × V)) = ([("row", V.ref ar), ("part_start", V.int sP), ("part_stop", V.int eP), ("reached", V.int 0), ("text_size", V.int 0)] : List (Str × V)) from put_new (["row", "part_start", "part_stop", "reached"] : List Str) rfl (by decide +kernel)]
    refine ⟨_, rfl, p, _, dx, _, rfl, upd_same, T.c_RowReader, T.n_RowReader_blocks, (by show 5 < 1000; decide), ?_⟩
    rw [upd_upd]
    rw [show putF ("blocks" : Str) (V.int 0) ([("row", V.ref ar), ("part_start", V.int sP), ("part_stop", V.int eP), ("reached", V.int 0), ("text_size", V.int 0)] : List (Str × V)) = ([("row", V.ref ar), ("part_start", V.int sP), ("part_stop", V.int eP), ("reached", V.int 0), ("text_size", V.int 0), ("blocks", V.int 0)] : List (Str × V)) from put_new (["row", "part_start", "part_stop", "reached", "text_size"] : List Str) rfl (by decide +kernel)]
    refine ⟨Nat.zero_le _, fun l hl => ?_⟩
    have hlp : l ≠ p := fun z => by rw [z, upd_same] at hl; cases hl
    have hl0 : H l = none := by rw [upd_ne hlp] at hl; exact hl
    refine ⟨_, rfl, p, _, dx, _, rfl, by rw [upd_ne hlp.symm]; exact upd_same, T.c_RowReader, T.n_RowReader_part, (by show 6 < 1000; decide), ?_⟩
    rw [show putF ("part" : Str) (V.ref l) ([("row", V.ref ar), ("part_start", V.int sP), ("part_stop", V.int eP), ("reached", V.int 0), ("text_size", V.int 0), ("blocks", V.int 0)] : List (Str × V)) = rrF ar sP eP 0 0 0 l from put_new (["row", "part_start", "part_stop", "reached", "text_size", "blocks"] : List Str) rfl (by decide +kernel)]
    refine q _ l ⟨dx, upd_same, ?_, ?_, ne_of_none har hl0⟩ (fun b' o h1 h2 => ?_) hl0
    · rw [upd_ne hap, upd_ne (ne_of_none har hl0), upd_ne hap]
      exact har
    · rw [upd_ne hlp, upd_same]
      rfl
    · rw [upd_ne h1, upd_ne (ne_of_none h2 hl0), upd_ne h1]
      exact h2
end
end Sq
end
section
set_option Elab.async false
set_option maxRecDepth 100000
set_option maxHeartbeats 2000000
/-! refusals made while an error is handled. -/
namespace Sq
open PySem PySem.Spec PyProof.Rows L2 SqX LamX
section
variable {P : Program} {w : World} {K : PySem.W.Frag} {mg : Str → Option Value} {base : Heap} {c : CA} {f fi : Addr} {fd fdi : FuncData}
/-- as Fun.ok, while an error is handled -/
theorem okH {x qual : Str} {st : Stmt} {f : Addr} {fd : FuncData} {N ps : List Str} {k : Nat} {sp : Sp} (F : Fun K x qual st f fd) (S : FnScope N ps (defScope st)) (len : ∀ vs H Q E, sp vs H Q E → vs.length = ps.length)
    (hbody : ∀ (cdv : Value) (A : Around) (outer : List Env) (s : Shared) (H : Hp) (vs : List V) (Q : VK) (E : XK) (p : Addr × Obj), L2H.Hot1 A p → L2H.RoomH k (A.deeper (envOfC qual (defScope st) s.heap.objs.size f cdv)) → sp vs H Q E →
      ∃ t, PSs (L2H.cxH CX0 P w K mg base N qual (defScope st) f cdv A outer s H E p) (defBody st) t ∧ t { nx := fun _ H' => Q .non H', rt := Q } (L2.start N vs) H) : L2H.FnH P w K mg base CX0 (k + 1) f fd ps sp := by
  obtain ⟨oc, od, kV, doc, pm, an, cdv, ct, osl, rfl, lk, hcd⟩ := F.ex
  exact L2H.fn_ofH lk hcd S len fun A outer s H vs Q E p hot hr hsp => hbody cdv A outer s H vs Q E p hot hr hsp
theorem ok_Refusal_initH (F : Fun K "__init__" "Refusal.__init__" s_Refusal_init f fd) : L2H.FnH P w K mg base CX0 1 f fd ["self", "number", "kind", "place"] (sp_Refusal_init K) := by
  refine okH F sc_Refusal_init (fun vs H Q E h => ?_) (fun cdv A outer s H vs Q E p hot hr h => ?_)
  · obtain ⟨a, C, x, y, z, rfl, _⟩ := h
    rfl
  · refine ⟨_, (pss_cons (ps_ost (pv 0) (pv 1))
  (pss_cons (ps_ost (pv 0) (pv 2))
  (pss_one (ps_ost (pv 0) (pv 3))))), ?_⟩
    obtain ⟨a, C, x, y, z, rfl, ha, hO, h1, h2, h3, q⟩ := h
    refine ⟨_, rfl, _, rfl, a, C, rfl, hO, h1, .inl ⟨ha, fun d hd hda => ?_⟩⟩
    have e1 : upd (upd H d (exd d [("number", x)])) a (exo a C (some d)) a = some (exo a C (some d)) := upd_same
    have e2 : upd (upd H d (exd d [("number", x)])) a (exo a C (some d)) d = some (exd d [("number", x)]) := by rw [upd_ne hda, upd_same]
    refine ⟨_, rfl, _, rfl, a, C, rfl, hO, h2, .inr ⟨d, _, e1, e2, by show 1 ≤ 900; decide, ?_⟩⟩
    have e3 : upd (upd (upd H d (exd d [("number", x)])) a (exo a C (some d))) d (exd d [("kind", y), ("number", x)]) a = some (exo a C (some d)) := by rw [upd_ne hda.symm]; exact e1
    refine ⟨_, rfl, _, rfl, a, C, rfl, hO, h3, .inr ⟨d, _, e3, upd_same, by show 2 ≤ 900; decide, ?_⟩⟩
    refine q _ d ⟨hd, hda, by rw [upd_ne hda.symm]; exact e3, upd_same, fun b hb hb2 => ?_⟩
    rw [upd_ne hb2, upd_ne hb2, upd_ne hb, upd_ne hb2]
theorem ok_NoPackedRow_initH (T : Tx K mg c) (M : ClsM K c.Refusal "__init__" fi) (FI : L2H.FnH P w K mg base CX0 1 fi fdi ["self", "number", "kind", "place"] (sp_Refusal_init K)) (hb : Binds K fdi ["self", "number", "kind", "place"] [])
    (F : Fun K "__init__" "NoPackedRow.__init__" s_NoPackedRow_init f fd) : L2H.FnH P w K mg base CX0 2 f fd ["self", "kind", "place"] (sp_NoPackedRow_init c) := by
  refine okH F sc_NoPackedRow_init (fun vs H Q E h => ?_) (fun cdv A outer s H vs Q E p hot hr h => ?_)
  · obtain ⟨a, y, z, rfl, _⟩ := h
    rfl
  · refine ⟨_, (pss_one (ps_expr (pe_clsCallH M FI (hr.mono (by decide)) ⟨p, hot, List.mem_singleton.mpr rfl⟩ rfl T.g_Refusal hb (E := E0) (fun _ => fun _ _ _ _ _ _ h => h.elim) (pa_cons (pv 0) (pa_cons (pe_un un_neg pe_int) (pa_cons (pv 1) (pa_cons (pv 2) pa_nil))))))), ?_⟩
    obtain ⟨a, y, z, rfl, ha, q⟩ := h
    refine ⟨_, rfl, _, rfl, _, rfl, _, rfl, a, c.NoPackedRow, _, y, z, rfl, ha, T.o_NoPackedRow, T.n_NoPackedRow_number, T.n_NoPackedRow_kind, T.n_NoPackedRow_place, fun H' d hx => q H' d hx⟩
end
end Sq
end
section
set_option Elab.async false
set_option maxRecDepth 100000
set_option maxHeartbeats 2000000
/-! reading: a block decoded. -/
namespace Sq
open PySem PySem.Spec PyProof.Rows L2 SqX LamX
open SwSqueeze (readCoded)
def FrE (TT : List (Addr × Str)) (H H' : Hp) : Prop := ExtN H H' ∧ Tabs TT H'
def sp_decoded_at (K : PySem.W.Frag) (TT : List (Addr × Str)) (c : CA) : Sp := fun vs H Q E => ∃ (p z : Addr) (zs : Sw.Bytes) (k : Nat), vs = [.ref p, .ref z, .int k] ∧ SqL K H z (bytesV zs) ∧ zs.length ≤ 100000 ∧ Tabs TT H ∧
  (readCoded zs = none → NpE c E H (FrE TT) 5 k) ∧
  ∀ t, readCoded zs = some t → t.length ≤ 1024 → ∀ H' q, ExtN H H' → Tabs TT H' → Fresh H q → H' q = some (.lst (bytesV t)) → Q (.ref q) H'
section
variable {P : Program} {w : World} {K : PySem.W.Frag} {mg : Str → Option Value} {base : Heap} {c : CA} {f fi : Addr} {fd fdi : FuncData} {TT : List (Addr × Str)}
theorem ok_RowReader_decoded_at (T : Tx K mg c) (GD : Hd P w K mg base (L2N.CX P w) 5 "decoded" ["octets"] (sp_decoded K TT c))
    (iC : PySem.W.findIn K (.ref c.NoPackedRow) "__init__" = some (some (.ref fi))) (tI : PySem.W.typeIn K (.ref fi) = some (.type "function")) (FH : L2H.FnH P w K mg base CX0 2 fi fdi ["self", "kind", "place"] (sp_NoPackedRow_init c)) (hb : Binds K fdi ["self", "kind", "place"] [])
    (F : Fun K "decoded_at" "RowReader.decoded_at" s_RowReader_decoded_at f fd) : FnOk P w K mg base (L2.CX P w) 6 f fd ["self", "behind", "kind_place"] (sp_decoded_at K TT c) := by
  refine F.okX sc_RowReader_decoded_at (fun vs H Q E h => ?_) (fun cdv A outer s H vs Q E hr h => ?_)
  · obtain ⟨p, z, zs, k, rfl, _⟩ := h
    rfl
  · refine ⟨_, (pss_one (L2H.ps_try_onlyX (c := .ref c.NoCodedBlock) (Wout := fun cls d _ H => E cls d H) (tb := fun W => tRet (tCallS (sp_decoded K TT c) (WE W) (tCons (tVar 1) tNil))) (ts := fun _ _ _ => fun _ σ H => tMkO c.NoPackedRow (sp_NoPackedRow_init c) [] (tCons (tC (.int 5)) (tCons (tVar 2) tNil)) σ H fun cls d H' => E cls d H') rfl rfl ⟨rfl, by decide +kernel, Or.inl T.g_NoCodedBlock⟩ (fun _ => PassesOwnAt.leaving) (takes_of rfl rfl rfl rfl)
      (fun W pn xe tkW tkP po => pss_one (ps_ret (pe_cdS GD (hr.mono (by decide)) (fun σ => L2N.passAt tkW σ) (pa_cons (pv 1) pa_nil))))
      (fun a oe cls d pn zn hv tk hot => pss_one (L2H.ps_raiseH hot tk (L2H.pmk5_oexH (x := "NoPackedRow") T.o_NoPackedRow iC tI FH (L2H.roomH_mark (hr.mono (by decide)) _) hot hb pass0 rfl T.g_NoPackedRow (pa_cons (pe_gI (x := "BITS_OFF") rfl T.BITS_OFF) (pa_cons (pv 2) pa_nil))).pmk)))), ?_⟩
    obtain ⟨p, z, zs, k, rfl, hS, hl, hT, hE, q⟩ := h
    refine ⟨_, rfl, z, zs, rfl, hS, hl, hT, fun hnone H1 e1 t1 => ?_, fun t ht htl H1 r e1 t1 hf hr1 => q t ht htl H1 r e1 t1 hf hr1⟩
    refine ⟨true, T.e_NoCodedBlock, fun _ a ha0 => ?_, fun h => by cases h⟩
    refine ⟨_, rfl, by show 2 ≤ 1000; decide, fun a2 ha2 => ⟨a2, _, _, rfl, upd_same, np_done ha2 fun H' d hs hd => ?_⟩⟩
    exact hE hnone H' d ⟨e1.trans (ExtN.of hs), t1.ext hs⟩ hd
end
end Sq
end
section
set_option Elab.async false
set_option maxRecDepth 100000
set_option maxHeartbeats 2000000
/-! reading: a block. -/
namespace Sq
open PySem PySem.Spec PyProof.Rows L2 SqX LamX
open SwSqueeze (readCoded)
theorem ife_rest {ta tb : TE} {σ : L2.St} {H1 : Hp} {G : VK} {c : Bool} (R : V → Hp → Prop) (rest : ∀ v H2, R v H2 → G v H2) (ha : c = true → (∀ v H2, R v H2 → G v H2) → ta σ H1 G) (hb : ¬ c = true → (∀ v H2, R v H2 → G v H2) → tb σ H1 G) : if c = true then ta σ H1 G else tb σ H1 G := by
  by_cases h : c = true
  · rw [if_pos h]
    exact ha h rest
  · rw [if_neg h]
    exact hb h rest
theorem and_rest {c : Bool} {A B G : Prop} (R : Prop) (rest : R → G) (h1 : c = true → (R → G) → A) (h2 : ¬ c = true → R) : if c = true then A else (if false = true then B else G) := by
  by_cases h : c = true
  · rw [if_pos h]
    exact h1 h rest
  · rw [if_neg h, if_neg (by decide)]
    exact rest (h2 h)
theorem if_restS {c : Bool} {A : Prop} {G : L2.St → Hp → Prop} {σ0 : L2.St} {H1 : Hp} (R : L2.St → Hp → Prop) (rest : ∀ σ H2, R σ H2 → G σ H2) (h1 : c = true → (∀ σ H2, R σ H2 → G σ H2) → A) (h2 : ¬ c = true → R σ0 H1) : if c = true then A else G σ0 H1 := by
  by_cases h : c = true
  · rw [if_pos h]
    exact h1 h rest
  · rw [if_neg h]
    exact rest _ _ (h2 h)
/-- all but the reader and its part is kept, the tables hold -/
def FrR (TT : List (Addr × Str)) (p ap : Addr) (H H' : Hp) : Prop := (∀ b o, b ≠ p → b ≠ ap → H b = some o → (∀ ps, o ≠ .tbl ps) → H' b = some o) ∧ Tabs TT H'
theorem rr_put_size {ar s e r t b ap} {n : Nat} : putF "text_size" (.int n) (rrF ar s e r t b ap) = rrF ar s e r n b ap :=
  (put_past (by decide +kernel)).trans (congrArg _ ((put_past (by decide +kernel)).trans (congrArg _ ((put_past (by decide +kernel)).trans (congrArg _ ((put_past (by decide +kernel)).trans (congrArg _ put_here)))))))
theorem rr_put_blocks {ar s e r t b ap} {n : Nat} : putF "blocks" (.int n) (rrF ar s e r t b ap) = rrF ar s e r t n ap :=
  (put_past (by decide +kernel)).trans (congrArg _ ((put_past (by decide +kernel)).trans (congrArg _ ((put_past (by decide +kernel)).trans (congrArg _ ((put_past (by decide +kernel)).trans (congrArg _ ((put_past (by decide +kernel)).trans (congrArg _ put_here)))))))))
/-- a block's size by its kind and bytes -/
def bsize (kb : UInt8) (zs : Sw.Bytes) : Nat := if kb.toNat = 0 then zs.length else Sw.ofLe (zs.take 2) % 1024 + 1
def btext (kb : UInt8) (zs : Sw.Bytes) : Sw.Bytes := if kb.toNat = 0 then zs else (readCoded zs).getD []
def Looked (s e t n : Nat) : Prop := max s t < min (t + n) e
/-- the part behind the block -/
def grown (part : Sw.Bytes) (s e t : Nat) (kb : UInt8) (zs : Sw.Bytes) : Sw.Bytes := if max s t < min (t + bsize kb zs) e then part ++ ((btext kb zs).drop (s - t)).take (min (bsize kb zs) (e - t) - (s - t)) else part
def sp_rr_block (TT : List (Addr × Str)) (c : CA) : Sp := fun vs H Q E => ∃ (p z ar ap : Addr) (row : Sw.Bytes) (s e r t b : Nat) (part : Sw.Bytes) (kb : UInt8) (zs : Sw.Bytes), vs = [.ref p, .ref z] ∧ RR c.RowReader H p ar ap row s e r t b part ∧ H z = some (.lst (bytesV (kb :: zs))) ∧ 1 ≤ zs.length ∧ zs.length ≤ 1024 ∧ 1 + zs.length ≤ r ∧ part.length ≤ 10000000 ∧ Tabs TT H ∧
  (1 < kb.toNat → NpE c E H (FrR TT p ap) 2 (r - (1 + zs.length))) ∧
  (kb.toNat = 1 → (zs.length < 2 ∨ (Looked s e t (bsize kb zs) ∧ readCoded zs = none)) → NpE c E H (FrR TT p ap) 5 (r - (1 + zs.length))) ∧
  (kb.toNat ≤ 1 → (kb.toNat = 1 → 2 ≤ zs.length ∧ (Looked s e t (bsize kb zs) → ∃ tx, readCoded zs = some tx)) → ∀ H', RR c.RowReader H' p ar ap row s e r (t + bsize kb zs) (b + 1) (grown part s e t kb zs) → FrR TT p ap H H' → Q (.int (bsize kb zs : Nat)) H')
section
variable {P : Program} {w : World} {K : PySem.W.Frag} {mg : Str → Option Value} {base : Heap} {c : CA} {f fi : Addr} {fd fdi : FuncData} {TT : List (Addr × Str)}
theorem ok_RowReader_read_block (T : Tx K mg c) (GZ : Hd P w K mg base (L2N.CX P w) 4 "coded_size" ["octets"] (sp_coded_size K)) (GD : Hm P w K mg base (L2.CX P w) 6 c.RowReader "decoded_at" ["self", "behind", "kind_place"] (sp_decoded_at K TT c))
    (GN : He P w K mg base CX0 2 "NoPackedRow" c.NoPackedRow ["self", "kind", "place"] (sp_NoPackedRow_init c))
    (F : Fun K "read_block" "RowReader.read_block" s_RowReader_read_block f fd) : FnOk P w K mg base (L2.CX P w) 7 f fd ["self", "octets"] (sp_rr_block TT c) := by
  refine F.okX sc_RowReader_read_block (fun vs H Q E h => ?_) (fun cdv A outer s H vs Q E hr h => ?_)
  · obtain ⟨p, z, ar, ap, row, s, e, r, t, b, part, kb, zs, rfl, _⟩ := h
    rfl
  · refine ⟨_, (pss_cons (ps_set (i := 2) sc_RowReader_read_block.nd rfl (Or.inl rfl) (pe_op op_sub (pe_fld (pv 0) rfl) (pe_callB call_len_seq (by rfl) T.len (by decide +kernel) (pa_cons (pv 1) pa_nil))))
  (pss_cons (ps_set (i := 3) sc_RowReader_read_block.nd rfl (Or.inl rfl) (pe_ix (ix_list : IxR _ (rIxL K)) (pv 1) pe_int (fun _ _ => rfl)))
  (pss_cons (ps_set (i := 4) sc_RowReader_read_block.nd rfl (Or.inl rfl) (pe_slice sl_list (pv 1) (po_some pe_int) po_none))
  (pss_cons (ps_if (pt_cmpR op_notIn_seq (pv 3) (pe_tup (pa_cons (pe_gI rfl T.STORED) (pa_cons (pe_gI rfl T.CODED) pa_nil))) (by rfl)) (pss_one (ps_raise rfl (takes_of rfl rfl rfl rfl) (pmk_exd GN (hr.mono (by decide)) (pa_cons (pe_gI rfl T.NOT_SO) (pa_cons (pv 2) pa_nil))))) pss_nil)
  (pss_cons (ps_if (PW.pt (pw_and (pt_cmpR op_eq (pv 3) (pe_gI rfl T.CODED) (nomark _)) (pw_and1 (pt_cmpR op_lt (pe_callB call_len_seq (by rfl) T.len (by decide +kernel) (pa_cons (pv 4) pa_nil)) pe_int (nomark _))))) (pss_one (ps_raise rfl (takes_of rfl rfl rfl rfl) (pmk_exd GN (hr.mono (by decide)) (pa_cons (pe_gI rfl T.BITS_OFF) (pa_cons (pv 2) pa_nil))))) pss_nil)
  (pss_cons (ps_set (i := 5) sc_RowReader_read_block.nd rfl (Or.inl rfl) (pe_ifExp (pt_cmpR op_eq (pv 3) (pe_gI rfl T.CODED) (nomark _)) (pe_cd GZ (hr.mono (by decide)) passN0 (pa_cons (pv 4) pa_nil)) (pe_callB call_len_seq (by rfl) T.len (by decide +kernel) (pa_cons (pv 4) pa_nil))))
  (pss_cons (ps_set (i := 6) sc_RowReader_read_block.nd rfl (Or.inl rfl) (pe_callB (call_max2 rfl) (by rfl) T.max (by decide +kernel) (pa_cons pe_int (pa_cons (pe_op op_sub (pe_fld (pv 0) rfl) (pe_fld (pv 0) rfl)) pa_nil))))
  (pss_cons (ps_set (i := 7) sc_RowReader_read_block.nd rfl (Or.inl rfl) (pe_callB (call_min2 rfl) (by rfl) T.min (by decide +kernel) (pa_cons (pv 5) (pa_cons (pe_op op_sub (pe_fld (pv 0) rfl) (pe_fld (pv 0) rfl)) pa_nil))))
  (pss_cons (ps_if (pt_cmpR op_lt (pv 6) (pv 7) (nomark _)) (pss_cons (ps_set (i := 8) sc_RowReader_read_block.nd rfl (Or.inl rfl) (pe_ifExp (pt_cmpR op_eq (pv 3) (pe_gI rfl T.CODED) (nomark _)) (pe_md T.c_RowReader GD (hr.mono (by decide)) (passes_call (takes_of rfl rfl rfl rfl) (fun _ _ _ _ h => h)) (pv 0) (pa_cons (pv 4) (pa_cons (pv 2) pa_nil))) (pv 4)))
    (pss_one (ps_expr (pe_bm PySem.F.plainAttrs_list PySem.F.slot_list_extend PySem.F.type_list_extend mt_extend (pe_fld (pv 0) rfl) (pa_cons (pe_slice sl_list (pv 8) (po_some (pv 6)) (po_some (pv 7))) pa_nil))))) pss_nil)
  (pss_cons (ps_fldaug (pv 0) (pv 5) in_add)
  (pss_cons (ps_fldaug (pv 0) pe_int in_add)
  (pss_one (ps_ret (pv 5)))))))))))))), ?_⟩
    obtain ⟨p, z, ar, ap, row, sP, eP, r, t, b, part, kb, zs, rfl, hR, hz, hz1, hz2, hzr, hpl, hT, hE2, hE5, q⟩ := h
    obtain ⟨dx, hp, har, hap, hne⟩ := id hR
    have hbv : ∀ l : Sw.Bytes, (bytesV l).length = l.length := fun l => List.length_map ..
    refine ⟨_, rfl, p, _, dx, _, _, rfl, hp, T.c_RowReader, T.n_RowReader_reached, rr_reached, _, rfl, _, _, rfl, .inl (.inl (.inl hz)), _, _, rfl, rfl, ?_⟩
    have ekp : ((r : Nat) : Int) - (((bytesV (kb :: zs)).length : Nat) : Int) = ((r - (1 + zs.length) : Nat) : Int) := by rw [hbv, List.length_cons]; omega
    dsimp only
    rw [ekp]
    generalize r - (1 + zs.length) = kp at hE2 hE5 ⊢
    refine ⟨_, rfl, z, _, _, _, rfl, rfl, .inl (.inl hz), at_of (j := 0) rfl rfl, ?_⟩
    refine ⟨_, rfl, _, rfl, _, _, rfl, .inl (.inl hz), fun z2 hz2' => ?_⟩
    rw [show cutV (bytesV (kb :: zs)) (some 1) none = bytesV zs from cut_drop _ 1]
    have hs2 : Same H (upd H z2 (.lst (bytesV zs))) := same_new hz2'
    have hz21 : upd H z2 (.lst (bytesV zs)) z2 = some (.lst (bytesV zs)) := upd_same
    generalize upd H z2 (.lst (bytesV zs)) = H2 at hs2 hz21 ⊢
    have fr : ∀ {H'}, Same H2 H' → FrR TT p ap H H' := fun hs => ⟨fun b' o _ _ hb' _ => hs _ _ (hs2 _ _ hb'), hT.ext (hs2.trans hs)⟩
    refine ⟨_, rfl, by show 2 ≤ _; decide, fun tt htt => ?_⟩
    have hs3 : Same H2 (upd H2 tt (.tup [.int 0, .int 1])) := same_new htt
    have htt1 : upd H2 tt (.tup [.int 0, .int 1]) tt = some (.tup [.int 0, .int 1]) := upd_same
    generalize upd H2 tt (.tup [.int 0, .int 1]) = H3 at hs3 htt1 ⊢
    refine ⟨tt, _, rfl, .inr (.inl (.inl htt1)), rfl, rfl, _, rfl, ?_⟩
    have hin : (if true = true then !inV (bU kb) [V.int 0, V.int 1] else inV (bU kb) [V.int 0, V.int 1]) = decide (1 < kb.toNat) := by
      rw [if_pos rfl]
      show (!(eqV (V.int 0) (V.int kb.toNat) || (eqV (V.int 1) (V.int kb.toNat) || false))) = _
      show (!(decide ((0 : Int) = kb.toNat) || (decide ((1 : Int) = kb.toNat) || false))) = _
      rw [Bool.eq_iff_iff]
      simp
      omega
    refine ite2 (fun h1 => ?_) (fun h1 => ?_)
    · have h1' : 1 < kb.toNat := of_decide_eq_true (hin.symm.trans h1)
      refine ⟨_, rfl, by show 2 ≤ 1000; decide, fun a ha0 => ⟨a, _, _, rfl, upd_same, np_done ha0 fun H' d hs hd => ?_⟩⟩
      exact hE2 h1' H' d (fr (hs3.trans hs)) hd
    have h1' : kb.toNat ≤ 1 := by
      rcases Nat.lt_or_ge 1 kb.toNat with h | h
      · exact absurd (hin.trans (decide_eq_true h)) h1
      · exact h
    have hz3 : H3 z2 = some (.lst (bytesV zs)) := hs3 _ _ hz21
    have hs13 : Same H H3 := hs2.trans hs3
    have hR3 := hR.keep hs13
    have hT3 : Tabs TT H3 := hT.ext hs13
    obtain ⟨dx3, hp3, har3, hap3, _⟩ := id hR3
    have hkb : kb.toNat = 0 ∨ kb.toNat = 1 := by omega
    have hdk : decide (bU kb = V.int 1) = decide (kb.toNat = 1) := by
      show decide (V.int (kb.toNat : Nat) = V.int (1 : Nat)) = _
      rw [dec_int]
      rw [Bool.eq_iff_iff]
      simp
      omega
    refine ⟨_, rfl, rfl, _, rfl, ?_⟩
    rw [hdk]
    refine and_rest (kb.toNat = 1 → 2 ≤ zs.length) (fun h22 => ?_) (fun h2 rest => ?_) (fun h2 h3 => ?_)
    · refine ⟨_, rfl, rfl, _, rfl, ?_⟩
      rw [hdk]
      refine ife_rest (fun v H5 => v = .int (bsize kb zs : Nat) ∧ Same H3 H5) (fun v H5 hv => ?_) (fun h3 rest => ?_) (fun h3 rest => ?_)
      · obtain ⟨rfl, hs5⟩ := hv
        have hR5 := hR3.keep hs5
        have hz5 := hs5 _ _ hz3
        have hT5 : Tabs TT H5 := hT3.ext hs5
        have hs15 : Same H H5 := hs13.trans hs5
        obtain ⟨dx5, hp5, har5, hap5, _⟩ := id hR5
        have hbs : bsize kb zs ≤ 1024 := by
          unfold bsize
          split
          · exact hz2
          · have := Nat.mod_lt (Sw.ofLe (zs.take 2)) (show 0 < 1024 by decide)
            omega
        have hbt : btext kb zs = if kb.toNat = 0 then zs else (readCoded zs).getD [] := rfl
        have hgr : grown part sP eP t kb zs = if max sP t < min (t + bsize kb zs) eP then part ++ ((btext kb zs).drop (sP - t)).take (min (bsize kb zs) (eP - t) - (sP - t)) else part := rfl
        have hlk : Looked sP eP t (bsize kb zs) = (max sP t < min (t + bsize kb zs) eP) := rfl
        generalize bsize kb zs = size at hbs hgr hlk hE5 q ⊢
        generalize btext kb zs = text at hbt hgr
        refine ⟨_, rfl, p, _, dx5, _, _, rfl, hp5, T.c_RowReader, T.n_RowReader_part_start, rr_start, _, rfl, p, _, dx5, _, _, rfl, hp5, T.c_RowReader, T.n_RowReader_text_size, rr_size, _, _, rfl, rfl, _, _, rfl, ?_⟩
        rw [show (if ((sP : Nat) : Int) - ((t : Nat) : Int) > 0 then ((sP : Nat) : Int) - ((t : Nat) : Int) else 0) = ((sP - t : Nat) : Int) by split <;> omega]
        refine ⟨_, rfl, _, rfl, p, _, dx5, _, _, rfl, hp5, T.c_RowReader, T.n_RowReader_part_stop, rr_stop, _, rfl, p, _, dx5, _, _, rfl, hp5, T.c_RowReader, T.n_RowReader_text_size, rr_size, _, _, rfl, rfl, _, _, rfl, ?_⟩
        refine ⟨_, rfl, _, rfl, _, _, rfl, rfl, _, rfl, ?_⟩
        have hlast : (if ((eP : Nat) : Int) - ((t : Nat) : Int) < ((size : Nat) : Int) then ((eP : Nat) : Int) - ((t : Nat) : Int) else ((size : Nat) : Int)) = min ((size : Nat) : Int) (((eP : Nat) : Int) - ((t : Nat) : Int)) := by split <;> omega
        dsimp only
        rw [hlast]
        generalize hσ : List.set _ 7 _ = σ0
        refine if_restS (H1 := H5) (σ0 := σ0) (fun σ H6 => ∃ v8 : Option V, σ = [some (.ref p), some (.ref z), some (.int kp), some (bU kb), some (.ref z2), some (.int size), some (.int (sP - t : Nat)), some (.int (min ((size : Nat) : Int) (((eP : Nat) : Int) - ((t : Nat) : Int)))), v8] ∧ RR c.RowReader H6 p ar ap row sP eP r t b (grown part sP eP t kb zs) ∧ FrR TT p ap H H6 ∧ (kb.toNat = 1 → Looked sP eP t size → ∃ tx, readCoded zs = some tx)) (fun σ H6 hR6 => ?_) (fun h4 rest => ?_) (fun h4 => ?_)
        · obtain ⟨v8, rfl, hR6, hF6, hrd⟩ := hR6
          obtain ⟨dx6, hp6, har6, hap6, _⟩ := id hR6
          refine ⟨_, rfl, p, _, dx6, _, _, rfl, hp6, T.c_RowReader, T.n_RowReader_text_size, rr_size, _, rfl, _, _, rfl, rfl, dx6, _, hp6, (by show 7 < 1000; decide), ?_⟩
          rw [show ((t : Nat) : Int) + ((size : Nat) : Int) = ((t + size : Nat) : Int) by omega, rr_put_size]
          refine ⟨_, rfl, p, _, dx6, _, _, rfl, upd_same, T.c_RowReader, T.n_RowReader_blocks, rr_blocks, _, _, rfl, rfl, dx6, _, upd_same, (by show 7 < 1000; decide), ?_⟩
          rw [show ((b : Nat) : Int) + 1 = ((b + 1 : Nat) : Int) by omega, rr_put_blocks, upd_upd]
          have harp : ar ≠ p := ne_of har6 hp6 (by intro z; cases z)
          have happ : ap ≠ p := ne_of hap6 hp6 (by intro z; cases z)
          refine ⟨_, rfl, q h1' (fun hk1 => ⟨h22 hk1, fun hl => hrd hk1 hl⟩) _ ⟨dx6, upd_same, by rw [upd_ne harp]; exact har6, by rw [upd_ne happ]; exact hap6, hne⟩ ⟨fun b' o h1 h2 h3 h4 => by rw [upd_ne h1]; exact hF6.1 b' o h1 h2 h3 h4, Tabs.put hF6.2 hp6 (plain_ins _ _ _)⟩⟩
        · have hl4 : Looked sP eP t size := by
            rw [hlk]
            have := of_decide_eq_true h4
            omega
          subst hσ
          refine ⟨_, rfl, rfl, _, rfl, ?_⟩
          rw [hdk]
          have hl4' : max sP t < min (t + size) eP := hlk ▸ hl4
          refine ife_rest (fun v H6 => ∃ tx : Addr, v = .ref tx ∧ ExtN H5 H6 ∧ Tabs TT H6 ∧ H6 tx = some (.lst (bytesV text)) ∧ text.length ≤ 1024 ∧ tx ≠ ap ∧ (kb.toNat = 1 → ∃ t, readCoded zs = some t)) (fun v H6 hv => ?_) (fun h5 rest2 => ?_) (fun h5 rest2 => ?_)
          · obtain ⟨tx, rfl, e6, t6, htx, htl, hne2, hrd⟩ := hv
            have hp6 := e6 _ _ hp5 (by intro ps z; cases z)
            have har6 := e6 _ _ har5 (by intro ps z; cases z)
            have hap6 := e6 _ _ hap5 (by intro ps z; cases z)
            refine ⟨_, rfl, p, _, dx5, _, _, rfl, hp6, T.c_RowReader, T.n_RowReader_part, rr_part, .inl ⟨rfl, _, .inl (.inl hap6)⟩, _, rfl, _, rfl, _, rfl, _, rfl, _, rfl, _, _, rfl, .inl (.inl htx), fun y hy => ?_⟩
            have ec : cutV (bytesV text) (some ((sP - t : Nat) : Int)) (some (min ((size : Nat) : Int) (((eP : Nat) : Int) - ((t : Nat) : Int)))) = bytesV ((text.drop (sP - t)).take (min size (eP - t) - (sP - t))) := by
              rw [show min ((size : Nat) : Int) (((eP : Nat) : Int) - ((t : Nat) : Int)) = ((min size (eP - t) : Nat) : Int) by omega, cut_part _ _ _ (by omega)]
              unfold bytesV
              rw [List.map_take, List.map_drop]
            rw [ec]
            rw [if_pos hl4'] at hgr
            have hya : y ≠ ap := (ne_of_none hap6 hy).symm
            have hs7 := same_new (o := .lst (bytesV ((text.drop (sP - t)).take (min size (eP - t) - (sP - t))))) hy
            have hy7 : upd H6 y (.lst (bytesV ((text.drop (sP - t)).take (min size (eP - t) - (sP - t))))) y = some (.lst (bytesV ((text.drop (sP - t)).take (min size (eP - t) - (sP - t))))) := upd_same
            have hcl : ((text.drop (sP - t)).take (min size (eP - t) - (sP - t))).length ≤ 1024 := by
              rw [List.length_take, List.length_drop]
              omega
            generalize (text.drop (sP - t)).take (min size (eP - t) - (sP - t)) = cut at *
            generalize upd H6 y (.lst (bytesV cut)) = H7 at hs7 hy7 ⊢
            refine ⟨ap, y, _, _, rfl, rfl, hs7 _ _ hap6, hy7, by rw [hbv, hbv]; exact line_le (by omega), ?_⟩
            refine rest _ _ ⟨_, rfl, ⟨dx5, ?_, ?_, ?_, hne⟩, ⟨fun b' o h1 h2 h3 h4 => ?_, Tabs.put (t6.ext hs7) (hs7 _ _ hap6) (plain_lst _)⟩, fun hk1 _ => hrd hk1⟩
            · rw [upd_ne (ne_of hap6 hp6 (by intro z; cases z)).symm]
              exact hs7 _ _ hp6
            · rw [upd_ne hne]
              exact hs7 _ _ har6
            · rw [upd_same, hgr]
              unfold bytesV
              rw [List.map_append]
            · rw [upd_ne h2]
              exact hs7 _ _ (e6 _ _ (hs15 _ _ h3) h4)
          · have hk1 : kb.toNat = 1 := of_decide_eq_true h5
            rw [if_neg (by omega)] at hbt
            refine ⟨_, rfl, p, dx5, _, rfl, hp5, rr_meth (by decide +kernel), _, rfl, _, rfl, p, z2, zs, kp, rfl, .inl (.inl hz5), by omega, hT5, fun hnone => ?_, fun tx htx htl H6 r6 e6 t6 hf6 hr6 => ?_⟩
            · refine (hE5 hk1 (.inr ⟨hl4, hnone⟩)).mono fun H' hF => ⟨fun b' o _ _ h3 h4 => hF.1 _ _ (hs15 _ _ h3) h4, hF.2⟩
            · rw [htx] at hbt
              refine rest2 _ _ ⟨r6, rfl, e6, t6, by rw [hr6, hbt]; rfl, by rw [hbt]; exact htl, fun z => ?_, fun _ => ⟨tx, htx⟩⟩
              obtain ⟨ps, hz⟩ := hf6 _ (z ▸ hap5)
              cases hz
          · have hk0 : kb.toNat = 0 := by
              have : ¬ kb.toNat = 1 := fun z => h5 (decide_eq_true z)
              omega
            rw [if_pos hk0] at hbt
            exact ⟨_, rfl, rest2 _ _ ⟨z2, rfl, ExtN.refl _, hT5, by rw [hbt]; exact hz5, by rw [hbt]; exact hz2, fun z => ne_of_none hap hz2' z.symm, fun z => by omega⟩⟩
        · refine ⟨none, hσ.symm, ?_, ⟨fun b' o _ _ h3 _ => hs15 _ _ h3, hT5⟩, fun _ hl => ?_⟩
          · have : ¬ max sP t < min (t + size) eP := fun z => h4 (decide_eq_true (by omega))
            rw [hgr, if_neg this]
            exact hR5
          · rw [hlk] at hl
            exact absurd (decide_eq_true (by omega)) h4
      · have hk1 : kb.toNat = 1 := of_decide_eq_true h3
        refine ⟨_, rfl, z2, zs, rfl, .inl (.inl hz3), h22 hk1, by omega, fun H5 hs5 => rest _ _ ⟨?_, hs5⟩⟩
        unfold bsize
        rw [if_neg (by omega)]
      · have hk0 : kb.toNat = 0 := by
          have : ¬ kb.toNat = 1 := fun z => h3 (decide_eq_true z)
          omega
        refine ⟨_, rfl, _, _, rfl, .inl (.inl (.inl hz3)), rest _ _ ⟨?_, Same.refl _⟩⟩
        unfold bsize
        rw [if_pos hk0, hbv]
    · have hk1 : kb.toNat = 1 := of_decide_eq_true h2
      refine ⟨_, rfl, _, _, rfl, .inl (.inl (.inl hz3)), _, _, rfl, rfl, _, rfl, ?_⟩
      rw [hbv]
      refine ite2 (fun h3 => ?_) (fun h3 => ?_)
      · have h3' : zs.length < 2 := by
          have := of_decide_eq_true h3
          omega
        refine ⟨_, rfl, by show 2 ≤ 1000; decide, fun a ha0 => ⟨a, _, _, rfl, upd_same, np_done ha0 fun H' d hs hd => ?_⟩⟩
        exact hE5 hk1 (.inl h3') H' d (fr (hs3.trans hs)) hd
      · refine rest fun _ => ?_
        have : ¬ (((zs.length : Nat) : Int) < 2) := fun z => h3 (decide_eq_true z)
        omega
    · exact absurd (decide_eq_true h3) h2
end
end Sq
end
section
set_option Elab.async false
set_option maxRecDepth 100000
set_option maxHeartbeats 2000000
/-! reading: the whole row. -/
namespace Sq
open PySem PySem.Spec PyProof.Rows L2 SqX LamX
open SwSqueeze (readCoded blocksAt Block must)
def lookP (s e : Nat) : Nat → Nat → Bool := fun t n => decide (max s t < min (t + n) e)
theorem blocksAt_succ (b : Sw.Bytes) (look : Nat → Nat → Bool) (f p t : Nat) (last : Option Block) : blocksAt b look (f + 1) p t last =
    if b.length < p + 4 then .error ⟨1, b.length⟩
    else if Sw.ofLe (Sw.part b p 4) = 0 then (if b.length < p + 12 then .error ⟨1, b.length⟩ else if Sw.ofLe (Sw.part b (p + 4) 8) ≠ t then .error ⟨3, p + 4⟩ else if p + 12 < b.length then .error ⟨4, p + 12⟩ else .ok ([], t))
      else match last with
        | some q => if q.size ≠ 1024 then .error ⟨3, q.place⟩ else SwSqueeze.blocksAt.body b look f p t (Sw.ofLe (Sw.part b p 4))
        | none => SwSqueeze.blocksAt.body b look f p t (Sw.ofLe (Sw.part b p 4)) := SwSqueeze.blocksAt.eq_2 b look p t last f
theorem body_eq (b : Sw.Bytes) (look : Nat → Nat → Bool) (f p t n : Nat) (kb : UInt8) (z : Sw.Bytes) (hk : b.getD (p + 4) 0 = kb) (hz : Sw.part b (p + 5) (n - 1) = z) (hzl : z.length = n - 1) (hn : ¬ (n = 1 ∨ 1024 + 1 < n)) (hl : ¬ b.length < p + 4 + n) :
    SwSqueeze.blocksAt.body b look f p t n = if 1 < kb.toNat then .error ⟨2, p + 4⟩ else if kb.toNat = 1 ∧ (n < 3 ∨ (look t (bsize kb z) = true ∧ (readCoded z).isNone = true)) then .error ⟨5, p + 4⟩
      else (blocksAt b look f (p + 4 + n) (t + bsize kb z) (some ⟨kb.toNat, p + 4, t, bsize kb z, z⟩)).map fun (y : List Block × Nat) => ((⟨kb.toNat, p + 4, t, bsize kb z, z⟩ : Block) :: y.1, y.2) := by
  have e := SwSqueeze.blocksAt.body.eq_1 b look f p t n
  have hn : ¬ (n = 1 ∨ SwSqueeze.BLOCK + 1 < n) := hn
  rw [if_neg hn, if_neg hl] at e
  dsimp only at e
  rw [hk, hz] at e
  have hs : (if kb.toNat = 0 then n - 1 else Sw.ofLe (z.take 2) % 1024 + 1) = bsize kb z := by
    unfold bsize
    rw [hzl]
  rw [hs] at e
  exact e
theorem body_one (b : Sw.Bytes) (look : Nat → Nat → Bool) (f p t n : Nat) (hn : n = 1 ∨ 1024 + 1 < n) : SwSqueeze.blocksAt.body b look f p t n = .error ⟨3, p⟩ := by
  rw [SwSqueeze.blocksAt.body.eq_1]
  exact if_pos hn
theorem body_end (b : Sw.Bytes) (look : Nat → Nat → Bool) (f p t n : Nat) (hn : ¬ (n = 1 ∨ 1024 + 1 < n)) (hl : b.length < p + 4 + n) : SwSqueeze.blocksAt.body b look f p t n = .error ⟨1, b.length⟩ := by
  have e := SwSqueeze.blocksAt.body.eq_1 b look f p t n
  have hn : ¬ (n = 1 ∨ SwSqueeze.BLOCK + 1 < n) := hn
  rw [if_neg hn, if_pos hl] at e
  exact e
/-- what's asked for of blocks -/
def partOf (s e : Nat) (l : List Block) : Sw.Bytes := l.flatMap fun q => if max s q.from_ < min (q.from_ + q.size) e then (q.text.drop (s - q.from_)).take (min q.size (e - q.from_) - (s - q.from_)) else []
theorem grown_eq (s e t pl : Nat) (kb : UInt8) (zs : Sw.Bytes) (l : List Block) : grown (partOf s e l) s e t kb zs = partOf s e (l ++ [⟨kb.toNat, pl, t, bsize kb zs, zs⟩]) := by
  unfold partOf
  rw [List.flatMap_append]
  unfold grown
  show _ = _ ++ ((if max s t < min (t + bsize kb zs) e then ((btext kb zs).drop (s - t)).take (min (bsize kb zs) (e - t) - (s - t)) else []) ++ [])
  rw [List.append_nil]
  split
  · rfl
  · rw [List.append_nil]
theorem bsize_le {kb : UInt8} {zs : Sw.Bytes} (h : zs.length ≤ 1024) : bsize kb zs ≤ 1024 := by
  unfold bsize
  split
  · exact h
  · have := Nat.mod_lt (Sw.ofLe (zs.take 2)) (show 0 < 1024 by decide)
    omega
theorem grown_len {part : Sw.Bytes} {s e t : Nat} {kb : UInt8} {zs : Sw.Bytes} (h : zs.length ≤ 1024) : (grown part s e t kb zs).length ≤ part.length + 1024 := by
  have := bsize_le (kb := kb) h
  unfold grown
  split
  · rw [List.length_append, List.length_take]
    omega
  · omega
theorem FrR.but {TT : List (Addr × Str)} {p ap C dx : Addr} {fs : List (Str × V)} {H H1 H2 : Hp} (h : FrR TT p ap H H1) (hp : H1 p = some (.ins C dx fs)) (hs : SameBut p H1 H2) : FrR TT p ap H H2 :=
  ⟨fun b o h1 h2 h3 h4 => hs b o h1 (h.1 b o h1 h2 h3 h4), Tabs.but h.2 hp (plain_ins _ _ _) hs⟩
theorem FrR.trans {TT : List (Addr × Str)} {p ap : Addr} {H H1 H2 : Hp} (a : FrR TT p ap H H1) (b : FrR TT p ap H1 H2) : FrR TT p ap H H2 := ⟨fun x o h1 h2 h3 h4 => b.1 x o h1 h2 (a.1 x o h1 h2 h3 h4) h4, b.2⟩
theorem FrR.refl {TT : List (Addr × Str)} {p ap : Addr} {H : Hp} (t : Tabs TT H) : FrR TT p ap H H := ⟨fun _ _ _ _ h _ => h, t⟩
def sp_rr_read (TT : List (Addr × Str)) (c : CA) : Sp := fun vs H Q E => ∃ (p ar ap : Addr) (row : Sw.Bytes) (s e : Nat), vs = [.ref p] ∧ RR c.RowReader H p ar ap row s e 0 0 0 [] ∧ row.length ≤ 30000 ∧ Tabs TT H ∧
  (∀ f, SwSqueeze.read row (lookP s e) = .error f → NpE c E H (FrR TT p ap) f.kind f.place) ∧
  (∀ l t, SwSqueeze.read row (lookP s e) = .ok (l, t) → ∀ H' r, RR c.RowReader H' p ar ap row s e r t l.length (partOf s e l) → FrR TT p ap H H' → Q .non H')
theorem part_split (row : Sw.Bytes) (q n : Nat) (hn : 1 ≤ n) (h : q + n ≤ row.length) : (row.drop q).take n = row.getD q 0 :: Sw.part row (q + 1) (n - 1) := by
  obtain ⟨m, rfl⟩ : ∃ m, n = m + 1 := ⟨n - 1, by omega⟩
  rw [List.drop_eq_getElem_cons (by omega), List.take_succ_cons, List.getD_eq_getElem?_getD, List.getElem?_eq_getElem (by omega)]
  rfl
section
variable {P : Program} {w : World} {K : PySem.W.Frag} {mg : Str → Option Value} {base : Heap} {c : CA} {f fi : Addr} {fd fdi : FuncData} {TT : List (Addr × Str)}
theorem ok_RowReader_read (T : Tx K mg c) (GM : Hm P w K mg base (L2.CX P w) 6 c.RowReader "read_mark" ["self"] (sp_rr_mark c)) (GT : Hm P w K mg base (L2.CX P w) 5 c.RowReader "take_number" ["self", "width"] (sp_rr_take_number c))
    (GK : Hm P w K mg base (L2.CX P w) 4 c.RowReader "take" ["self", "count"] (sp_rr_take c)) (GB : Hm P w K mg base (L2.CX P w) 7 c.RowReader "read_block" ["self", "octets"] (sp_rr_block TT c)) (GE : Hm P w K mg base (L2.CX P w) 6 c.RowReader "read_end" ["self"] (sp_rr_end c))
    (GN : He P w K mg base CX0 2 "NoPackedRow" c.NoPackedRow ["self", "kind", "place"] (sp_NoPackedRow_init c))
    (F : Fun K "read" "RowReader.read" s_RowReader_read f fd) : FnOk P w K mg base (L2.CX P w) 8 f fd ["self"] (sp_rr_read TT c) := by
  refine F.okX sc_RowReader_read (fun vs H Q E h => ?_) (fun cdv A outer s H vs Q E hr h => ?_)
  · obtain ⟨p, ar, ap, row, s, e, rfl, _⟩ := h
    rfl
  · refine ⟨_, (pss_cons (ps_expr (pe_md0 T.c_RowReader GM (hr.mono (by decide)) (passes_call (takes_of rfl rfl rfl rfl) (fun _ _ _ _ h => h)) (pv 0)))
  (pss_cons (ps_set (i := 1) sc_RowReader_read.nd rfl (Or.inl rfl) pe_int)
  (pss_cons (ps_set (i := 2) sc_RowReader_read.nd rfl (Or.inl rfl) (pe_gI rfl T.BLOCK_SIZE))
  (pss_cons (ps_set (i := 3) sc_RowReader_read.nd rfl (Or.inl rfl) (pe_fld (pv 0) rfl))
  (pss_cons (ps_set (i := 4) sc_RowReader_read.nd rfl (Or.inl rfl) (pe_md T.c_RowReader GT (hr.mono (by decide)) (passes_call (takes_of rfl rfl rfl rfl) (fun _ _ _ _ h => h)) (pv 0) (pa_cons (pe_gI rfl T.COUNT_OCTETS) pa_nil)))
  (pss_cons (ps_while (passes_of rfl) (pt_truK (K := K) rfl (pv 4) (by intro _; rfl)) (pss_cons (ps_if (pt_cmpR op_ne (pv 2) (pe_gI rfl T.BLOCK_SIZE) (nomark _)) (pss_one (ps_raise rfl (takes_of rfl rfl rfl rfl) (pmk_exd GN (hr.mono (by decide)) (pa_cons (pe_gI rfl T.COUNT_OFF) (pa_cons (pv 1) pa_nil))))) pss_nil)
    (pss_cons (ps_if (PW.pt (pw_or (pt_cmpR op_eq (pv 4) pe_int (nomark _)) (pw_or1 (pt_cmpR op_gt (pv 4) (pe_op op_add pe_int (pe_gI rfl T.BLOCK_SIZE)) (nomark _))))) (pss_one (ps_raise rfl (takes_of rfl rfl rfl rfl) (pmk_exd GN (hr.mono (by decide)) (pa_cons (pe_gI rfl T.COUNT_OFF) (pa_cons (pv 3) pa_nil))))) pss_nil)
    (pss_cons (ps_set (i := 1) sc_RowReader_read.nd rfl (Or.inl rfl) (pe_fld (pv 0) rfl))
    (pss_cons (ps_set (i := 2) sc_RowReader_read.nd rfl (Or.inl rfl) (pe_md T.c_RowReader GB (hr.mono (by decide)) (passes_call (takes_of rfl rfl rfl rfl) (fun _ _ _ _ h => h)) (pv 0) (pa_cons (pe_md T.c_RowReader GK (hr.mono (by decide)) (passes_call (takes_of rfl rfl rfl rfl) (fun _ _ _ _ h => h)) (pv 0) (pa_cons (pv 4) pa_nil)) pa_nil)))
    (pss_cons (ps_set (i := 3) sc_RowReader_read.nd rfl (Or.inl rfl) (pe_fld (pv 0) rfl))
    (pss_one (ps_set (i := 4) sc_RowReader_read.nd rfl (Or.inl rfl) (pe_md T.c_RowReader GT (hr.mono (by decide)) (passes_call (takes_of rfl rfl rfl rfl) (fun _ _ _ _ h => h)) (pv 0) (pa_cons (pe_gI rfl T.COUNT_OCTETS) pa_nil))))))))))
  (pss_one (ps_expr (pe_md0 T.c_RowReader GE (hr.mono (by decide)) (passes_call (takes_of rfl rfl rfl rfl) (fun _ _ _ _ h => h)) (pv 0)))))))))), ?_⟩
    obtain ⟨p, ar, ap, row, sP, eP, rfl, hR, hrow, hT, hE, q⟩ := h
    obtain ⟨dx, hp, har, hap, hne⟩ := id hR
    generalize hlook : lookP sP eP = look at *
    generalize hR0 : SwSqueeze.read row look = R0 at hE q
    have hR0' : R0 = (match must 0 (Sw.ascii "SWZ1") row with
      | some e => .error e
      | none => blocksAt row look (row.length + 1) 4 0 none) := hR0.symm
    refine ⟨_, rfl, p, dx, _, rfl, hp, rr_meth (by decide +kernel), p, ar, ap, row, sP, eP, 0, 0, [], rfl, hR, fun fl hfl => ?_, fun hmu h4 H1 hR1 hs1 => ?_⟩
    · rw [hfl] at hR0'
      exact (hE fl hR0').mono fun H' hs => (FrR.refl hT).but hp hs
    rw [hmu] at hR0'
    have hR0' : R0 = blocksAt row look (row.length + 1) 4 0 none := hR0'
    have hF1 : FrR TT p ap H H1 := (FrR.refl hT).but hp hs1
    obtain ⟨dx1, hp1, har1, hap1, _⟩ := id hR1
    refine ⟨_, rfl, p, _, dx1, _, _, rfl, hp1, T.c_RowReader, T.n_RowReader_reached, rr_reached, _, rfl, p, dx1, _, rfl, hp1, rr_meth (by decide +kernel), p, ar, ap, row, sP, eP, 4, 0, 0, 4, [], rfl, hR1, h4, by decide, fun hlt => ?_, fun hge H2 hR2 hs2 => ?_⟩
    · rw [blocksAt_succ, if_pos (by omega)] at hR0'
      exact (hE _ hR0').mono fun H' hs => hF1.but hp1 hs
    have hF2 := hF1.but hp1 hs2
    refine ⟨fun k σ H' => ∃ (kp sz cp n t b f : Nat) (part : Sw.Bytes) (last : Option Block) (dn : List Block), σ = [some (.ref p), some (.int kp), some (.int sz), some (.int cp), some (.int n)] ∧ RR c.RowReader H' p ar ap row sP eP (cp + 4) t b part ∧ FrR TT p ap H H' ∧ cp + 4 ≤ row.length ∧ n = Sw.ofLe ((row.drop cp).take 4) ∧
      R0 = (blocksAt row look (f + 1) cp t last).map (fun y => (dn ++ y.1, y.2)) ∧ row.length < f + 1 + cp ∧ part = partOf sP eP dn ∧ part.length ≤ 1024 * b ∧ b = dn.length ∧ 4 * b ≤ cp ∧ (∀ q, last = some q → q.size = sz ∧ q.place = kp) ∧ (last = none → sz = 1024) ∧ cp + k = row.length,
      ⟨row.length - 4, 0, 1024, 4, _, 0, 0, row.length, [], none, [], rfl, hR2, hF2, hge, rfl, ?_, by omega, rfl, Nat.zero_le _, rfl, by decide, nofun, fun _ => rfl, by omega⟩, fun k σ H' hW => ?_⟩
    · rw [hR0']
      cases blocksAt row look (row.length + 1) 4 0 none <;> rfl
    obtain ⟨kp, sz, cp, n, t, b, f0, part, last, dn, rfl, hR3, hF3, hcp, hn, hrel, hfu, hpart, hpl, hb, hb4, hl1, hl2, hk⟩ := hW
    obtain ⟨dx3, hp3, har3, hap3, _⟩ := id hR3
    have hn' : Sw.ofLe (Sw.part row cp 4) = n := hn.symm
    rw [blocksAt_succ, if_neg (by omega)] at hrel
    rw [hn'] at hrel
    refine ⟨_, rfl, _, rfl, ?_⟩
    refine ite2 (fun h1 => ?_) (fun h1 => ?_)
    · have hn0 : n ≠ 0 := fun z => by
        rw [z] at h1
        exact absurd h1 (by decide)
      rw [if_neg hn0] at hrel
      refine ⟨_, fun _ _ h => h, ?_⟩
      refine ⟨_, rfl, rfl, _, rfl, ?_⟩
      rw [show decide (V.int (sz : Nat) = V.int 1024) = decide (sz = 1024) by
        show decide (V.int (sz : Nat) = V.int (1024 : Nat)) = _
        rw [dec_int, Bool.eq_iff_iff]
        simp
        omega]
      refine ite2 (fun h2 => ?_) (fun h2 => ?_)
      · have h2' : sz ≠ 1024 := by simpa using h2
        refine ⟨_, rfl, by show 2 ≤ 1000; decide, fun a ha0 => ⟨a, _, _, rfl, upd_same, np_done ha0 fun H4 d hs hd => ?_⟩⟩
        cases hlast : last with
        | none => exact absurd (hl2 hlast) h2'
        | some q0 =>
          obtain ⟨e1, e2⟩ := hl1 q0 hlast
          rw [hlast] at hrel
          have hrel : R0 = .error ⟨3, kp⟩ := by
            rw [hrel]
            show Except.map _ (if q0.size ≠ 1024 then _ else _) = _
            rw [if_pos (by rw [e1]; exact h2'), e2]
            rfl
          exact hE _ hrel H4 d (hF3.but hp3 (SameBut.of hs)) hd
      have h2' : sz = 1024 := by simpa using h2
      have hrel : R0 = (SwSqueeze.blocksAt.body row look f0 cp t n).map (fun y => (dn ++ y.1, y.2)) := by
        rw [hrel]
        cases hlast : last with
        | none => rfl
        | some q0 =>
          obtain ⟨e1, e2⟩ := hl1 q0 hlast
          show Except.map _ (if q0.size ≠ 1024 then _ else _) = _
          rw [if_neg (by rw [e1]; simpa using h2')]
      refine ⟨_, rfl, rfl, _, rfl, ?_⟩
      have hbad : n = 1 ∨ 1024 + 1 < n → ∀ a, H' a = none → ∀ H4 d, Same H' H4 → H4 d = some (.xd (exF (.int (-6)) (.int 3) (.int (cp : Nat)))) → E (.ref c.NoPackedRow) (some d) H4 := fun hb1 a ha0 H4 d hs hd => by
        rw [body_one _ _ _ _ _ _ hb1] at hrel
        exact hE _ hrel H4 d (hF3.but hp3 (SameBut.of hs)) hd
      rw [show decide (V.int (n : Nat) = V.int 1) = decide (n = 1) by
        show decide (V.int (n : Nat) = V.int (1 : Nat)) = _
        rw [dec_int, Bool.eq_iff_iff]
        simp
        omega]
      refine ite2 (fun h3 => ?_) (fun h3 => ?_)
      · exact ⟨_, rfl, by show 2 ≤ 1000; decide, fun a ha0 => ⟨a, _, _, rfl, upd_same, np_done ha0 fun H4 d hs hd => hbad (.inl (of_decide_eq_true h3)) a ha0 H4 d hs hd⟩⟩
      have h3' : n ≠ 1 := fun z => h3 (decide_eq_true z)
      refine ⟨_, rfl, _, _, rfl, rfl, _, _, rfl, rfl, _, rfl, ?_⟩
      refine ite2 (fun h4 => ?_) (fun h4 => ?_)
      · have h4' : 1024 + 1 < n := by
          have := of_decide_eq_true h4
          omega
        exact ⟨_, rfl, by show 2 ≤ 1000; decide, fun a ha0 => ⟨a, _, _, rfl, upd_same, np_done ha0 fun H4 d hs hd => hbad (.inr h4') a ha0 H4 d hs hd⟩⟩
      have h4' : ¬ 1024 + 1 < n := fun z => h4 (decide_eq_true (by omega))
      have hok : ¬ (n = 1 ∨ 1024 + 1 < n) := fun z => z.elim h3' h4'
      refine ⟨_, rfl, p, _, dx3, _, _, rfl, hp3, T.c_RowReader, T.n_RowReader_reached, rr_reached, ?_⟩
      refine ⟨_, rfl, p, dx3, _, rfl, hp3, rr_meth (by decide +kernel), _, rfl, p, dx3, _, rfl, hp3, rr_meth (by decide +kernel), _, rfl, p, ar, ap, row, sP, eP, cp + 4, t, b, n, part, rfl, hR3, hcp, fun hlt => ?_, fun hle H4 z hR4 hs4 hz40 hz4 => ?_⟩
      · rw [body_end _ _ _ _ _ _ hok hlt] at hrel
        exact (hE _ hrel).mono fun H'' hs => hF3.but hp3 hs
      have hF4 := hF3.but hp3 hs4
      have hspl := part_split row (cp + 4) n (by omega) hle
      rw [hspl] at hz4
      have hzl : (Sw.part row (cp + 4 + 1) (n - 1)).length = n - 1 := by
        unfold Sw.part
        rw [List.length_take, List.length_drop]
        omega
      have hbody := fun look f t => body_eq row look f cp t n _ _ rfl rfl hzl hok (by omega)
      rw [hbody] at hrel
      generalize row.getD (cp + 4) 0 = kb at hz4 hrel
      generalize Sw.part row (cp + 4 + 1) (n - 1) = zs at hz4 hrel hzl
      have hlk : look t (bsize kb zs) = decide (max sP t < min (t + bsize kb zs) eP) := by rw [← hlook]; rfl
      refine ⟨p, z, ar, ap, row, sP, eP, cp + 4 + n, t, b, part, kb, zs, rfl, hR4, hz4, by omega, by omega, by omega, by omega, hF4.2, fun h5 => ?_, fun h5 h6 => ?_, fun h5 h6 H5 hR5 hF5 => ?_⟩
      · rw [if_pos h5] at hrel
        rw [show cp + 4 + n - (1 + zs.length) = cp + 4 by omega]
        exact (hE _ hrel).mono fun H'' hF => hF4.trans hF
      · rw [if_neg (by omega), if_pos ⟨h5, by
          rcases h6 with h6 | ⟨h6, h7⟩
          · exact .inl (by omega)
          · exact .inr ⟨hlk.trans (decide_eq_true (show max sP t < min (t + bsize kb zs) eP from h6)), by rw [h7]; rfl⟩⟩] at hrel
        rw [show cp + 4 + n - (1 + zs.length) = cp + 4 by omega]
        exact (hE _ hrel).mono fun H'' hF => hF4.trans hF
      · rw [if_neg (by omega), if_neg (fun z => by
          obtain ⟨h7, h8⟩ := z
          obtain ⟨h9, h10⟩ := h6 h7
          rcases h8 with h8 | ⟨h8, h11⟩
          · omega
          · rw [hlk] at h8
            obtain ⟨tx, h12⟩ := h10 (show max sP t < min (t + bsize kb zs) eP from of_decide_eq_true h8)
            rw [h12] at h11
            cases h11)] at hrel
        have hbs := bsize_le (kb := kb) (zs := zs) (by omega)
        have hgl := grown_len (part := part) (s := sP) (e := eP) (t := t) (kb := kb) (zs := zs) (by omega)
        have hgp : grown part sP eP t kb zs = partOf sP eP (dn ++ [⟨kb.toNat, cp + 4, t, bsize kb zs, zs⟩]) := by rw [hpart, grown_eq sP eP t (cp + 4) kb zs dn]
        have hF5 := hF4.trans hF5
        generalize bsize kb zs = size at *
        generalize grown part sP eP t kb zs = part' at *
        obtain ⟨f1, rfl⟩ : ∃ f1, f0 = f1 + 1 := ⟨f0 - 1, by omega⟩
        obtain ⟨dx5, hp5, har5, hap5, _⟩ := id hR5
        refine ⟨_, rfl, p, _, dx5, _, _, rfl, hp5, T.c_RowReader, T.n_RowReader_reached, rr_reached, ?_⟩
        refine ⟨_, rfl, p, dx5, _, rfl, hp5, rr_meth (by decide +kernel), p, ar, ap, row, sP, eP, cp + 4 + n, t + size, b + 1, 4, part', rfl, hR5, hle, by decide, fun hlt => ?_, fun hge H6 hR6 hs6 => ?_⟩
        · rw [blocksAt_succ, if_pos (by omega)] at hrel
          exact (hE _ hrel).mono fun H'' hs => hF5.but hp5 hs
        · refine ⟨k - (4 + n), by omega, cp + 4, size, cp + 4 + n, _, t + size, b + 1, f1, part', some ⟨kb.toNat, cp + 4, t, size, zs⟩, dn ++ [⟨kb.toNat, cp + 4, t, size, zs⟩], rfl, hR6, hF5.but hp5 hs6, hge, rfl, ?_, by omega, hgp, by omega, by rw [List.length_append, List.length_singleton, hb], by omega, fun q0 hq0 => ?_, nofun, by omega⟩
          · rw [hrel]
            cases blocksAt row look (f1 + 1) (cp + 4 + n) (t + size) (some ⟨kb.toNat, cp + 4, t, size, zs⟩) with
            | error e => rfl
            | ok y =>
              show Except.ok (dn ++ (_ :: y.1), y.2) = Except.ok (dn ++ [_] ++ y.1, y.2)
              rw [List.append_assoc]
              rfl
          · cases hq0
            exact ⟨rfl, rfl⟩
    · have hn0 : n = 0 := by
        rcases Nat.eq_zero_or_pos n with h | h
        · exact h
        · refine absurd ?_ h1
          simp
          omega
      rw [if_pos hn0] at hrel
      have hsp : Sw.part row (cp + 4) 8 = (row.drop (cp + 4)).take 8 := rfl
      rw [hsp] at hrel
      refine ⟨_, rfl, p, dx3, _, rfl, hp3, rr_meth (by decide +kernel), p, ar, ap, row, sP, eP, cp + 4, t, b, part, rfl, hR3, hcp, fun h2 => ?_, fun h2 h3 => ?_, fun h2 h3 => ?_, fun h2 h3 H4 hR4 hs4 => ?_⟩
      · rw [if_pos (by omega)] at hrel
        exact (hE _ hrel).mono fun H'' hs => hF3.but hp3 hs
      · rw [if_neg (by omega), if_pos h3] at hrel
        exact (hE _ hrel).mono fun H'' hs => hF3.but hp3 hs
      · rw [if_neg (by omega), if_neg (fun z => z h3), if_pos (by omega)] at hrel
        exact (hE _ hrel).mono fun H'' hs => hF3.but hp3 hs
      · rw [if_neg (by omega), if_neg (fun z => z h3), if_neg (by omega)] at hrel
        have hrel : R0 = .ok (dn, t) := by
          rw [hrel]
          show Except.ok (dn ++ [], t) = _
          rw [List.append_nil]
        refine q dn t hrel H4 (cp + 4 + 8) ?_ (hF3.but hp3 hs4)
        rw [hb, hpart] at hR4
        exact hR4
end
end Sq
end
section
set_option Elab.async false
set_option maxRecDepth 100000
set_option maxHeartbeats 2000000
/-! rows read: what's asked for, by the document. -/
namespace Sq
open SwSqueeze (readCoded blocksAt Block must readSteps takeBits toBits bitsLow readLengths codewords)
theorem steps_size (ws wd : List (Nat × Nat × Nat)) (n : Nat) : ∀ (f : Nat) (out : Array UInt8) (l : List Bool) (o : Array UInt8) (r : List Bool), readSteps ws wd n f out l = some (o, r) → o.size = n
  | 0, _, _, _, _, h => by cases h
  | f + 1, out, l, o, r, h => by
    unfold readSteps at h
    split at h
    · next e =>
      cases h
      exact e
    · rw [Option.bind_eq_some_iff] at h
      obtain ⟨x, _, h⟩ := h
      split at h
      · exact steps_size ws wd n f _ _ o r h
      · rw [Option.bind_eq_some_iff] at h
        obtain ⟨y, _, h⟩ := h
        rw [Option.bind_eq_some_iff] at h
        obtain ⟨z, _, h⟩ := h
        rw [Option.bind_eq_some_iff] at h
        obtain ⟨v, _, h⟩ := h
        split at h
        · cases h
        · exact steps_size ws wd n f _ _ o r h
theorem coded_len {z tx : Sw.Bytes} (h : readCoded z = some tx) (hz : 2 ≤ z.length) : tx.length = Sw.ofLe (z.take 2) % 1024 + 1 := by
  unfold readCoded at h
  rw [Option.bind_eq_some_iff] at h
  obtain ⟨x, hx, h⟩ := h
  rw [Option.bind_eq_some_iff] at h
  obtain ⟨y, _, h⟩ := h
  dsimp only at h
  split at h
  · cases h
  · rw [Option.bind_eq_some_iff] at h
    obtain ⟨o, ho, h⟩ := h
    split at h
    · cases h
      rw [Array.length_toList, steps_size _ _ _ _ _ _ o.1 o.2 ho]
      have h0 := takeBits_drop (toBits z) 0 10 (Nat.zero_le _)
      rw [List.drop_zero, hx] at h0
      split at h0
      · cases h0
      · have e : x.1 = numAt (toBits z) 10 := by
          cases h0
          rfl
        rw [e, ← size_eq z hz]
        unfold numAt
        have hsp : toBits z = toBits (z.take 2) ++ toBits (z.drop 2) := by
          unfold toBits
          rw [← List.flatMap_append, List.take_append_drop]
        have hl : (toBits (z.take 2)).length = 16 := by
          rw [toBits_length, List.length_take]
          omega
        rw [hsp, List.take_append_of_le_length (by omega)]
    · cases h
/-- blocks one behind another -/
def Chain (look : Nat → Nat → Bool) : Nat → List Block → Nat → Prop
  | t, [], T => t = T
  | t, q :: l, T => q.from_ = t ∧ 1 ≤ q.size ∧ q.size ≤ 1024 ∧ (look t q.size = true → q.text.length = q.size) ∧ Chain look (t + q.size) l T
theorem blocks_chain (b : Sw.Bytes) (look : Nat → Nat → Bool) : ∀ (f p t : Nat) (last : Option Block) (l : List Block) (T : Nat), blocksAt b look f p t last = .ok (l, T) → Chain look t l T ∧ (4 * t ≤ 1024 * p → 4 * T ≤ 1024 * b.length)
  | 0, p, t, last, l, T, h => by rw [SwSqueeze.blocksAt.eq_1] at h; cases h
  | f + 1, p, t, last, l, T, h => by
    have hb : SwSqueeze.blocksAt.body b look f p t (Sw.ofLe (Sw.part b p 4)) = .ok (l, T) → ¬ b.length < p + 4 → Sw.ofLe (Sw.part b p 4) ≠ 0 → Chain look t l T ∧ (4 * t ≤ 1024 * p → 4 * T ≤ 1024 * b.length) := by
      intro h hp h0
      generalize Sw.ofLe (Sw.part b p 4) = n at h h0
      by_cases h1 : n = 1 ∨ 1024 + 1 < n
      · rw [body_one _ _ _ _ _ _ h1] at h
        cases h
      by_cases h2 : b.length < p + 4 + n
      · rw [body_end _ _ _ _ _ _ h1 h2] at h
        cases h
      have hzl : (Sw.part b (p + 5) (n - 1)).length = n - 1 := by
        unfold Sw.part
        rw [List.length_take, List.length_drop]
        omega
      rw [body_eq b look f p t n _ _ rfl rfl hzl h1 h2] at h
      generalize b.getD (p + 4) 0 = kb at h
      generalize Sw.part b (p + 5) (n - 1) = z at h hzl
      split at h
      · cases h
      next h3 =>
        split at h
        · cases h
        next h4 =>
          cases hr : blocksAt b look f (p + 4 + n) (t + bsize kb z) (some ⟨kb.toNat, p + 4, t, bsize kb z, z⟩) with
          | error e => rw [hr] at h; cases h
          | ok y =>
            rw [hr] at h
            cases h
            have ih := blocks_chain b look f _ _ _ _ _ hr
            have hbs := bsize_le (kb := kb) (zs := z) (by omega)
            have hb1 : 1 ≤ bsize kb z := by
              unfold bsize
              split <;> omega
            refine ⟨⟨rfl, hb1, hbs, fun hl => ?_, ih.1⟩, fun ht => ih.2 (by omega)⟩
            show (btext kb z).length = bsize kb z
            unfold btext bsize
            by_cases hk : kb.toNat = 0
            · rw [if_pos hk, if_pos hk]
            · rw [if_neg hk, if_neg hk]
              have hk1 : kb.toNat = 1 := by omega
              cases hrc : readCoded z with
              | none => exact absurd ⟨hk1, .inr ⟨hl, by rw [hrc]; rfl⟩⟩ h4
              | some tx =>
                refine coded_len hrc ?_
                have : ¬ n < 3 := fun k => h4 ⟨hk1, .inl k⟩
                omega
    rw [blocksAt_succ] at h
    split at h
    · cases h
    next h1 =>
      split at h
      · split at h
        · cases h
        · split at h
          · cases h
          · split at h
            · cases h
            · cases h
              exact ⟨rfl, fun _ => by omega⟩
      next h2 =>
        split at h
        · split at h
          · cases h
          · exact hb h h1 h2
        · exact hb h h1 h2
theorem blocks_congr (b : Sw.Bytes) (look look' : Nat → Nat → Bool) (hl : ∀ t n, 1 ≤ n → t + n ≤ 1024 * b.length → look t n = look' t n) : ∀ (f p t : Nat) (last : Option Block), t ≤ 1024 * p → blocksAt b look f p t last = blocksAt b look' f p t last
  | 0, p, t, last, _ => by rw [SwSqueeze.blocksAt.eq_1, SwSqueeze.blocksAt.eq_1]
  | f + 1, p, t, last, ht => by
    have hb : Sw.ofLe (Sw.part b p 4) ≠ 0 → SwSqueeze.blocksAt.body b look f p t (Sw.ofLe (Sw.part b p 4)) = SwSqueeze.blocksAt.body b look' f p t (Sw.ofLe (Sw.part b p 4)) := by
      intro h0
      generalize Sw.ofLe (Sw.part b p 4) = n at h0
      by_cases h1 : n = 1 ∨ 1024 + 1 < n
      · rw [body_one _ _ _ _ _ _ h1, body_one _ _ _ _ _ _ h1]
      by_cases h2 : b.length < p + 4 + n
      · rw [body_end _ _ _ _ _ _ h1 h2, body_end _ _ _ _ _ _ h1 h2]
      have hzl : (Sw.part b (p + 5) (n - 1)).length = n - 1 := by
        unfold Sw.part
        rw [List.length_take, List.length_drop]
        omega
      rw [body_eq b look f p t n _ _ rfl rfl hzl h1 h2, body_eq b look' f p t n _ _ rfl rfl hzl h1 h2]
      generalize b.getD (p + 4) 0 = kb
      generalize Sw.part b (p + 5) (n - 1) = z at hzl
      have hbs := bsize_le (kb := kb) (zs := z) (by omega)
      have hb1 : 1 ≤ bsize kb z := by
        unfold bsize
        split <;> omega
      rw [hl t (bsize kb z) hb1 (by omega), blocks_congr b look look' hl f (p + 4 + n) (t + bsize kb z) _ (by omega)]
    rw [blocksAt_succ, blocksAt_succ]
    split
    · rfl
    · split
      · rfl
      next h0 =>
        cases last with
        | none => exact hb h0
        | some q =>
          dsimp only
          rw [hb h0]
theorem read_congr (b : Sw.Bytes) (look look' : Nat → Nat → Bool) (hl : ∀ t n, 1 ≤ n → t + n ≤ 1024 * b.length → look t n = look' t n) : SwSqueeze.read b look = SwSqueeze.read b look' := by
  unfold SwSqueeze.read
  split
  · rfl
  · exact blocks_congr b look look' hl _ _ _ _ (Nat.zero_le _)
theorem read_chain (b : Sw.Bytes) (look : Nat → Nat → Bool) (l : List Block) (T : Nat) (h : SwSqueeze.read b look = .ok (l, T)) : Chain look 0 l T ∧ 4 * T ≤ 1024 * b.length := by
  unfold SwSqueeze.read at h
  split at h
  · cases h
  · have := blocks_chain b look _ _ _ _ _ _ h
    exact ⟨this.1, this.2 (Nat.zero_le _)⟩
/-! ### the part that's asked for -/
def lookedB (s e : Nat) (q : Block) : Bool := decide (max s q.from_ < min (q.from_ + q.size) e)
theorem chain_le {look : Nat → Nat → Bool} : ∀ {t : Nat} {l : List Block} {T : Nat}, Chain look t l T → t ≤ T
  | _, [], _, h => Nat.le_of_eq h
  | _, q :: l, _, h => by
    have := chain_le h.2.2.2.2
    omega
theorem looked_len (s e : Nat) : ∀ {t : Nat} {l : List Block} {T : Nat}, Chain (lookP s e) t l T → (Squeeze.textOf (l.filter (lookedB s e))).length ≤ T - t
  | _, [], _, _ => Nat.zero_le _
  | t, q :: l, T, h => by
    obtain ⟨h1, h2, h3, h4, h5⟩ := h
    have ih := looked_len s e h5
    have := chain_le h5
    rw [List.filter_cons]
    split
    next hq =>
      have hl : lookP s e t q.size = true := by
        unfold lookedB at hq
        rw [h1] at hq
        exact hq
      show (q.text ++ Squeeze.textOf (l.filter (lookedB s e))).length ≤ _
      rw [List.length_append, h4 hl]
      omega
    · omega
theorem partOf_cons (s e : Nat) (q : Block) (l : List Block) : partOf s e (q :: l) = (if max s q.from_ < min (q.from_ + q.size) e then (q.text.drop (s - q.from_)).take (min q.size (e - q.from_) - (s - q.from_)) else []) ++ partOf s e l := rfl
theorem part_behind (s e : Nat) : ∀ {t : Nat} {l : List Block} {T : Nat}, Chain (lookP s e) t l T → s ≤ t → partOf s e l = (Squeeze.textOf (l.filter (lookedB s e))).take (e - t)
  | t, [], T, _, _ => by
    show ([] : Sw.Bytes) = List.take _ []
    rw [List.take_nil]
  | t, q :: l, T, h, hst => by
    obtain ⟨h1, h2, h3, h4, h5⟩ := h
    have ih := part_behind s e h5 (by omega)
    rw [List.filter_cons, partOf_cons]
    by_cases hq : max s q.from_ < min (q.from_ + q.size) e
    · have hq' : lookedB s e q = true := decide_eq_true hq
      have hl : lookP s e t q.size = true := by
        rw [← h1]
        exact decide_eq_true hq
      rw [if_pos hq, if_pos hq']
      show _ = (q.text ++ Squeeze.textOf (l.filter (lookedB s e))).take _
      have hlen := h4 hl
      rw [ih, List.take_append, hlen, h1, show s - t = 0 by omega, List.drop_zero, Nat.sub_zero, show e - (t + q.size) = e - t - q.size by omega]
      congr 1
      rw [h1] at hq
      by_cases hc : q.size ≤ e - t
      · rw [Nat.min_eq_left hc, List.take_of_length_le (by omega), List.take_of_length_le (by omega)]
      · rw [Nat.min_eq_right (by omega)]
    · have hq' : ¬ lookedB s e q = true := fun z => hq (of_decide_eq_true z)
      rw [if_neg hq, if_neg hq', List.nil_append, ih]
      rw [h1] at hq
      have h7 : e ≤ t := by omega
      rw [show e - (t + q.size) = 0 by omega, show e - t = 0 by omega]
end Sq
end
section
set_option Elab.async false
set_option maxRecDepth 100000
set_option maxHeartbeats 2000000
/-! the calls' parts, by the document. -/
namespace Sq
open SwSqueeze (readCoded blocksAt Block)
theorem chain_mem {look : Nat → Nat → Bool} : ∀ {t : Nat} {l : List Block} {T : Nat}, Chain look t l T → ∀ q ∈ l, t ≤ q.from_ ∧ q.from_ + q.size ≤ T ∧ 1 ≤ q.size
  | _, [], _, _, _, hq => by cases hq
  | t, x :: l, T, h, q, hq => by
    obtain ⟨h1, h2, h3, h4, h5⟩ := h
    have := chain_le h5
    rcases List.mem_cons.mp hq with rfl | hq
    · omega
    · have := chain_mem h5 q hq
      omega
def fromFirst (l : List Block) (f m : Nat) : Sw.Bytes := match l with
  | [] => []
  | q :: _ => Sw.part (Squeeze.textOf l) (f - q.from_) m
theorem at_walk (f n : Nat) : ∀ {t : Nat} {l : List Block} {T : Nat}, Chain (lookP f (f + n)) t l T → t ≤ f → f ≤ T → partOf f (f + n) l = fromFirst (l.filter (lookedB f (f + n))) f (min n (T - f))
  | _, [], _, _, _, _ => rfl
  | t, q :: l, T, h, ht, hf => by
    obtain ⟨h1, h2, h3, h4, h5⟩ := id h
    rw [List.filter_cons, partOf_cons]
    by_cases hq : max f q.from_ < min (q.from_ + q.size) (f + n)
    · have hq' : lookedB f (f + n) q = true := decide_eq_true hq
      have hl : lookP f (f + n) t q.size = true := by
        rw [← h1]
        exact decide_eq_true hq
      have hlen := h4 hl
      rw [if_pos hq, if_pos hq', part_behind f (f + n) h5 (by omega)]
      have hX := looked_len f (f + n) h5
      have hle := chain_le h5
      show _ = ((q.text ++ Squeeze.textOf (l.filter (lookedB f (f + n)))).drop (f - q.from_)).take (min n (T - f))
      generalize Squeeze.textOf (l.filter (lookedB f (f + n))) = X at hX ⊢
      rw [h1] at hq ⊢
      have hd : (q.text ++ X).drop (f - t) = q.text.drop (f - t) ++ X := by
        rw [List.drop_append, show f - t - q.text.length = 0 by omega, List.drop_zero]
      have hA : (q.text.drop (f - t)).length = q.size - (f - t) := by rw [List.length_drop, hlen]
      rw [hd]
      generalize q.text.drop (f - t) = A at hA ⊢
      have hm : (A ++ X).take (min n (T - f)) = (A ++ X).take n := by
        by_cases hc : n ≤ T - f
        · rw [Nat.min_eq_left hc]
        · rw [Nat.min_eq_right (by omega), List.take_of_length_le (by rw [List.length_append]; omega), List.take_of_length_le (by rw [List.length_append]; omega)]
      rw [hm, List.take_append, hA]
      congr 1
      · by_cases hc : q.size ≤ f + n - t
        · rw [Nat.min_eq_left hc, List.take_of_length_le (by omega), List.take_of_length_le (by omega)]
        · rw [Nat.min_eq_right (by omega)]
          congr 1
          omega
      · congr 1
        omega
    · have hq' : ¬ lookedB f (f + n) q = true := fun z => hq (of_decide_eq_true z)
      rw [if_neg hq, if_neg hq', List.nil_append]
      rw [h1] at hq
      have hle := chain_le h5
      by_cases hc : t + q.size ≤ f
      · exact at_walk f n h5 hc hf
      · have hn : n = 0 := by omega
        rw [part_behind f (f + n) h5 (by omega), show f + n - (t + q.size) = 0 by omega, List.take_zero]
        have : l.filter (lookedB f (f + n)) = [] := by
          rw [List.filter_eq_nil_iff]
          intro x _ hx
          have := of_decide_eq_true hx
          omega
        rw [this]
        rfl
theorem at_part (f n : Nat) {l : List Block} {T : Nat} (h : Chain (lookP f (f + n)) 0 l T) (hf : f ≤ T) :
    partOf f (f + n) l = fromFirst (l.filter fun (q : Block) => decide (max q.from_ f < min (q.from_ + q.size) (f + min n (T - f)))) f (min n (T - f)) := by
  rw [at_walk f n h (Nat.zero_le _) hf]
  congr 1
  apply List.filter_congr
  intro q hq
  have := chain_mem h q hq
  unfold lookedB
  rw [Bool.eq_iff_iff, decide_eq_true_iff, decide_eq_true_iff]
  omega
theorem all_part {e : Nat} {l : List Block} {T : Nat} (h : Chain (lookP 0 e) 0 l T) (he : T ≤ e) : partOf 0 e l = Squeeze.textOf l := by
  rw [part_behind 0 e h (Nat.le_refl _)]
  have hf : l.filter (lookedB 0 e) = l := by
    rw [List.filter_eq_self]
    intro q hq
    have := chain_mem h q hq
    exact decide_eq_true (by omega)
  have hl := looked_len 0 e h
  rw [hf] at hl ⊢
  exact List.take_of_length_le (by omega)
/-- unpack's reading: all looked into -/
theorem read_all (b : Sw.Bytes) : SwSqueeze.read b (fun _ _ => true) = SwSqueeze.read b (lookP 0 (1024 * b.length)) :=
  read_congr b _ _ fun t n h1 h2 => (decide_eq_true (by omega)).symm
theorem read_none (b : Sw.Bytes) : SwSqueeze.read b (fun _ _ => false) = SwSqueeze.read b (lookP 0 0) :=
  read_congr b _ _ fun t n h1 h2 => (decide_eq_false (by omega)).symm
theorem read_at_eq (b : Sw.Bytes) (f n : Nat) : SwSqueeze.read b (fun (t k : Nat) => decide (max t f < min (t + k) (f + n))) = SwSqueeze.read b (lookP f (f + n)) :=
  read_congr b _ _ fun t k h1 h2 => by
    unfold lookP
    rw [Nat.max_comm]
end Sq
end
section
set_option Elab.async false
set_option maxRecDepth 100000
set_option maxHeartbeats 2000000
/-! packing: texts taken, ends, what's given. -/
namespace Sq
open PySem PySem.Spec PyProof.Rows L2 SqX LamX
open SwSqueeze (blockOf pieces)
/-- how many blocks are known to have another byte behind them -/
def kn (t : Sw.Bytes) : Nat := (t.length - 1) / 1024
def sp_add_text (TT : List (Addr × Str)) (C : Addr) : Sp := fun vs H Q _ => ∃ (p a : Addr) (S : Addr → Prop) (n m : Nat) (wait up os : Sw.Bytes), vs = [.ref p, .ref a] ∧ Pk C H S p n m wait up ∧ H a = some (.lst (bytesV os)) ∧ wait.length ≤ 1024 ∧ os.length ≤ 10000000 ∧ m ≤ 100000 ∧ up.length ≤ 100000 ∧ Tabs TT H ∧
  ∀ H' S', Pk C H' S' p (n + os.length) (m + kn (wait ++ os)) ((wait ++ os).drop (1024 * kn (wait ++ os))) (up ++ blocksTo (wait ++ os) (kn (wait ++ os))) → Mv TT S S' H H' → Q .non H'
def sp_add_end (TT : List (Addr × Str)) (C : Addr) : Sp := fun vs H Q _ => ∃ (p : Addr) (S : Addr → Prop) (n m : Nat) (wait up : Sw.Bytes), vs = [.ref p] ∧ Pk C H S p n m wait up ∧ wait.length ≤ 1024 ∧ m ≤ 1000000 ∧ up.length ≤ 14000000 ∧ Tabs TT H ∧
  ∀ H' S' m', Pk C H' S' p n m' [] (up ++ ((if wait = [] then [] else blockOf wait) ++ (Sw.le 4 0 ++ Sw.le 8 n))) → Mv TT S S' H H' → Q .non H'
def sp_give (TT : List (Addr × Str)) (C : Addr) : Sp := fun vs H Q _ => ∃ (p : Addr) (S : Addr → Prop) (n m : Nat) (wait up : Sw.Bytes), vs = [.ref p] ∧ Pk C H S p n m wait up ∧ Tabs TT H ∧
  ∀ H' S' r, Pk C H' S' p n m wait [] → Mv TT S S' H H' → S r → ¬ S' r → H' r = some (.lst (bytesV up)) → Q (.ref r) H'
def sp_pk_init (C : Addr) : Sp := fun vs H Q _ => ∃ (p dx : Addr), vs = [.ref p] ∧ H p = some (.ins C dx []) ∧
  ∀ H' S, Pk C H' S p 0 0 [] (Sw.ascii "SWZ1") → (∀ b, S b → b = p ∨ H b = none) → SameBut p H H' → Q .non H'
section
variable {P : Program} {w : World} {K : PySem.W.Frag} {mg : Str → Option Value} {base : Heap} {c : CA} {f : Addr} {fd : FuncData} {TT : List (Addr × Str)}
theorem ok_Packing_give (T : Tx K mg c) (F : Fun K "give" "Packing.give" s_Packing_give f fd) : FnOk P w K mg base CX0 1 f fd ["self"] (sp_give TT c.Packing) := by
  refine F.ok sc_Packing_give (fun vs H Q E h => ?_) (fun cdv A outer s H vs Q E hr h => ?_)
  · obtain ⟨p, S, n, m, wait, up, rfl, _⟩ := h
    rfl
  · refine ⟨_, (pss_cons (ps_set (i := 1) sc_Packing_give.nd rfl (Or.inl rfl) (pe_fld (pv 0) rfl))
  (pss_cons (ps_fld (pv 0) (pe_lst pa_nil) rfl)
  (pss_one (ps_ret (pv 1))))), ?_⟩
    obtain ⟨p, S, n, m, wait, up, rfl, ⟨dx, aw, au, ak, kvs, hA⟩, hT, q⟩ := h
    refine ⟨_, rfl, p, _, dx, _, _, rfl, hA.hp, T.c_Packing, T.n_Packing_upcoming, pk_upcoming, Nat.zero_le _, fun l hl => ?_⟩
    have hs1 := same_new (o := .lst []) hl
    have hl1 : upd H l (.lst []) l = some (.lst (bytesV [])) := upd_same
    have hA1 := hA.ext (ExtN.of hs1)
    have hM1 : Mv TT S S H (upd H l (.lst [])) := Mv.same hT hs1
    have hlS : ¬ S l := fun z => (hA.own _ z).fresh (fresh_none hl)
    generalize upd H l (.lst []) = H1 at hs1 hl1 hA1 hM1 ⊢
    refine ⟨_, rfl, p, _, dx, _, rfl, hA1.hp, T.c_Packing, T.n_Packing_upcoming, (by show 4 < 1000; decide), ?_⟩
    rw [pk_put_upcoming]
    have hwp : aw ≠ p := ne_of hA1.hw hA1.hp (by intro z; cases z)
    have hup : au ≠ p := ne_of hA1.hu hA1.hp (by intro z; cases z)
    have hkp : ak ≠ p := ne_of hA1.hk hA1.hp (by intro z; cases z)
    have hlp : l ≠ p := ne_of hl1 hA1.hp (by intro z; cases z)
    have hlw : aw ≠ l := fun z => hlS (z ▸ hA.sw)
    have hlu : au ≠ l := fun z => hlS (z ▸ hA.su)
    have hku : ak ≠ au := ne_of hA1.hk hA1.hu (by intro z; cases z)
    refine ⟨_, rfl, q _ (fun x => (S x ∧ x ≠ au) ∨ x = l) au ⟨dx, aw, l, ak, kvs, ⟨upd_same, by rw [upd_ne hwp]; exact hA1.hw, by rw [upd_ne hlp]; exact hl1, by rw [upd_ne hkp]; exact hA1.hk, hlw, fun kv hkv => ?_, hA1.kl, .inl ⟨hA1.sp, hup.symm⟩, .inl ⟨hA1.sw, hA1.ne⟩, .inr rfl, .inl ⟨hA1.sk, hku⟩, own_upd (fun x hx => ?_) (by intro ps z; cases z)⟩⟩
      ((hM1.trans (Mv.put hM1.tb hA1.sp hA1.hp (plain_ins _ _ _))).less fun x hx => ?_) hA1.su (fun z => ?_) (by rw [upd_ne hup]; exact hA1.hu)⟩
    · obtain ⟨bb, qq, h1, h2, h3, h4⟩ := hA1.kn kv hkv
      exact ⟨bb, qq, h1, by rw [upd_ne (ne_of h2 hA1.hp (by intro z; cases z))]; exact h2, fun z => hlS (z ▸ h4), .inl ⟨h4, h3⟩⟩
    · rcases hx with hx | rfl
      · exact hA1.own x hx.1
      · exact own_lst hl1
    · rcases hx with hx | rfl
      · exact .inl hx.1
      · exact .inr (fresh_none hl)
    · rcases z with z | z
      · exact z.2 rfl
      · exact hlu z
theorem ok_Packing_init (T : Tx K mg c) (F : Fun K "__init__" "Packing.__init__" s_Packing_init f fd) : FnOk P w K mg base CX0 1 f fd ["self"] (sp_pk_init c.Packing) := by
  refine F.ok sc_Packing_init (fun vs H Q E h => ?_) (fun cdv A outer s H vs Q E hr h => ?_)
  · obtain ⟨p, dx, rfl, _⟩ := h
    rfl
  · refine ⟨_, (pss_cons (ps_fld (pv 0) pe_int rfl)
  (pss_cons (ps_fld (pv 0) (pe_lst pa_nil) rfl)
  (pss_cons (ps_fld (pv 0) (pe_callTy call_list_of (by rfl) T.list (by decide +kernel) (pa_cons (pe_gT rfl T.MARK) pa_nil)) rfl)
  (pss_one (ps_fld (pv 0) pe_dnewT rfl))))), ?_⟩
    obtain ⟨p, dx, rfl, hp, q⟩ := h
    refine ⟨_, rfl, p, _, dx, _, rfl, hp, T.c_Packing, T.n_Packing_size, (by show 0 < 1000; decide), ?_⟩
    rw [show putF ("size" : Str) (V.int 0) ([] : List (Str × V)) = ([("size", V.int 0)] : List (Str × V)) from rfl]
    have hs1 : SameBut p H (upd H p (.ins c.Packing dx [("size", V.int 0)])) := SameBut.put (SameBut.refl _ _)
    have hp1 : upd H p (.ins c.Packing dx [("size", V.int 0)]) p = some (.ins c.Packing dx [("size", V.int 0)]) := upd_same
    generalize upd H p (.ins c.Packing dx [("size", V.int 0)]) = H1 at hs1 hp1 ⊢
    refine ⟨Nat.zero_le _, fun l hl => ?_⟩
    have hlp : l ≠ p := fun z => by rw [z, hp1] at hl; cases hl
    have hl0 : H l = none := hs1.free hlp hl
    refine ⟨_, rfl, p, _, dx, _, rfl, by rw [upd_ne hlp.symm]; exact hp1, T.c_Packing, T.n_Packing_waiting, (by show 1 < 1000; decide), ?_⟩
    rw [show putF ("waiting" : Str) (V.ref l) ([("size", V.int 0)] : List (Str × V)) = ([("size", V.int 0), ("waiting", V.ref l)] : List (Str × V)) from (put_past (by decide +kernel)).trans rfl]
    have hs2 : SameBut p H (upd (upd H1 l (.lst [])) p (.ins c.Packing dx [("size", V.int 0), ("waiting", V.ref l)])) := SameBut.put (SameBut.made hs1 hl0)
    have hp2 : upd (upd H1 l (.lst [])) p (.ins c.Packing dx [("size", V.int 0), ("waiting", V.ref l)]) p = some (.ins c.Packing dx [("size", V.int 0), ("waiting", V.ref l)]) := upd_same
    have hl2 : upd (upd H1 l (.lst [])) p (.ins c.Packing dx [("size", V.int 0), ("waiting", V.ref l)]) l = some (.lst (bytesV [])) := by rw [upd_ne hlp, upd_same]; rfl
    generalize upd (upd H1 l (.lst [])) p (.ins c.Packing dx [("size", V.int 0), ("waiting", V.ref l)]) = H2 at hs2 hp2 hl2 ⊢
    refine fun am hm => ⟨am, _, rfl, .inr (hm _), fun u hu => ?_⟩
    have hup : u ≠ p := fun z => by rw [z, hp2] at hu; cases hu
    have hul : l ≠ u := ne_of_none hl2 hu
    have hu0 : H u = none := hs2.free hup hu
    refine ⟨_, rfl, p, _, dx, _, rfl, by rw [upd_ne hup.symm]; exact hp2, T.c_Packing, T.n_Packing_upcoming, (by show 2 < 1000; decide), ?_⟩
    rw [show putF ("upcoming" : Str) (V.ref u) ([("size", V.int 0), ("waiting", V.ref l)] : List (Str × V)) = ([("size", V.int 0), ("waiting", V.ref l), ("upcoming", V.ref u)] : List (Str × V)) from (put_past (by decide +kernel)).trans (congrArg _ ((put_past (by decide +kernel)).trans rfl))]
    have hs3 : SameBut p H (upd (upd H2 u (.lst [V.int 83, V.int 87, V.int 90, V.int 49])) p (.ins c.Packing dx [("size", V.int 0), ("waiting", V.ref l), ("upcoming", V.ref u)])) := SameBut.put (SameBut.made hs2 hu0)
    have hp3 : upd (upd H2 u (.lst [V.int 83, V.int 87, V.int 90, V.int 49])) p (.ins c.Packing dx [("size", V.int 0), ("waiting", V.ref l), ("upcoming", V.ref u)]) p = some (.ins c.Packing dx [("size", V.int 0), ("waiting", V.ref l), ("upcoming", V.ref u)]) := upd_same
    have hl3 : upd (upd H2 u (.lst [V.int 83, V.int 87, V.int 90, V.int 49])) p (.ins c.Packing dx [("size", V.int 0), ("waiting", V.ref l), ("upcoming", V.ref u)]) l = some (.lst (bytesV [])) := by rw [upd_ne hlp, upd_ne hul]; exact hl2
    have hu3 : upd (upd H2 u (.lst [V.int 83, V.int 87, V.int 90, V.int 49])) p (.ins c.Packing dx [("size", V.int 0), ("waiting", V.ref l), ("upcoming", V.ref u)]) u = some (.lst (bytesV (Sw.ascii "SWZ1"))) := by rw [upd_ne hup, upd_same]; rfl
    generalize upd (upd H2 u (.lst [V.int 83, V.int 87, V.int 90, V.int 49])) p (.ins c.Packing dx [("size", V.int 0), ("waiting", V.ref l), ("upcoming", V.ref u)]) = H3 at hs3 hp3 hl3 hu3 ⊢
    refine fun k hk => ?_
    have hkp : k ≠ p := fun z => by rw [z, hp3] at hk; cases hk
    have hkl : l ≠ k := ne_of_none hl3 hk
    have hku : u ≠ k := ne_of_none hu3 hk
    have hk0 : H k = none := hs3.free hkp hk
    refine ⟨_, rfl, p, _, dx, _, rfl, by rw [upd_ne hkp.symm]; exact hp3, T.c_Packing, T.n_Packing_known, (by show 3 < 1000; decide), ?_⟩
    rw [show putF ("known" : Str) (V.ref k) ([("size", V.int 0), ("waiting", V.ref l), ("upcoming", V.ref u)] : List (Str × V)) = pkF 0 l u k from (put_past (by decide +kernel)).trans (congrArg _ ((put_past (by decide +kernel)).trans (congrArg _ ((put_past (by decide +kernel)).trans rfl))))]
    refine q _ (fun x => x = p ∨ x = l ∨ x = u ∨ x = k) ⟨dx, l, u, k, [], ?_⟩ (fun b hb => ?_) (SameBut.put (SameBut.made hs3 hk0))
    · refine ⟨upd_same, by rw [upd_ne hlp, upd_ne hkl]; exact hl3, by rw [upd_ne hup, upd_ne hku]; exact hu3, by rw [upd_ne hkp]; exact upd_same, hul, nofun, Nat.le_refl _, .inl rfl, .inr (.inl rfl), .inr (.inr (.inl rfl)), .inr (.inr (.inr rfl)), fun b hb => ?_⟩
      rcases hb with rfl | rfl | rfl | rfl
      · exact ⟨_, upd_same, by intro ps z; cases z⟩
      · exact ⟨_, by rw [upd_ne hlp, upd_ne hkl]; exact hl3, by intro ps z; cases z⟩
      · exact ⟨_, by rw [upd_ne hup, upd_ne hku]; exact hu3, by intro ps z; cases z⟩
      · exact ⟨_, by rw [upd_ne hkp]; exact upd_same, by intro ps z; cases z⟩
    · rcases hb with rfl | rfl | rfl | rfl
      · exact .inl rfl
      · exact .inr hl0
      · exact .inr hu0
      · exact .inr hk0
end
end Sq
end
section
set_option Elab.async false
set_option maxRecDepth 100000
set_option maxHeartbeats 2000000
/-! packing: texts taken, ends; the whole row. -/
namespace Sq
open PySem PySem.Spec PyProof.Rows L2 SqX LamX
open SwSqueeze (blockOf pieces)
theorem pieceAt_full (t : Sw.Bytes) (i : Nat) (h : 1024 * i + 1024 ≤ t.length) : (pieceAt t i).length = 1024 := by
  unfold pieceAt
  rw [List.length_take, List.length_drop]
  omega
section
variable {X : Cx} {CX : CXT} {x : Str} {C : Addr} {k : Nat} {ps : List Str} {sp : Sp} {E : XK} {p pos : Pos}
theorem pe_mkd0 (G : Hc X.prog X.w X.K X.mg X.base CX k x C ps sp) (hr : Room (k + 1) X.A) (hx : Passes CX X E) (hg : Gl X x := by rfl) (hdb : (x == ("__debug__" : Str)) = false := by decide) :
    PE X (.Call (.Name x p) [] [] pos) (tMake C sp [] E tNil) := by
  obtain ⟨f, fd, h1, M, h3, F⟩ := G.ex
  exact pe_make0 M F hr hg h1 h3 .nil hx hdb
end
section
variable {P : Program} {w : World} {K : PySem.W.Frag} {mg : Str → Option Value} {base : Heap} {c : CA} {f : Addr} {fd : FuncData} {TT : List (Addr × Str)}
theorem ok_Packing_add_text (T : Tx K mg c) (GA : Hm P w K mg base CX0 7 c.Packing "add_block" ["self", "text"] (sp_add_block TT c.Packing)) (F : Fun K "add_text" "Packing.add_text" s_Packing_add_text f fd) :
    FnOk P w K mg base CX0 8 f fd ["self", "octets"] (sp_add_text TT c.Packing) := by
  refine F.ok sc_Packing_add_text (fun vs H Q E h => ?_) (fun cdv A outer s H vs Q E hr h => ?_)
  · obtain ⟨p, a, S, n, m, wait, up, os, rfl, _⟩ := h
    rfl
  · refine ⟨_, (pss_cons (ps_fldaug (pv 0) (pe_callB call_len_seq (by rfl) T.len (by decide +kernel) (pa_cons (pv 1) pa_nil)) in_add)
  (pss_cons (ps_set (i := 2) sc_Packing_add_text.nd rfl (Or.inl rfl) (pe_op op_cat (pe_fld (pv 0) rfl) (pv 1)))
  (pss_cons (ps_set (i := 3) sc_Packing_add_text.nd rfl (Or.inl rfl) pe_int)
  (pss_cons (ps_while PassesOwn.never (pt_cmpR op_gt (pe_op op_sub (pe_callB call_len_seq (by rfl) T.len (by decide +kernel) (pa_cons (pv 2) pa_nil)) (pv 3)) (pe_gI rfl T.BLOCK_SIZE) (nomark _)) (pss_cons (ps_expr (pe_md T.c_Packing GA (hr.mono (by decide)) pass0 (pv 0) (pa_cons (pe_slice sl_list (pv 2) (po_some (pv 3)) (po_some (pe_op op_add (pv 3) (pe_gI rfl T.BLOCK_SIZE)))) pa_nil)))
    (pss_one (ps_aug (i := 3) sc_Packing_add_text.nd rfl (Or.inl rfl) (pe_gI rfl T.BLOCK_SIZE) ip_add))))
  (pss_one (ps_fld (pv 0) (pe_slice sl_list (pv 2) (po_some (pv 3)) po_none) rfl)))))), ?_⟩
    obtain ⟨p, a, S, n, m, wait, up, os, rfl, ⟨dx, aw, au, ak, kvs, hA⟩, ha, hwl, hol, hm, hul, hT, q⟩ := h
    have hbl : ∀ l : Sw.Bytes, (bytesV l).length = l.length := fun l => List.length_map ..
    have hap : a ≠ p := ne_of ha hA.hp (by intro z; cases z)
    refine ⟨_, rfl, p, _, dx, _, _, rfl, hA.hp, T.c_Packing, T.n_Packing_size, pk_size, _, rfl, _, _, rfl, .inl (.inl (.inl ha)), _, _, rfl, rfl, dx, _, hA.hp, (by show 4 < 1000; decide), ?_⟩
    rw [hbl, show ((n : Nat) : Int) + ((os.length : Nat) : Int) = ((n + os.length : Nat) : Int) by omega, pk_put_size]
    have hA1 := hA.setF (n + os.length)
    have hM1 : Mv TT S S H (upd H p (.ins c.Packing dx (pkF (n + os.length) aw au ak))) := Mv.put hT hA.sp hA.hp (plain_ins _ _ _)
    have ha1 : upd H p (.ins c.Packing dx (pkF (n + os.length) aw au ak)) a = some (.lst (bytesV os)) := by rw [upd_ne hap]; exact ha
    generalize upd H p (.ins c.Packing dx (pkF (n + os.length) aw au ak)) = H1 at hA1 hM1 ha1 ⊢
    generalize n + os.length = n1 at *
    refine ⟨_, rfl, p, _, dx, _, _, rfl, hA1.hp, T.c_Packing, T.n_Packing_waiting, pk_waiting, _, rfl, aw, a, _, _, rfl, rfl, hA1.hw, ha1, ?_, fun r hr0 => ?_⟩
    · rw [hbl, hbl]
      exact line_le (by omega)
    have hs2 := same_new (o := .lst (bytesV wait ++ bytesV os)) hr0
    have hr2 : upd H1 r (.lst (bytesV wait ++ bytesV os)) r = some (.lst (bytesV (wait ++ os))) := by
      rw [upd_same]
      unfold bytesV
      rw [List.map_append]
    have hrS : ¬ S r := fun z => (hA1.own _ z).fresh (fresh_none hr0)
    have hA2 := hA1.ext (ExtN.of hs2)
    have hM2 : Mv TT S S H (upd H1 r (.lst (bytesV wait ++ bytesV os))) := hM1.trans (Mv.same hM1.tb hs2)
    generalize upd H1 r (.lst (bytesV wait ++ bytesV os)) = H2 at hr2 hA2 hM2 ⊢
    have htl : (wait ++ os).length ≤ 10001024 := by rw [List.length_append]; omega
    generalize wait ++ os = t at *
    refine ⟨fun k σ H' => ∃ (i : Nat) (S' : Addr → Prop), σ = [some (.ref p), some (.ref a), some (.ref r), some (.int (1024 * i : Nat))] ∧ Pk c.Packing H' S' p n1 (m + i) wait (up ++ blocksTo t i) ∧ Mv TT S S' H H' ∧ H' r = some (.lst (bytesV t)) ∧ ¬ S' r ∧ i ≤ kn t ∧ i + k = kn t, ⟨kn t, 0, S, rfl, ⟨dx, aw, au, ak, kvs, ?_⟩, hM2, hr2, hrS, Nat.zero_le _, Nat.zero_add _⟩, fun k σ H' hW => ?_⟩
    · rw [show blocksTo t 0 = [] from rfl, List.append_nil]
      exact hA2
    obtain ⟨i, S', rfl, hP3, hM3, hr3, hrS3, hik, hk⟩ := hW
    obtain ⟨dx3, aw3, au3, ak3, kvs3, hA3⟩ := id hP3
    refine ⟨_, rfl, _, _, rfl, .inl (.inl (.inl hr3)), _, rfl, _, _, rfl, rfl, _, _, rfl, rfl, _, rfl, ?_⟩
    rw [hbl]
    have hkn : kn t = (t.length - 1) / 1024 := rfl
    refine ite2 (fun h1 => ?_) (fun h1 => ?_)
    · have h1' : 1024 * i + 1024 < t.length := by
        have := of_decide_eq_true h1
        omega
      have hi : i + 1 ≤ kn t := by omega
      refine ⟨fun σ' H'' => ∃ k', k' < k ∧ ∃ (i : Nat) (S' : Addr → Prop), σ' = [some (.ref p), some (.ref a), some (.ref r), some (.int (1024 * i : Nat))] ∧ Pk c.Packing H'' S' p n1 (m + i) wait (up ++ blocksTo t i) ∧ Mv TT S S' H H'' ∧ H'' r = some (.lst (bytesV t)) ∧ ¬ S' r ∧ i ≤ kn t ∧ i + k' = kn t, fun _ _ h => h, ?_⟩
      refine ⟨_, rfl, p, dx3, _, rfl, hA3.hp, pk_meth (by decide +kernel), _, rfl, _, rfl, _, rfl, _, rfl, _, _, rfl, rfl, _, rfl, _, _, rfl, .inl (.inl hr3), fun r2 hr20 => ?_⟩
      have ec : cutV (bytesV t) (some ((1024 * i : Nat) : Int)) (some (((1024 * i : Nat) : Int) + 1024)) = bytesV (pieceAt t i) := by
        rw [show ((1024 * i : Nat) : Int) + 1024 = ((1024 * i + 1024 : Nat) : Int) by omega, cut_part _ _ _ (by omega), show 1024 * i + 1024 - 1024 * i = 1024 by omega]
        unfold bytesV pieceAt
        rw [List.map_take, List.map_drop]
      rw [ec]
      have hs4 := same_new (o := .lst (bytesV (pieceAt t i))) hr20
      have hr24 : upd H' r2 (.lst (bytesV (pieceAt t i))) r2 = some (.lst (bytesV (pieceAt t i))) := upd_same
      have hP4 := hP3.ext (ExtN.of hs4)
      have hM4 := hM3.trans (Mv.same hM3.tb hs4)
      have hr4 := hs4 _ _ hr3
      generalize upd H' r2 (.lst (bytesV (pieceAt t i))) = H4 at hr24 hP4 hM4 hr4 ⊢
      have hpl := pieceAt_full t i (by omega)
      have hbt := blocksTo_len t i
      refine ⟨p, r2, S', n1, m + i, wait, up ++ blocksTo t i, pieceAt t i, rfl, hP4, hr24, by omega, by omega, by omega, by rw [List.length_append]; omega, hM4.tb, fun H5 S5 hP5 hM5 => ?_⟩
      refine ⟨_, rfl, _, _, rfl, rfl, k - 1, by omega, i + 1, S5, ?_, ?_, hM4.trans hM5, hM5.get hr4 (by intro ps z; cases z) hrS3, hM5.own (own_lst hr4) hrS3, hi, by omega⟩
      · show [_, _, _, some (V.int (((1024 * i : Nat) : Int) + 1024))] = _
        rw [show ((1024 * i : Nat) : Int) + 1024 = ((1024 * (i + 1) : Nat) : Int) by omega]
      · rw [blocksTo_succ, ← List.append_assoc]
        exact hP5
    · have h1' : ¬ 1024 * i + 1024 < t.length := fun z => h1 (decide_eq_true (by omega))
      have hi : i = kn t := by omega
      refine ⟨_, rfl, _, rfl, _, rfl, _, _, rfl, .inl (.inl hr3), fun z hz => ?_⟩
      rw [show cutV (bytesV t) (some ((1024 * i : Nat) : Int)) none = bytesV (t.drop (1024 * i)) by rw [cut_drop]; unfold bytesV; rw [List.map_drop]]
      have hs4 := same_new (o := .lst (bytesV (t.drop (1024 * i)))) hz
      have hz4 : upd H' z (.lst (bytesV (t.drop (1024 * i)))) z = some (.lst (bytesV (t.drop (1024 * i)))) := upd_same
      have hA4 := hA3.ext (ExtN.of hs4)
      have hM4 := hM3.trans (Mv.same hM3.tb hs4)
      have hzS : ¬ S' z := fun y => (hA3.own _ y).fresh (fresh_none hz)
      have hzu : z ≠ au3 := fun y => hzS (y ▸ hA3.su)
      have hM5 := hM3.trans ((Mv.same hM3.tb hs4).less (S2 := fun x => S' x ∨ x = z) fun b hb => by
        rcases hb with hb | rfl
        · exact .inl hb
        · exact .inr (fresh_none hz))
      generalize upd H' z (.lst (bytesV (t.drop (1024 * i)))) = H4 at hz4 hA4 hM4 hM5 ⊢
      refine ⟨_, rfl, p, _, dx3, _, rfl, hA4.hp, T.c_Packing, T.n_Packing_waiting, (by show 4 < 1000; decide), ?_⟩
      rw [pk_put_waiting]
      refine q _ (fun x => S' x ∨ x = z) ⟨dx3, z, au3, ak3, kvs3, ?_⟩ (hM5.trans (Mv.put hM5.tb (.inl hA4.sp) hA4.hp (plain_ins _ _ _)))
      rw [← hi]
      exact hA4.setW hz4 hzu
theorem ok_Packing_add_end (T : Tx K mg c) (GA : Hm P w K mg base CX0 7 c.Packing "add_block" ["self", "text"] (sp_add_block TT c.Packing)) (GE : Hd P w K mg base CX0 3 "packed_end" ["size"] sp_packed_end)
    (F : Fun K "add_end" "Packing.add_end" s_Packing_add_end f fd) : FnOk P w K mg base CX0 8 f fd ["self"] (sp_add_end TT c.Packing) := by
  refine F.ok sc_Packing_add_end (fun vs H Q E h => ?_) (fun cdv A outer s H vs Q E hr h => ?_)
  · obtain ⟨p, S, n, m, wait, up, rfl, _⟩ := h
    rfl
  · refine ⟨_, (pss_cons (ps_if (pt_truK (K := K) rfl (pe_fld (pv 0) rfl) (by intro _; rfl)) (pss_one (ps_expr (pe_md T.c_Packing GA (hr.mono (by decide)) pass0 (pv 0) (pa_cons (pe_fld (pv 0) rfl) pa_nil)))) pss_nil)
  (pss_cons (ps_fld (pv 0) (pe_lst pa_nil) rfl)
  (pss_one (ps_expr (pe_bm PySem.F.plainAttrs_list PySem.F.slot_list_extend PySem.F.type_list_extend mt_extend (pe_fld (pv 0) rfl) (pa_cons (pe_cd GE (hr.mono (by decide)) pass0 (pa_cons (pe_fld (pv 0) rfl) pa_nil)) pa_nil)))))), ?_⟩
    obtain ⟨p, S, n, m, wait, up, rfl, hP, hwl, hm, hul, hT, q⟩ := h
    have hbl : ∀ l : Sw.Bytes, (bytesV l).length = l.length := fun l => List.length_map ..
    obtain ⟨dx, aw, au, ak, kvs, hA⟩ := id hP
    have hne0 : (!(bytesV wait).isEmpty) = !decide (wait = []) := by
      cases wait with
      | nil => rfl
      | cons _ _ => rfl
    have hlast : (if wait = [] then [] else blockOf wait).length ≤ 1029 := by
      split
      · exact Nat.zero_le _
      · exact blockOf_len wait hwl
    refine ⟨_, rfl, p, _, dx, _, _, rfl, hA.hp, T.c_Packing, T.n_Packing_waiting, pk_waiting, _, .inl ⟨_, .inl (.inl hA.hw), rfl⟩, ?_⟩
    refine if_rest (H1 := H) (fun H5 => ∃ (S' : Addr → Prop) (m' : Nat), Pk c.Packing H5 S' p n m' wait (up ++ (if wait = [] then [] else blockOf wait)) ∧ Mv TT S S' H H5) (fun H5 hR => ?_) (fun h1 rest => ?_) (fun h1 => ?_)
    · obtain ⟨S', m', ⟨dx5, aw5, au5, ak5, kvs5, hA5⟩, hM5⟩ := hR
      generalize (if wait = [] then [] else blockOf wait) = lastB at hlast hA5 q
      refine ⟨Nat.zero_le _, fun l hl => ?_⟩
      have hs6 := same_new (o := .lst []) hl
      have hl6 : upd H5 l (.lst []) l = some (.lst (bytesV [])) := upd_same
      have hA6 := hA5.ext (ExtN.of hs6)
      have hlS : ¬ S' l := fun z => (hA5.own _ z).fresh (fresh_none hl)
      have hlu : l ≠ au5 := fun z => hlS (z ▸ hA5.su)
      have hM6 := hM5.trans ((Mv.same hM5.tb hs6).less (S2 := fun x => S' x ∨ x = l) fun b hb => by
        rcases hb with hb | rfl
        · exact .inl hb
        · exact .inr (fresh_none hl))
      generalize upd H5 l (.lst []) = H6 at hl6 hA6 hM6 ⊢
      refine ⟨_, rfl, p, _, dx5, _, rfl, hA6.hp, T.c_Packing, T.n_Packing_waiting, (by show 4 < 1000; decide), ?_⟩
      rw [pk_put_waiting]
      have hA7 := hA6.setW hl6 hlu
      have hM7 := hM6.trans (Mv.put hM6.tb (.inl hA6.sp) hA6.hp (plain_ins _ _ _) (u := .ins c.Packing dx5 (pkF n l au5 ak5)))
      generalize upd H6 p (.ins c.Packing dx5 (pkF n l au5 ak5)) = H7 at hA7 hM7 ⊢
      refine ⟨_, rfl, p, _, dx5, _, _, rfl, hA7.hp, T.c_Packing, T.n_Packing_upcoming, pk_upcoming, .inl ⟨rfl, _, .inl (.inl hA7.hu)⟩, _, rfl, p, _, dx5, _, _, rfl, hA7.hp, T.c_Packing, T.n_Packing_size, pk_size, n, rfl, fun H8 p8 hs8 hp80 hp81 => ?_⟩
      have hA8 := hA7.ext (ExtN.of hs8)
      have hM8 := hM7.trans (Mv.same hM7.tb hs8)
      refine ⟨au5, p8, _, _, rfl, rfl, hA8.hu, hp81, ?_, ?_⟩
      · rw [hbl, hbl, List.length_append, List.length_append, le_length, le_length]
        exact line_le (by omega)
      · refine q _ _ m' ⟨dx5, l, au5, ak5, kvs5, ?_⟩ (hM8.trans (Mv.put hM8.tb hA8.su hA8.hu (plain_lst _)))
        have hpu : p ≠ au5 := (ne_of hA8.hu hA8.hp (by intro z; cases z)).symm
        have hku : ak5 ≠ au5 := (ne_of hA8.hu hA8.hk (by intro z; cases z)).symm
        refine ⟨by rw [upd_ne hpu]; exact hA8.hp, by rw [upd_ne hA8.ne]; exact hA8.hw, ?_, by rw [upd_ne hku]; exact hA8.hk, hA8.ne, hA8.kn.move fun b l _ hb hl => by rw [upd_ne hb]; exact hl, hA8.kl, hA8.sp, hA8.sw, hA8.su, hA8.sk, own_upd hA8.own (by intro ps z; cases z)⟩
        rw [upd_same, ← List.append_assoc]
        simp only [bytesV, List.map_append]
    · have hw0 : wait ≠ [] := by simpa using hne0.symm.trans h1
      have hw1 : 1 ≤ wait.length := by
        cases wait with
        | nil => exact absurd rfl hw0
        | cons _ _ => exact Nat.succ_le_succ (Nat.zero_le _)
      rw [if_neg hw0] at rest
      refine ⟨_, rfl, p, dx, _, rfl, hA.hp, pk_meth (by decide +kernel), _, rfl, p, _, dx, _, _, rfl, hA.hp, T.c_Packing, T.n_Packing_waiting, pk_waiting, p, aw, S, n, m, wait, up, wait, rfl, hP, hA.hw, hw1, hwl, hm, by omega, hT, fun H5 S5 hP5 hM5 => ?_⟩
      exact rest _ ⟨S5, m + 1, hP5, hM5⟩
    · have hw0 : wait = [] := by
        rcases Decidable.em (wait = []) with h | h
        · exact h
        · exact absurd (hne0.trans (by simp [h])) h1
      rw [if_pos hw0, List.append_nil]
      exact ⟨S, m, hP, Mv.refl hT⟩
/-- the whole row by what's known and what's left -/
theorem packed_kn (t : Sw.Bytes) : SwSqueeze.packed t = Sw.ascii "SWZ1" ++ blocksTo t (kn t) ++ ((if t.drop (1024 * kn t) = [] then [] else blockOf (t.drop (1024 * kn t))) ++ (Sw.le 4 0 ++ Sw.le 8 t.length)) := by
  have key : blocksTo t ((t.length + 1023) / 1024) = blocksTo t (kn t) ++ (if t.drop (1024 * kn t) = [] then [] else blockOf (t.drop (1024 * kn t))) := by
    by_cases h : t = []
    · subst h
      rfl
    · have hl : 1 ≤ t.length := by
        cases t with
        | nil => exact absurd rfl h
        | cons _ _ => exact Nat.succ_le_succ (Nat.zero_le _)
      have hk : kn t = (t.length - 1) / 1024 := rfl
      have e : (t.length + 1023) / 1024 = kn t + 1 := by omega
      have hd : t.drop (1024 * kn t) ≠ [] := fun z => by
        have := congrArg List.length z
        rw [List.length_drop, List.length_nil] at this
        omega
      rw [e, blocksTo_succ, if_neg hd]
      congr 2
      unfold pieceAt
      rw [List.take_of_length_le]
      rw [List.length_drop]
      omega
  rw [packed_eq, rowTo_eq, key]
  simp only [List.append_assoc]
theorem ok_packed (T : Tx K mg c) (GI : Hc P w K mg base CX0 1 "Packing" c.Packing ["self"] (sp_pk_init c.Packing)) (GA : Hm P w K mg base CX0 8 c.Packing "add_text" ["self", "octets"] (sp_add_text TT c.Packing)) (GE : Hm P w K mg base CX0 8 c.Packing "add_end" ["self"] (sp_add_end TT c.Packing))
    (GG : Hm P w K mg base CX0 1 c.Packing "give" ["self"] (sp_give TT c.Packing)) (F : Fun K "packed" "packed" s_packed f fd) : FnOk P w K mg base CX0 9 f fd ["text"] (sp_packed TT) := by
  refine F.ok sc_packed (fun vs H Q E h => ?_) (fun cdv A outer s H vs Q E hr h => ?_)
  · obtain ⟨a, bs, rfl, _⟩ := h
    rfl
  · refine ⟨_, (pss_cons (ps_set (i := 1) sc_packed.nd rfl (Or.inl rfl) (pe_mkd0 GI (hr.mono (by decide)) pass0))
  (pss_cons (ps_expr (pe_md T.c_Packing GA (hr.mono (by decide)) pass0 (pv 1) (pa_cons (pv 0) pa_nil)))
  (pss_cons (ps_expr (pe_md0 T.c_Packing GE (hr.mono (by decide)) pass0 (pv 1)))
  (pss_one (ps_ret (pe_md0 T.c_Packing GG (hr.mono (by decide)) pass0 (pv 1))))))), ?_⟩
    obtain ⟨a, bs, rfl, ha, hbn, hT, q⟩ := h
    refine fun x dx hx hdx hne => ⟨x, dx, rfl, upd_same, fun H1 S hP hS hb => ⟨rfl, ?_⟩⟩
    have hs1 : Same H H1 := fun b o hb' => hb b o (ne_of_none hb' hx) (by rw [upd_ne (ne_of_none hb' hx), upd_ne (ne_of_none hb' hdx)]; exact hb')
    have hfS : ∀ b, S b → Fresh H b := fun b hb' => by
      rcases hS b hb' with rfl | h
      · exact fresh_none hx
      · refine fresh_none ?_
        by_cases hbx : b = x
        · rw [hbx]; exact hx
        · rw [upd_ne hbx] at h
          by_cases hbd : b = dx
          · rw [hbd]; exact hdx
          · rw [upd_ne hbd] at h
            exact h
    obtain ⟨dx1, aw1, au1, ak1, kvs1, hA1⟩ := id hP
    refine ⟨_, rfl, x, dx1, _, rfl, hA1.hp, pk_meth (by decide +kernel), _, rfl, x, a, S, 0, 0, [], Sw.ascii "SWZ1", bs, rfl, hP, hs1 _ _ ha, Nat.zero_le _, hbn, Nat.zero_le _, by decide, hT.ext hs1, fun H2 S2 hP2 hM2 => ?_⟩
    rw [List.nil_append] at hP2
    obtain ⟨dx2, aw2, au2, ak2, kvs2, hA2⟩ := id hP2
    have hk : kn bs = (bs.length - 1) / 1024 := rfl
    have hbt := blocksTo_len bs (kn bs)
    refine ⟨_, rfl, x, dx2, _, rfl, hA2.hp, pk_meth (by decide +kernel), x, S2, _, _, _, _, rfl, hP2, by rw [List.length_drop]; omega, by omega, by rw [List.length_append]; show 4 + _ ≤ _; omega, hM2.tb, fun H3 S3 m3 hP3 hM3 => ?_⟩
    obtain ⟨dx3, aw3, au3, ak3, kvs3, hA3⟩ := id hP3
    refine ⟨_, rfl, x, dx3, _, rfl, hA3.hp, pk_meth (by decide +kernel), x, S3, _, _, _, _, rfl, hP3, hM3.tb, fun H4 S4 r hP4 hM4 hrS hrS4 hr4 => ?_⟩
    have hM := (hM2.trans hM3).trans hM4
    refine q _ r (hM.extN (ExtN.of hs1) hfS) hM.tb ?_ ?_
    · rcases (hM2.trans hM3).gr r hrS with h | h
      · exact hfS r h
      · exact fun o ho => h o (hs1 _ _ ho)
    · rw [Nat.zero_add] at hr4
      rw [packed_kn]
      exact hr4
end
end Sq
end
section
set_option Elab.async false
set_option maxRecDepth 100000
set_option maxHeartbeats 2000000
/-! list.extend of a tuple; max with default= -/
namespace SqX
open PySem PySem.Spec PyProof.Rows L2
set_option maxRecDepth 8000 in
theorem list_extend_tupA (l : Addr) (items : Array Value) (n : Nat) (b : Addr) (od : Option Addr) (osl : Array (Option Value)) (items2 : Array Value) (n2 : Nat) (hs0 : ¬(!items.isEmpty && Builtin.List.listTooLong (items.size + items2.size)) = true) (hs1 : items.size ≤ sizeLine) (hs2 : items.size + items2.size ≤ sizeLine + 1) :
    Meets (Builtin.«list.extend» ⟨[.ref l, .ref b], []⟩) (fun _ R s => s.heap.get? l = some { cls := .type "list", dict := none, data := .seq items n, slots := #[] } ∧ s.heap.get? b = some { cls := .type "tuple", dict := od, data := .seq items2 n2, slots := osl } ∧ R (.ok (.ret Value.none)) { s with heap := s.heap.update l (Obj.mapSeq fun x => x ++ items2), toks := s.toks }) :=
  .of_wp fun prog w A R s h => by
    obtain ⟨hp, g, d, tk, os⟩ := s; obtain ⟨hl, hb, h⟩ := h; have f1 := AutoSeq1.idx_int; have f2 := AutoSeq1.sub_tuple_tuple; have f3 := AutoSeq1.sub_list_list; have f4 := AutoSeq1.sub_tuple_list; have f5 := AutoSeq1.sub_list_tuple;
    have hz' : (items ++ items2).size ≤ sizeLine + 1 := by rw [Array.size_append]; exact hs2
    wp_walk using (wpAny_updateSeq hl rfl (hz := hs1) (_hz' := hz')), AutoSeq1.wpAny_loadPart' hl, AutoSeq1.wpAny_loadPart' hb; exact ⟨_, rfl, h⟩
section
variable {X : Cx}
def rExtendT (K : PySem.W.Frag) : V → List V → Hp → VK → Prop := fun x vs H Q => ∃ l b xs zs, x = .ref l ∧ vs = [.ref b] ∧ H l = some (.lst xs) ∧ SqT K H b zs ∧ xs.length + zs.length ≤ sizeLine ∧ Q .non (upd H l (.lst (xs ++ zs)))
theorem mt_extendT : MtM X "list.extend" (rExtendT X.K) := by
  intro pins s σ H x vs v us Q I rx rv h
  obtain ⟨l, b, xs, zs, rfl, rfl, hH, hB, hz, q⟩ := h
  cases rx
  obtain ⟨u, rfl, ru⟩ := rv.one
  cases ru
  obtain ⟨z, its, n, r, hl, e⟩ := I.lstM hH
  obtain ⟨its2, r2, ⟨o, e2, hc, n2, hd⟩, z2⟩ := I.tuple hB
  obtain ⟨ocl, od, odt, osl⟩ := o
  dsimp only at hc hd
  subst hc hd
  have hl2 := r2.length
  have hsz : its.toArray.size + its2.toArray.size ≤ sizeLine := by rw [List.size_toArray, List.size_toArray]; omega
  have hlong : ¬ (!its.toArray.isEmpty && Builtin.List.listTooLong (its.toArray.size + its2.toArray.size)) = true := by
    rw [notLongL hsz, Bool.and_false]
    exact Bool.false_ne_true
  refine call_meets F.slot_list_extend ⟨_, e, rfl⟩ F.entry_list_extend (F.args_list_extend_2 _ _)
    (list_extend_tupA l its.toArray n b od osl its2.toArray n2 hlong (by rw [List.size_toArray]; omega) (by omega)) ⟨e, e2, ?_⟩
  refine ⟨.non, _, I.lset (its' := its ++ its2) hH e (by simp) (r.append r2) ?_, rfl, q⟩
  rw [List.length_append]
  omega
theorem reads_ints {h : Heap} : ∀ {ns : List Int} {its : List Value}, Vals (ns.map V.int) its → ∃ as, ReadsAll h its (ns.map PyData.int) as
  | [], _, .nil => ⟨[], .nil⟩
  | n :: ns, _, .cons r t => by
    obtain ⟨as, ih⟩ := reads_ints (h := h) t
    obtain ⟨tk, rfl⟩ := r
    exact ⟨_, .cons (.int n tk) ih⟩
theorem depth_ints : ∀ ns : List Int, PyData.depthAll (ns.map PyData.int) = 0
  | [] => rfl
  | n :: ns => by
    have ih := depth_ints ns
    show max (PyData.depth (.int n)) (PyData.depthAll (ns.map PyData.int)) = 0
    rw [ih]
    rfl
def maxOr (d : Int) : List Int → Int
  | [] => d
  | n :: ms => ms.foldl max n
/-- max(xs, default=d) of a list of ints -/
def rMaxDef (K : PySem.W.Frag) : List V → List V → Hp → VK → Prop := fun vs zs H Q => ∃ (a : Addr) (ns : List Int) (d : Int), vs = [V.ref a] ∧ zs = [V.int d] ∧ SqL K H a (ns.map V.int) ∧ Q (.int (maxOr d ns)) H
theorem cr_maxDef (hc : X.calm = true) (hu : X.A.units + 1 < cLine) : CallRK X (.builtin "max") [Str.ofString "default"] (rMaxDef X.K) := by
  intro pins s σ H vs zs us ws Q I r rz h
  obtain ⟨a, ns, d, rfl, rfl, hs, q⟩ := h
  obtain ⟨its, rv, pl, _⟩ := I.list hs
  rw [Vals.ref1 r]
  obtain ⟨w1, rfl, rw1⟩ := rz.one
  obtain ⟨as, hra⟩ := reads_ints (h := s.heap) rv
  refine PySem.W.max_list_default (xs := ns.map PyData.int) (I.ok.hd hc) pl.isList (by simpa using hra) ⟨fun x hx y hy => ?_, fun x hx => ?_⟩ (by rw [depth_ints]; exact hu) (fun h0 h' tk hk => ?_) (fun y ys i v h' tk bs e hv hR hk => ?_)
  · obtain ⟨x', _, rfl⟩ := List.mem_map.mp hx
    obtain ⟨y', _, rfl⟩ := List.mem_map.mp hy
    rfl
  · obtain ⟨x', _, rfl⟩ := List.mem_map.mp hx
    nofun
  · have h0 := List.map_eq_nil_iff.mp h0
    subst h0
    exact ⟨.int d, H, I.kept hk, rw1, q⟩
  · match ns, e with
    | n :: ms, e =>
      have e := List.cons.inj e
      rw [← e.1, ← e.2, PySem.W.maxD_ints] at hR
      cases hR with
      | int i t => exact ⟨.int _, H, I.kept hk, ⟨t, rfl⟩, q⟩
end
end SqX
end
section
set_option Elab.async false
set_option maxRecDepth 100000
set_option maxHeartbeats 2000000
/-! the calls. -/
namespace Sq
open PySem PySem.Spec PyProof.Rows L2 SqX LamX
open SwSqueeze (Block)
def anF (x y z : V) : List (Str × V) := [("number", x), ("octets", y), ("figures", z)]
theorem an_number {x y z} : (anF x y z).lookup ("number" : Str) = some x := lk_here
theorem an_octets {x y z} : (anF x y z).lookup ("octets" : Str) = some y := (lk_past (by decide +kernel)).trans lk_here
theorem an_figures {x y z} : (anF x y z).lookup ("figures" : Str) = some z := (lk_past (by decide +kernel)).trans ((lk_past (by decide +kernel)).trans lk_here)
/-- an answer -/
def AnsAt (C : Addr) (H : Hp) (r : Addr) (a : Squeeze.Answer) : Prop := ∃ dx ao af, H r = some (.ins C dx (anF (.int a.ret) (.ref ao) (.ref af))) ∧ H ao = some (.lst (bytesV a.bytes)) ∧ H af = some (.lst (natsV a.nums))
def fk (a : Squeeze.Answer) : Nat := match a.fault with
  | some e => e.kind
  | none => 0
def fp (a : Squeeze.Answer) : Nat := match a.fault with
  | some e => e.place
  | none => 0
/-- a class of the refusals -/
structure RefOk (K : PySem.W.Frag) (c : CA) (C : Addr) : Prop where
  e : PySem.W.exmOne K (.ref C) (.ref c.Refusal) = some true
  x : XfC K C
  n1 : PySem.W.findIn K (.ref C) "number" = some none
  n2 : PySem.W.findIn K (.ref C) "kind" = some none
  n3 : PySem.W.findIn K (.ref C) "place" = some none
section
variable {K : PySem.W.Frag} {mg : Str → Option Value} {c : CA}
theorem Tx.r_BeyondText (T : Tx K mg c) : RefOk K c c.BeyondText := ⟨T.e_BeyondText, T.x_BeyondText, T.n_BeyondText_number, T.n_BeyondText_kind, T.n_BeyondText_place⟩
theorem Tx.r_TooLong (T : Tx K mg c) : RefOk K c c.TooLong := ⟨T.e_TooLong, T.x_TooLong, T.n_TooLong_number, T.n_TooLong_kind, T.n_TooLong_place⟩
theorem Tx.r_TooOften (T : Tx K mg c) : RefOk K c c.TooOften := ⟨T.e_TooOften, T.x_TooOften, T.n_TooOften_number, T.n_TooOften_kind, T.n_TooOften_place⟩
theorem Tx.r_NoState (T : Tx K mg c) : RefOk K c c.NoState := ⟨T.e_NoState, T.x_NoState, T.n_NoState_number, T.n_NoState_kind, T.n_NoState_place⟩
theorem Tx.r_NotBegun (T : Tx K mg c) : RefOk K c c.NotBegun := ⟨T.e_NotBegun, T.x_NotBegun, T.n_NotBegun_number, T.n_NotBegun_kind, T.n_NotBegun_place⟩
theorem Tx.r_NoPackedRow (T : Tx K mg c) : RefOk K c c.NoPackedRow := ⟨T.e_NoPackedRow, T.x_NoPackedRow, T.n_NoPackedRow_number, T.n_NoPackedRow_kind, T.n_NoPackedRow_place⟩
theorem Tx.r_PackedOtherwise (T : Tx K mg c) : RefOk K c c.PackedOtherwise := ⟨T.e_PackedOtherwise, T.x_PackedOtherwise, T.n_PackedOtherwise_number, T.n_PackedOtherwise_kind, T.n_PackedOtherwise_place⟩
end
/-- the call answers so -/
def Tells (TT : List (Addr × Str)) (K : PySem.W.Frag) (c : CA) (H : Hp) (Q : VK) (E : XK) (a : Squeeze.Answer) : Prop :=
  (a.fault = none → 0 ≤ a.ret → ∀ H' r, FrE TT H H' → AnsAt c.Answer H' r a → Q (.ref r) H') ∧
  (a.ret < 0 → ∀ H' d C, FrE TT H H' → RefOk K c C → H' d = some (.xd (exF (.int a.ret) (.int (fk a)) (.int (fp a)))) → E (.ref C) (some d) H')
theorem FrE.same {TT : List (Addr × Str)} {H H1 H2 : Hp} (a : FrE TT H H1) (b : Same H1 H2) : FrE TT H H2 := ⟨a.1.trans (ExtN.of b), a.2.ext b⟩
theorem FrE.refl {TT : List (Addr × Str)} {H : Hp} (t : Tabs TT H) : FrE TT H H := ⟨ExtN.refl _, t⟩
theorem FrE.trans {TT : List (Addr × Str)} {H H1 H2 : Hp} (a : FrE TT H H1) (b : FrE TT H1 H2) : FrE TT H H2 := ⟨a.1.trans b.1, b.2⟩
theorem Tells.of {TT : List (Addr × Str)} {K : PySem.W.Frag} {c : CA} {H H1 : Hp} {Q : VK} {E : XK} {a : Squeeze.Answer} (t : Tells TT K c H Q E a) (f : FrE TT H H1) : Tells TT K c H1 Q E a :=
  ⟨fun h1 h2 H' r hf ha => t.1 h1 h2 H' r (f.trans hf) ha, fun h1 H' d C hf hm hd => t.2 h1 H' d C (f.trans hf) hm hd⟩
/-- the end of a raise -/
theorem ex_done {C : Addr} {E : XK} {H : Hp} {a : Addr} {fs : List (Str × V)} (ha0 : H a = none) (hE : ∀ H' d, Same H H' → H' d = some (.xd fs) → E (.ref C) (some d) H') (H' : Hp) (d : Addr) (hx : ExcAt (upd H a (exo a C none)) H' a C d fs) :
    V.non = .non ∧ ∃ (d : Addr) (fs : List (Str × V)), H' a = some (exo a C (some d)) ∧ H' d = some (exd d fs) ∧ H d = none ∧ E (.ref C) (some d) (upd (del H' a) d (.xd fs)) := by
  obtain ⟨k1, k2, k3, k4, k5⟩ := hx
  have hd0 : H d = none := by rw [upd_ne k2] at k1; exact k1
  refine ⟨rfl, d, _, k3, k4, hd0, hE _ d (fun b' o hb2 => ?_) upd_same⟩
  rw [upd_ne (ne_of_none hb2 hd0), del_ne (ne_of_none hb2 ha0), k5 b' (ne_of_none hb2 ha0) (ne_of_none hb2 hd0), upd_ne (ne_of_none hb2 ha0)]
  exact hb2
def sp_an_init (C : Addr) : Sp := fun vs H Q _ => ∃ (p dx : Addr) (x y z : V), vs = [.ref p, x, y, z] ∧ H p = some (.ins C dx []) ∧ ∀ H', SameBut p H H' → H' p = some (.ins C dx (anF x y z)) → Q .non H'
def sp_read_part (TT : List (Addr × Str)) (c : CA) : Sp := fun vs H Q E => ∃ (a : Addr) (row : Sw.Bytes) (s e : Nat), vs = [.ref a, .int s, .int e] ∧ H a = some (.lst (bytesV row)) ∧ row.length ≤ 30000 ∧ Tabs TT H ∧
  (∀ f, SwSqueeze.read row (lookP s e) = .error f → NpE c E H (FrE TT) f.kind f.place) ∧
  (∀ l t, SwSqueeze.read row (lookP s e) = .ok (l, t) → ∀ H' p ap r, RR c.RowReader H' p a ap row s e r t l.length (partOf s e l) → FrE TT H H' → Q (.ref p) H')
def sp_read_text (TT : List (Addr × Str)) (c : CA) : Sp := fun vs H Q E => ∃ (a : Addr) (row : Sw.Bytes), vs = [.ref a] ∧ H a = some (.lst (bytesV row)) ∧ row.length ≤ 30000 ∧ Tabs TT H ∧
  (∀ f, SwSqueeze.read row (fun _ _ => true) = .error f → NpE c E H (FrE TT) f.kind f.place) ∧
  (∀ l t, SwSqueeze.read row (fun _ _ => true) = .ok (l, t) → (Squeeze.textOf l).length ≤ 8000000 → ∀ H' p, H' p = some (.lst (bytesV (Squeeze.textOf l))) → FrE TT H H' → Q (.ref p) H')
/-- a call of one row -/
def sp_row (TT : List (Addr × Str)) (K : PySem.W.Frag) (c : CA) (g : Sw.Bytes → Squeeze.Answer) : Sp := fun vs H Q E => ∃ (a : Addr) (bs : Sw.Bytes), vs = [.ref a] ∧ H a = some (.lst (bytesV bs)) ∧ bs.length ≤ 30000 ∧ Tabs TT H ∧ Tells TT K c H Q E (g bs)
def ansPack (a : Sw.Bytes) : Squeeze.Answer := Squeeze.ofText a (Squeeze.gives (SwSqueeze.packed a))
def ansUnpack (b : Sw.Bytes) : Squeeze.Answer := Squeeze.ofRow b (fun _ _ => true) fun x => Squeeze.gives (Squeeze.textOf x.1)
section
variable {P : Program} {w : World} {K : PySem.W.Frag} {mg : Str → Option Value} {base : Heap} {c : CA} {f fi : Addr} {fd fdi : FuncData} {TT : List (Addr × Str)}
theorem ok_Answer_init (T : Tx K mg c) (F : Fun K "__init__" "Answer.__init__" s_Answer_init f fd) : FnOk P w K mg base CX0 1 f fd ["self", "number", "octets", "figures"] (sp_an_init c.Answer) := by
  refine F.ok sc_Answer_init (fun vs H Q E h => ?_) (fun cdv A outer s H vs Q E hr h => ?_)
  · obtain ⟨p, dx, x, y, z, rfl, _⟩ := h
    rfl
  · refine ⟨_, (pss_cons (ps_fld (pv 0) (pv 1) rfl)
  (pss_cons (ps_fld (pv 0) (pv 2) rfl)
  (pss_one (ps_fld (pv 0) (pv 3) rfl)))), ?_⟩
    obtain ⟨p, dx, x, y, z, rfl, hp, q⟩ := h
    refine ⟨_, rfl, _, rfl, p, _, dx, _, rfl, hp, T.c_Answer, T.n_Answer_number, (by show 0 < 1000; decide), ?_⟩
    rw [show putF ("number" : Str) x ([] : List (Str × V)) = ([("number", x)] : List (Str × V)) from put_new ([] : List Str) rfl (by decide +kernel)]
    refine ⟨_, rfl, _, rfl, p, _, dx, _, rfl, upd_same, T.c_Answer, T.n_Answer_octets, (by show 1 < 1000; decide), ?_⟩
    rw [upd_upd, show putF ("octets" : Str) y ([("number", x)] : List (Str × V)) = ([("number", x), ("octets", y)] : List (Str × V)) from put_new (["number"] : List Str) rfl (by decide +kernel)]
    refine ⟨_, rfl, _, rfl, p, _, dx, _, rfl, upd_same, T.c_Answer, T.n_Answer_figures, (by show 2 < 1000; decide), ?_⟩
    rw [upd_upd, show putF ("figures" : Str) z ([("number", x), ("octets", y)] : List (Str × V)) = anF x y z from put_new (["number", "octets"] : List Str) rfl (by decide +kernel)]
    exact q _ (SameBut.put (SameBut.refl _ _)) upd_same
theorem ok_read_part (T : Tx K mg c) (GL : He P w K mg base CX0 2 "TooLong" c.TooLong ["self"] (sp_fixed_init c.TooLong (-2))) (GI : Hc P w K mg base CX0 1 "RowReader" c.RowReader ["self", "row", "part_start", "part_stop"] (sp_rr_init c.RowReader))
    (GR : Hm P w K mg base (L2.CX P w) 8 c.RowReader "read" ["self"] (sp_rr_read TT c)) (F : Fun K "read_part" "read_part" s_read_part f fd) : FnOk P w K mg base (L2.CX P w) 9 f fd ["row", "start", "stop"] (sp_read_part TT c) := by
  refine F.okX sc_read_part (fun vs H Q E h => ?_) (fun cdv A outer s H vs Q E hr h => ?_)
  · obtain ⟨a, row, s, e, rfl, _⟩ := h
    rfl
  · refine ⟨_, (pss_cons (ps_if (pt_cmpR op_gt (pe_callB call_len_seq (by rfl) T.len (by decide +kernel) (pa_cons (pv 0) pa_nil)) (pe_gI rfl T.MOST_ROW) (nomark _)) (pss_one (ps_raise rfl (takes_of rfl rfl rfl rfl) (pmk_exd0 GL (hr.mono (by decide))))) pss_nil)
  (pss_cons (ps_set (i := 3) sc_read_part.nd rfl (Or.inl rfl) (pe_mkd GI (hr.mono (by decide)) pass0 (pa_cons (pv 0) (pa_cons (pv 1) (pa_cons (pv 2) pa_nil)))))
  (pss_cons (ps_expr (pe_md0 T.c_RowReader GR (hr.mono (by decide)) (passes_call (takes_of rfl rfl rfl rfl) (fun _ _ _ _ h => h)) (pv 3)))
  (pss_one (ps_ret (pv 3)))))), ?_⟩
    obtain ⟨a, row, sP, eP, rfl, ha, hl, hT, hE, q⟩ := h
    have hbl : ∀ l : Sw.Bytes, (bytesV l).length = l.length := fun l => List.length_map ..
    refine ⟨_, rfl, _, _, rfl, .inl (.inl (.inl ha)), _, _, rfl, rfl, _, rfl, ?_⟩
    rw [hbl]
    refine ite2 (fun h1 => absurd (of_decide_eq_true h1) (by omega)) (fun h1 => ?_)
    refine ⟨_, rfl, _, rfl, _, rfl, fun x dx hx hdx hne => ⟨x, dx, a, row, sP, eP, rfl, upd_same, ?_, fun H1 ap hR1 hb1 hap0 => ⟨rfl, ?_⟩⟩⟩
    · rw [upd_ne (ne_of_none ha hx), upd_ne (ne_of_none ha hdx)]
      exact ha
    have hs1 : Same H H1 := fun b' o hb' => hb1 b' o (ne_of_none hb' hx) (by rw [upd_ne (ne_of_none hb' hx), upd_ne (ne_of_none hb' hdx)]; exact hb')
    have hapx : ap ≠ x := fun z => by rw [z, upd_same] at hap0; cases hap0
    have hap1 : H ap = none := by
      rw [upd_ne hapx] at hap0
      by_cases hd : ap = dx
      · rw [hd]; exact hdx
      · rw [upd_ne hd] at hap0
        exact hap0
    have fr : ∀ {H2}, FrR TT x ap H1 H2 → FrE TT H H2 := fun hF => ⟨fun b' o hb' hn => hF.1 b' o (ne_of_none hb' hx) (ne_of_none hb' hap1) (hs1 _ _ hb') hn, hF.2⟩
    obtain ⟨dx1, hx1, _⟩ := id hR1
    refine ⟨_, rfl, x, dx1, _, rfl, hx1, rr_meth (by decide +kernel), x, a, ap, row, sP, eP, rfl, hR1, hl, hT.ext hs1, fun fl hfl => (hE fl hfl).mono fun H2 hF => fr hF, fun l t hlt H2 r2 hR2 hF2 => ?_⟩
    exact ⟨_, rfl, q l t hlt H2 x ap r2 hR2 (fr hF2)⟩
theorem ok_read_text (T : Tx K mg c) (GP : Hd P w K mg base (L2.CX P w) 9 "read_part" ["row", "start", "stop"] (sp_read_part TT c)) (F : Fun K "read_text" "read_text" s_read_text f fd) : FnOk P w K mg base (L2.CX P w) 10 f fd ["row"] (sp_read_text TT c) := by
  refine F.okX sc_read_text (fun vs H Q E h => ?_) (fun cdv A outer s H vs Q E hr h => ?_)
  · obtain ⟨a, row, rfl, _⟩ := h
    rfl
  · refine ⟨_, (pss_one (ps_ret (pe_fld (pe_cd GP (hr.mono (by decide)) (passes_call (takes_of rfl rfl rfl rfl) (fun _ _ _ _ h => h)) (pa_cons (pv 0) (pa_cons pe_int (pa_cons (pe_op op_mul (pe_gI rfl T.BLOCK_SIZE) (pe_callB call_len_seq (by rfl) T.len (by decide +kernel) (pa_cons (pv 0) pa_nil))) pa_nil)))) rfl))), ?_⟩
    obtain ⟨a, row, rfl, ha, hl, hT, hE, q⟩ := h
    have hbl : ∀ l : Sw.Bytes, (bytesV l).length = l.length := fun l => List.length_map ..
    refine ⟨_, rfl, _, rfl, _, _, rfl, .inl (.inl (.inl ha)), _, _, rfl, rfl, .inl ⟨by decide, by decide⟩, ?_⟩
    rw [hbl]
    rw [read_all] at hE q
    refine ⟨a, row, 0, 1024 * row.length, ?_, ha, hl, hT, hE, fun l t hlt H1 p ap r hR hF => ?_⟩
    · dsimp only
      rw [show (1024 : Int) * ((row.length : Nat) : Int) = ((1024 * row.length : Nat) : Int) by omega]
      rfl
    · obtain ⟨hc, hT4⟩ := read_chain _ _ _ _ hlt
      obtain ⟨dx, hp, har, hap, _⟩ := id hR
      have hal := all_part hc (by omega)
      rw [hal] at hap
      refine ⟨p, _, dx, _, _, rfl, hp, T.c_RowReader, T.n_RowReader_part, rr_part, ?_⟩
      refine q l t hlt ?_ H1 ap hap hF
      have := looked_len 0 (1024 * row.length) hc
      rw [← hal, part_behind 0 _ hc (Nat.le_refl _), List.length_take]
      omega
theorem ok_pack (T : Tx K mg c) (GL : He P w K mg base CX0 2 "TooLong" c.TooLong ["self"] (sp_fixed_init c.TooLong (-2))) (GP : Hd P w K mg base CX0 9 "packed" ["text"] (sp_packed TT)) (GA : Hc P w K mg base CX0 1 "Answer" c.Answer ["self", "number", "octets", "figures"] (sp_an_init c.Answer))
    (F : Fun K "pack" "pack" s_pack f fd) : FnOk P w K mg base (L2.CX P w) 10 f fd ["text"] (sp_row TT K c ansPack) := by
  refine F.okX sc_pack (fun vs H Q E h => ?_) (fun cdv A outer s H vs Q E hr h => ?_)
  · obtain ⟨a, bs, rfl, _⟩ := h
    rfl
  · refine ⟨_, (pss_cons (ps_if (pt_cmpR op_gt (pe_callB call_len_seq (by rfl) T.len (by decide +kernel) (pa_cons (pv 0) pa_nil)) (pe_gI rfl T.MOST_TEXT) (nomark _)) (pss_one (ps_raise rfl (takes_of rfl rfl rfl rfl) (pmk_exd0 GL (hr.mono (by decide))))) pss_nil)
  (pss_cons (ps_set (i := 1) sc_pack.nd rfl (Or.inl rfl) (pe_cd GP (hr.mono (by decide)) pass0 (pa_cons (pv 0) pa_nil)))
  (pss_one (ps_ret (pe_mkd GA (hr.mono (by decide)) pass0 (pa_cons (pe_callB call_len_seq (by rfl) T.len (by decide +kernel) (pa_cons (pv 1) pa_nil)) (pa_cons (pv 1) (pa_cons (pe_lst pa_nil) pa_nil)))))))), ?_⟩
    obtain ⟨a, bs, rfl, ha, hl, hT, ht⟩ := h
    have hbl : ∀ l : Sw.Bytes, (bytesV l).length = l.length := fun l => List.length_map ..
    refine ⟨_, rfl, _, _, rfl, .inl (.inl (.inl ha)), _, _, rfl, rfl, _, rfl, ?_⟩
    rw [hbl]
    refine ite2 (fun h1 => absurd (of_decide_eq_true h1) (by omega)) (fun h1 => ?_)
    refine ⟨_, rfl, a, bs, rfl, ha, by omega, hT, fun H1 p1 e1 t1 hf1 hp1 => ?_⟩
    have hg : ansPack bs = Squeeze.gives (SwSqueeze.packed bs) := if_neg (by show ¬ 65536 < _; omega)
    rw [hg] at ht
    refine ⟨_, rfl, _, _, rfl, .inl (.inl (.inl hp1)), _, rfl, Nat.zero_le _, fun l hl0 => ?_⟩
    have hs2 := same_new (o := .lst []) hl0
    have hl1 : upd H1 l (.lst []) l = some (.lst (natsV [])) := upd_same
    generalize upd H1 l (.lst []) = H2 at hs2 hl1 ⊢
    refine fun x dx hx hdx hne => ⟨x, dx, _, _, _, rfl, upd_same, fun H3 hb3 hx3 => ⟨rfl, ?_⟩⟩
    have hs3 : Same H2 H3 := fun b' o hb' => hb3 b' o (ne_of_none hb' hx) (by rw [upd_ne (ne_of_none hb' hx), upd_ne (ne_of_none hb' hdx)]; exact hb')
    refine ht.1 rfl (Int.natCast_nonneg _) H3 x (FrE.same ⟨e1, t1⟩ (hs2.trans hs3)) ⟨dx, p1, l, ?_, hs3 _ _ (hs2 _ _ hp1), hs3 _ _ hl1⟩
    rw [hx3, hbl]
    rfl
theorem Tells.np {H : Hp} {Q : VK} {E : XK} {e : Sw.Fault} (T : Tx K mg c) (t : Tells TT K c H Q E (Squeeze.wrong e)) : NpE c E H (FrE TT) e.kind e.place := fun H' d hf hd => t.2 (by show (-6 : Int) < 0; decide) H' d c.NoPackedRow hf T.r_NoPackedRow hd
theorem ok_unpack (T : Tx K mg c) (GR : Hd P w K mg base (L2.CX P w) 10 "read_text" ["row"] (sp_read_text TT c)) (GA : Hc P w K mg base CX0 1 "Answer" c.Answer ["self", "number", "octets", "figures"] (sp_an_init c.Answer))
    (F : Fun K "unpack" "unpack" s_unpack f fd) : FnOk P w K mg base (L2.CX P w) 11 f fd ["row"] (sp_row TT K c ansUnpack) := by
  refine F.okX sc_unpack (fun vs H Q E h => ?_) (fun cdv A outer s H vs Q E hr h => ?_)
  · obtain ⟨a, bs, rfl, _⟩ := h
    rfl
  · refine ⟨_, (pss_cons (ps_set (i := 1) sc_unpack.nd rfl (Or.inl rfl) (pe_cd GR (hr.mono (by decide)) (passes_call (takes_of rfl rfl rfl rfl) (fun _ _ _ _ h => h)) (pa_cons (pv 0) pa_nil)))
  (pss_one (ps_ret (pe_mkd GA (hr.mono (by decide)) pass0 (pa_cons (pe_callB call_len_seq (by rfl) T.len (by decide +kernel) (pa_cons (pv 1) pa_nil)) (pa_cons (pv 1) (pa_cons (pe_lst pa_nil) pa_nil))))))), ?_⟩
    obtain ⟨a, bs, rfl, ha, hl, hT, ht⟩ := h
    have hbl : ∀ l : Sw.Bytes, (bytesV l).length = l.length := fun l => List.length_map ..
    have hg : ansUnpack bs = (match SwSqueeze.read bs (fun _ _ => true) with
      | .error e => Squeeze.wrong e
      | .ok x => Squeeze.gives (Squeeze.textOf x.1)) := if_neg (by show ¬ 131072 < _; omega)
    refine ⟨_, rfl, a, bs, rfl, ha, hl, hT, fun fl hfl => ?_, fun l t hlt htl H1 p1 hp1 hF1 => ?_⟩
    · rw [hg, hfl] at ht
      exact ht.np T
    · rw [hg, hlt] at ht
      refine ⟨_, rfl, _, _, rfl, .inl (.inl (.inl hp1)), _, rfl, Nat.zero_le _, fun l hl0 => ?_⟩
      have hs2 := same_new (o := .lst []) hl0
      have hl1 : upd H1 l (.lst []) l = some (.lst (natsV [])) := upd_same
      generalize upd H1 l (.lst []) = H2 at hs2 hl1 ⊢
      refine fun x dx hx hdx hne => ⟨x, dx, _, _, _, rfl, upd_same, fun H3 hb3 hx3 => ⟨rfl, ?_⟩⟩
      have hs3 : Same H2 H3 := fun b' o hb' => hb3 b' o (ne_of_none hb' hx) (by rw [upd_ne (ne_of_none hb' hx), upd_ne (ne_of_none hb' hdx)]; exact hb')
      refine ht.1 rfl (Int.natCast_nonneg _) H3 x (hF1.same (hs2.trans hs3)) ⟨dx, p1, l, ?_, hs3 _ _ (hs2 _ _ hp1), hs3 _ _ hl1⟩
      rw [hx3, hbl]
      rfl
def sp_read_at (TT : List (Addr × Str)) (K : PySem.W.Frag) (c : CA) (g : Sw.Bytes → Nat → Nat → Squeeze.Answer) : Sp := fun vs H Q E => ∃ (a : Addr) (bs : Sw.Bytes) (s n : Nat), vs = [.ref a, .int s, .int n] ∧ H a = some (.lst (bytesV bs)) ∧ bs.length ≤ 30000 ∧ Tabs TT H ∧ Tells TT K c H Q E (g bs s n)
def ansAt (b : Sw.Bytes) (f n : Nat) : Squeeze.Answer := (Squeeze.step [] (.at_ b f n)).2
theorem ansAt_eq (b : Sw.Bytes) (f n : Nat) (hb : b.length ≤ 30000) : ansAt b f n = (match SwSqueeze.read b (lookP f (f + n)) with
    | .error e => Squeeze.wrong e
    | .ok x => if x.2 < f then Squeeze.says (-1) else Squeeze.gives (partOf f (f + n) x.1)) := by
  have e : ansAt b f n = (match SwSqueeze.read b (fun (t k : Nat) => decide (max t f < min (t + k) (f + n))) with
    | .error e => Squeeze.wrong e
    | .ok x => if x.2 < f then Squeeze.says (-1) else Squeeze.gives (fromFirst (x.1.filter fun (q : Block) => decide (max q.from_ f < min (q.from_ + q.size) (f + min n (x.2 - f)))) f (min n (x.2 - f)))) := by
    unfold ansAt Squeeze.step Squeeze.ofRow
    dsimp only
    rw [if_neg (by show ¬ 131072 < _; omega)]
    cases SwSqueeze.read b (fun (t k : Nat) => decide (max t f < min (t + k) (f + n))) with
    | error e => rfl
    | ok x =>
      dsimp only
      split
      · rfl
      · generalize x.1.filter _ = l
        cases l <;> rfl
  rw [e, read_at_eq]
  cases h : SwSqueeze.read b (lookP f (f + n)) with
  | error e => rfl
  | ok x =>
    dsimp only
    split
    · rfl
    · rw [at_part f n (read_chain b _ x.1 x.2 h).1 (by omega)]
theorem ok_read_at (T : Tx K mg c) (GP : Hd P w K mg base (L2.CX P w) 9 "read_part" ["row", "start", "stop"] (sp_read_part TT c)) (GA : Hc P w K mg base CX0 1 "Answer" c.Answer ["self", "number", "octets", "figures"] (sp_an_init c.Answer))
    (GB : He P w K mg base CX0 2 "BeyondText" c.BeyondText ["self"] (sp_fixed_init c.BeyondText (-1)))
    (F : Fun K "read_at" "read_at" s_read_at f fd) : FnOk P w K mg base (L2.CX P w) 10 f fd ["row", "start", "n"] (sp_read_at TT K c ansAt) := by
  refine F.okX sc_read_at (fun vs H Q E h => ?_) (fun cdv A outer s H vs Q E hr h => ?_)
  · obtain ⟨a, bs, s, n, rfl, _⟩ := h
    rfl
  · refine ⟨_, (pss_cons (ps_set (i := 3) sc_read_at.nd rfl (Or.inl rfl) (pe_cd GP (hr.mono (by decide)) (passes_call (takes_of rfl rfl rfl rfl) (fun _ _ _ _ h => h)) (pa_cons (pv 0) (pa_cons (pv 1) (pa_cons (pe_op op_add (pv 1) (pv 2)) pa_nil)))))
  (pss_cons (ps_if (pt_cmpR op_gt (pv 1) (pe_fld (pv 3) rfl) (nomark _)) (pss_one (ps_raise rfl (takes_of rfl rfl rfl rfl) (pmk_exd0 GB (hr.mono (by decide))))) pss_nil)
  (pss_one (ps_ret (pe_mkd GA (hr.mono (by decide)) pass0 (pa_cons (pe_callB call_len_seq (by rfl) T.len (by decide +kernel) (pa_cons (pe_fld (pv 3) rfl) pa_nil)) (pa_cons (pe_fld (pv 3) rfl) (pa_cons (pe_lst pa_nil) pa_nil)))))))), ?_⟩
    obtain ⟨a, bs, s0, n, rfl, ha, hl, hT, ht⟩ := h
    have hbl : ∀ l : Sw.Bytes, (bytesV l).length = l.length := fun l => List.length_map ..
    rw [ansAt_eq _ _ _ hl] at ht
    refine ⟨_, rfl, _, rfl, _, rfl, _, rfl, _, _, rfl, rfl, a, bs, s0, s0 + n, ?_, ha, hl, hT, fun fl hfl => ?_, fun l t hlt H1 p ap r hR hF1 => ?_⟩
    · dsimp only
      rw [show ((s0 : Nat) : Int) + ((n : Nat) : Int) = ((s0 + n : Nat) : Int) by omega]
      rfl
    · rw [hfl] at ht
      exact ht.np T
    rw [hlt] at ht
    dsimp only at ht
    obtain ⟨dx, hp, har, hap, _⟩ := id hR
    refine ⟨_, rfl, _, rfl, p, _, dx, _, _, rfl, hp, T.c_RowReader, T.n_RowReader_text_size, rr_size, _, _, rfl, rfl, _, rfl, ?_⟩
    refine ite2 (fun h1 => ?_) (fun h1 => ?_)
    · have h1' : t < s0 := by
        have := of_decide_eq_true h1
        omega
      rw [if_pos h1'] at ht
      refine fun a2 ha2 => ⟨a2, rfl, upd_same, ex_done ha2 fun H' d hs hd => ?_⟩
      exact ht.2 (by decide) H' d c.BeyondText (hF1.same hs) T.r_BeyondText hd
    · have h1' : ¬ t < s0 := fun z => h1 (decide_eq_true (by omega))
      rw [if_neg h1'] at ht
      generalize partOf s0 (s0 + n) l = part at *
      refine ⟨_, rfl, p, _, dx, _, _, rfl, hp, T.c_RowReader, T.n_RowReader_part, rr_part, _, _, rfl, .inl (.inl (.inl hap)), _, rfl, p, _, dx, _, _, rfl, hp, T.c_RowReader, T.n_RowReader_part, rr_part, Nat.zero_le _, fun l hl0 => ?_⟩
      have hs2 := same_new (o := .lst []) hl0
      have hl1 : upd H1 l (.lst []) l = some (.lst (natsV [])) := upd_same
      generalize upd H1 l (.lst []) = H2 at hs2 hl1 ⊢
      refine fun x dx hx hdx hne => ⟨x, dx, _, _, _, rfl, upd_same, fun H3 hb3 hx3 => ⟨rfl, ?_⟩⟩
      have hs3 : Same H2 H3 := fun b' o hb' => hb3 b' o (ne_of_none hb' hx) (by rw [upd_ne (ne_of_none hb' hx), upd_ne (ne_of_none hb' hdx)]; exact hb')
      refine ht.1 rfl (Int.natCast_nonneg _) H3 x (hF1.same (hs2.trans hs3)) ⟨dx, ap, l, ?_, hs3 _ _ (hs2 _ _ hap), hs3 _ _ hl1⟩
      rw [hx3, hbl]
      rfl
end
end Sq
end
section
set_option Elab.async false
set_option maxRecDepth 100000
set_option maxHeartbeats 2000000
/-! the calls: judge, length. -/
namespace Sq
open PySem PySem.Spec PyProof.Rows L2 SqX LamX
open SwSqueeze (Block)
def ansJudge (b : Sw.Bytes) : Squeeze.Answer := Squeeze.ofRow b (fun _ _ => true) fun x => if SwSqueeze.packed (Squeeze.textOf x.1) = b then Squeeze.says 0 else Squeeze.says (-9)
def ansLength (b : Sw.Bytes) : Squeeze.Answer := Squeeze.ofRow b (fun _ _ => false) fun x => Squeeze.tells 0 [x.2, x.1.length]
theorem dp_bytes {K : PySem.W.Frag} {H : Hp} {a : Addr} {bs : Sw.Bytes} (h : H a = some (.lst (bytesV bs))) : Dp K H (.ref a) (.list (dInts (bs.map fun x => (x.toNat : Int)))) := by
  refine .lst (.inl (.inl h)) ?_
  have := dp_ints (K := K) (H := H) (bs.map fun x => (x.toNat : Int))
  rw [List.map_map] at this
  exact this
theorem ints_inj : ∀ {a b : Sw.Bytes}, (a.map fun x => (x.toNat : Int)) = (b.map fun x => (x.toNat : Int)) → a = b
  | [], [], _ => rfl
  | [], _ :: _, h => by cases h
  | _ :: _, [], h => by cases h
  | x :: a, y :: b, h => by
    have h := List.cons.inj h
    have h1 : (x.toNat : Int) = (y.toNat : Int) := h.1
    rw [ints_inj h.2, UInt8.toNat_inj.mp (by omega : x.toNat = y.toNat)]
section
variable {P : Program} {w : World} {K : PySem.W.Frag} {mg : Str → Option Value} {base : Heap} {c : CA} {f fi : Addr} {fd fdi : FuncData} {TT : List (Addr × Str)}
theorem ok_judge (T : Tx K mg c) (GR : Hd P w K mg base (L2.CX P w) 10 "read_text" ["row"] (sp_read_text TT c)) (GK : Hd P w K mg base CX0 9 "packed" ["text"] (sp_packed TT)) (GA : Hc P w K mg base CX0 1 "Answer" c.Answer ["self", "number", "octets", "figures"] (sp_an_init c.Answer))
    (GO : He P w K mg base CX0 2 "PackedOtherwise" c.PackedOtherwise ["self"] (sp_fixed_init c.PackedOtherwise (-9)))
    (F : Fun K "judge" "judge" s_judge f fd) : FnOk P w K mg base (L2.CX P w) 11 f fd ["row"] (sp_row TT K c ansJudge) := by
  refine F.okX sc_judge (fun vs H Q E h => ?_) (fun cdv A outer s H vs Q E hr h => ?_)
  · obtain ⟨a, bs, rfl, _⟩ := h
    rfl
  · refine ⟨_, (pss_cons (ps_if (pt_cmpR (op_neD hr.units) (pe_cd GK (hr.mono (by decide)) pass0 (pa_cons (pe_cd GR (hr.mono (by decide)) (passes_call (takes_of rfl rfl rfl rfl) (fun _ _ _ _ h => h)) (pa_cons (pv 0) pa_nil)) pa_nil)) (pv 0) (nomark _)) (pss_one (ps_raise rfl (takes_of rfl rfl rfl rfl) (pmk_exd0 GO (hr.mono (by decide))))) pss_nil)
  (pss_one (ps_ret (pe_mkd GA (hr.mono (by decide)) pass0 (pa_cons pe_int (pa_cons (pe_lst pa_nil) (pa_cons (pe_lst pa_nil) pa_nil))))))), ?_⟩
    obtain ⟨a, bs, rfl, ha, hl, hT, ht⟩ := h
    have hbl : ∀ l : Sw.Bytes, (bytesV l).length = l.length := fun l => List.length_map ..
    have hg : ansJudge bs = (match SwSqueeze.read bs (fun _ _ => true) with
      | .error e => Squeeze.wrong e
      | .ok x => if SwSqueeze.packed (Squeeze.textOf x.1) = bs then Squeeze.says 0 else Squeeze.says (-9)) := if_neg (by show ¬ 131072 < _; omega)
    refine ⟨_, rfl, a, bs, rfl, ha, hl, hT, fun fl hfl => ?_, fun l t hlt htl H1 p1 hp1 hF1 => ?_⟩
    · rw [hg, hfl] at ht
      exact ht.np T
    · rw [hg, hlt] at ht
      dsimp only at ht
      have ha1 := hF1.1 _ _ ha (by intro ps z; cases z)
      refine ⟨p1, Squeeze.textOf l, rfl, hp1, by omega, hF1.2, fun H2 p2 e2 t2 hf2 hp2 => ?_⟩
      have hF2 : FrE TT H H2 := hF1.trans ⟨e2, t2⟩
      have ha2 := e2 _ _ ha1 (by intro ps z; cases z)
      refine ⟨_, rfl, _, _, dp_bytes hp2, dp_bytes ha2, shaped_ints _, shaped_ints _, _, rfl, ?_⟩
      rw [show PyData.eqv (.list (dInts ((SwSqueeze.packed (Squeeze.textOf l)).map fun x => (x.toNat : Int)))) (.list (dInts (bs.map fun x => (x.toNat : Int)))) = decide (SwSqueeze.packed (Squeeze.textOf l) = bs) by
        refine (eqv_ints _ _).trans ?_
        rw [Bool.eq_iff_iff, decide_eq_true_iff, decide_eq_true_iff]
        exact ⟨ints_inj, fun h => by rw [h]⟩]
      refine ite2 (fun h1 => ?_) (fun h1 => ?_)
      · have h1' : ¬ SwSqueeze.packed (Squeeze.textOf l) = bs := by simpa using h1
        rw [if_neg h1'] at ht
        refine fun a2 ha2 => ⟨a2, rfl, upd_same, ex_done ha2 fun H' d hs hd => ?_⟩
        exact ht.2 (by decide) H' d c.PackedOtherwise (hF2.same hs) T.r_PackedOtherwise hd
      · have h1' : SwSqueeze.packed (Squeeze.textOf l) = bs := by simpa using h1
        rw [if_pos h1'] at ht
        refine ⟨Nat.zero_le _, fun l1 hl10 => ⟨Nat.zero_le _, fun l2 hl20 => ?_⟩⟩
        have hs3 : Same H2 (upd (upd H2 l1 (.lst [])) l2 (.lst [])) := same_made (same_new hl10) hl20
        have hne12 : l1 ≠ l2 := ne_of_none upd_same hl20
        have hl11 : upd (upd H2 l1 (.lst [])) l2 (.lst []) l1 = some (.lst (bytesV [])) := by rw [upd_ne hne12, upd_same]; rfl
        have hl21 : upd (upd H2 l1 (.lst [])) l2 (.lst []) l2 = some (.lst (natsV [])) := upd_same
        generalize upd (upd H2 l1 (.lst [])) l2 (.lst []) = H3 at hs3 hl11 hl21 ⊢
        refine fun x dx hx hdx hne => ⟨x, dx, _, _, _, rfl, upd_same, fun H4 hb4 hx4 => ⟨rfl, ?_⟩⟩
        have hs4 : Same H3 H4 := fun b' o hb' => hb4 b' o (ne_of_none hb' hx) (by rw [upd_ne (ne_of_none hb' hx), upd_ne (ne_of_none hb' hdx)]; exact hb')
        exact ht.1 rfl (Int.le_refl _) H4 x (hF2.same (hs3.trans hs4)) ⟨dx, l1, l2, hx4, hs4 _ _ hl11, hs4 _ _ hl21⟩
theorem ok_tell_length (T : Tx K mg c) (GP : Hd P w K mg base (L2.CX P w) 9 "read_part" ["row", "start", "stop"] (sp_read_part TT c)) (GA : Hc P w K mg base CX0 1 "Answer" c.Answer ["self", "number", "octets", "figures"] (sp_an_init c.Answer))
    (F : Fun K "tell_length" "tell_length" s_tell_length f fd) : FnOk P w K mg base (L2.CX P w) 10 f fd ["row"] (sp_row TT K c ansLength) := by
  refine F.okX sc_tell_length (fun vs H Q E h => ?_) (fun cdv A outer s H vs Q E hr h => ?_)
  · obtain ⟨a, bs, rfl, _⟩ := h
    rfl
  · refine ⟨_, (pss_cons (ps_set (i := 1) sc_tell_length.nd rfl (Or.inl rfl) (pe_cd GP (hr.mono (by decide)) (passes_call (takes_of rfl rfl rfl rfl) (fun _ _ _ _ h => h)) (pa_cons (pv 0) (pa_cons pe_int (pa_cons pe_int pa_nil)))))
  (pss_one (ps_ret (pe_mkd GA (hr.mono (by decide)) pass0 (pa_cons pe_int (pa_cons (pe_lst pa_nil) (pa_cons (pe_lst (pa_cons (pe_fld (pv 1) rfl) (pa_cons (pe_fld (pv 1) rfl) pa_nil))) pa_nil))))))), ?_⟩
    obtain ⟨a, bs, rfl, ha, hl, hT, ht⟩ := h
    have hg : ansLength bs = (match SwSqueeze.read bs (lookP 0 0) with
      | .error e => Squeeze.wrong e
      | .ok x => Squeeze.tells 0 [x.2, x.1.length]) := by
      rw [← read_none]
      exact if_neg (by show ¬ 131072 < _; omega)
    refine ⟨_, rfl, a, bs, 0, 0, rfl, ha, hl, hT, fun fl hfl => ?_, fun l t hlt H1 p ap r hR hF1 => ?_⟩
    · rw [hg, hfl] at ht
      exact ht.np T
    · rw [hg, hlt] at ht
      dsimp only at ht
      obtain ⟨dx, hp, har, hap, _⟩ := id hR
      refine ⟨Nat.zero_le _, fun l1 hl10 => ?_⟩
      have hp1 := same_new (o := .lst []) hl10 _ _ hp
      refine ⟨_, rfl, p, _, dx, _, _, rfl, hp1, T.c_RowReader, T.n_RowReader_text_size, rr_size, _, rfl, p, _, dx, _, _, rfl, hp1, T.c_RowReader, T.n_RowReader_blocks, rr_blocks, by show 2 ≤ _; decide, fun l2 hl20 => ?_⟩
      have hs3 : Same H1 (upd (upd H1 l1 (.lst [])) l2 (.lst [.int (t : Nat), .int (l.length : Nat)])) := same_made (same_new hl10) hl20
      have hne12 : l1 ≠ l2 := ne_of_none upd_same hl20
      have hl11 : upd (upd H1 l1 (.lst [])) l2 (.lst [.int (t : Nat), .int (l.length : Nat)]) l1 = some (.lst (bytesV [])) := by rw [upd_ne hne12, upd_same]; rfl
      have hl21 : upd (upd H1 l1 (.lst [])) l2 (.lst [.int (t : Nat), .int (l.length : Nat)]) l2 = some (.lst (natsV [t, l.length])) := upd_same
      generalize upd (upd H1 l1 (.lst [])) l2 (.lst [.int (t : Nat), .int (l.length : Nat)]) = H3 at hs3 hl11 hl21 ⊢
      refine fun x dx2 hx hdx hne => ⟨x, dx2, _, _, _, rfl, upd_same, fun H4 hb4 hx4 => ⟨rfl, ?_⟩⟩
      have hs4 : Same H3 H4 := fun b' o hb' => hb4 b' o (ne_of_none hb' hx) (by rw [upd_ne (ne_of_none hb' hx), upd_ne (ne_of_none hb' hdx)]; exact hb')
      exact ht.1 rfl (Int.le_refl _) H4 x (hF1.same (hs3.trans hs4)) ⟨dx2, l1, l2, hx4, hs4 _ _ hl11, hs4 _ _ hl21⟩
end
end Sq
end
section
set_option Elab.async false
set_option maxRecDepth 100000
set_option maxHeartbeats 2000000
/-! the calls: parse, lengths. -/
namespace Sq
open PySem PySem.Spec PyProof.Rows L2 SqX LamX
def ansParse (a : Sw.Bytes) : Squeeze.Answer := if SwSqueeze.BLOCK < a.length then Squeeze.says (-2) else Squeeze.tells ((SwSqueeze.parse a).length : Nat) ((SwSqueeze.parse a).flatMap Squeeze.told)
def ansCode (o : List Nat) : Squeeze.Answer := if 265 < o.length then Squeeze.says (-2) else if o.all (fun (n : Nat) => decide (n ≤ 32768)) = true ∧ o.sum ≤ 65536 then ⟨0, (SwSqueeze.lengths o).map UInt8.ofNat, [], none⟩ else Squeeze.says (-1)
def sp_often (TT : List (Addr × Str)) (K : PySem.W.Frag) (c : CA) (g : List Nat → Squeeze.Answer) : Sp := fun vs H Q E => ∃ (a : Addr) (o : List Nat), vs = [.ref a] ∧ H a = some (.lst (natsV o)) ∧ o.length ≤ 30000 ∧ Tabs TT H ∧ Tells TT K c H Q E (g o)
theorem told_stT (s : Stp) : natsV (Squeeze.told s) = stT s := by
  cases s <;> rfl
theorem figs_len (l : List Stp) : (l.flatMap Squeeze.told).length = 2 * l.length := by
  induction l with
  | nil => rfl
  | cons s l ih =>
    rw [List.flatMap_cons, List.length_append, ih, List.length_cons]
    cases s <;> (show 2 + _ = _; omega)
theorem max_le (ms : List Nat) : ∀ (n b : Nat), (ms.map fun (k : Nat) => (k : Int)).foldl max (n : Int) ≤ (b : Int) ↔ n ≤ b ∧ ∀ k ∈ ms, k ≤ b := by
  induction ms with
  | nil => intro n b; simp
  | cons m ms ih =>
    intro n b
    rw [List.map_cons, List.foldl_cons, show max (n : Int) (m : Int) = ((max n m : Nat) : Int) by omega, ih]
    constructor
    · rintro ⟨h1, h2⟩
      refine ⟨by omega, fun k hk => ?_⟩
      rcases List.mem_cons.mp hk with rfl | hk
      · omega
      · exact h2 k hk
    · rintro ⟨h1, h2⟩
      have := h2 m List.mem_cons_self
      exact ⟨by omega, fun k hk => h2 k (List.mem_cons_of_mem _ hk)⟩
theorem sum_nat (o : List Nat) : (o.map fun (k : Nat) => (k : Int)).sum = ((o.sum : Nat) : Int) := by
  induction o with
  | nil => rfl
  | cons n o ih =>
    rw [List.map_cons, List.sum_cons, List.sum_cons, ih]
    simp
theorem codes_bytes {ls : List Nat} (h : ∀ i, ls.getD i 0 ≤ 15) : bytesV (ls.map UInt8.ofNat) = natsV ls := by
  unfold bytesV natsV
  rw [List.map_map]
  apply List.map_congr_left
  intro n hn
  obtain ⟨i, hi⟩ := List.getElem?_of_mem hn
  have := h i
  rw [List.getD_eq_getElem?_getD, hi] at this
  show V.int ((UInt8.ofNat n).toNat : Nat) = V.int (n : Nat)
  rw [UInt8.toNat_ofNat', Nat.mod_eq_of_lt]
  exact Nat.lt_of_le_of_lt this (by decide)
section
variable {P : Program} {w : World} {K : PySem.W.Frag} {mg : Str → Option Value} {base : Heap} {c : CA} {f fi : Addr} {fd fdi : FuncData} {TT : List (Addr × Str)}
theorem ok_tell_parse (T : Tx K mg c) (GL : He P w K mg base CX0 2 "TooLong" c.TooLong ["self"] (sp_fixed_init c.TooLong (-2))) (GB : Hd P w K mg base CX0 4 "block_parse" ["text"] (sp_block_parse K)) (GA : Hc P w K mg base CX0 1 "Answer" c.Answer ["self", "number", "octets", "figures"] (sp_an_init c.Answer))
    (F : Fun K "tell_parse" "tell_parse" s_tell_parse f fd) : FnOk P w K mg base (L2.CX P w) 5 f fd ["text"] (sp_row TT K c ansParse) := by
  refine F.okX sc_tell_parse (fun vs H Q E h => ?_) (fun cdv A outer s H vs Q E hr h => ?_)
  · obtain ⟨a, bs, rfl, _⟩ := h
    rfl
  · refine ⟨_, (pss_cons (ps_if (pt_cmpR op_gt (pe_callB call_len_seq (by rfl) T.len (by decide +kernel) (pa_cons (pv 0) pa_nil)) (pe_gI rfl T.BLOCK_SIZE) (nomark _)) (pss_one (ps_raise rfl (takes_of rfl rfl rfl rfl) (pmk_exd0 GL (hr.mono (by decide))))) pss_nil)
  (pss_cons (ps_set (i := 1) sc_tell_parse.nd rfl (Or.inl rfl) (pe_cd GB (hr.mono (by decide)) pass0 (pa_cons (pv 0) pa_nil)))
  (pss_cons (ps_set (i := 2) sc_tell_parse.nd rfl (Or.inl rfl) (pe_lst pa_nil))
  (pss_cons (ps_for (passes_of rfl) rfl (pi_list (pv 1)) (pg_name (i := 3) sc_tell_parse.nd rfl (Or.inl rfl)) (pss_one (ps_expr (pe_bm PySem.F.plainAttrs_list PySem.F.slot_list_extend PySem.F.type_list_extend mt_extendT (pv 2) (pa_cons (pv 3) pa_nil)))))
  (pss_one (ps_ret (pe_mkd GA (hr.mono (by decide)) pass0 (pa_cons (pe_callB call_len_seq (by rfl) T.len (by decide +kernel) (pa_cons (pv 1) pa_nil)) (pa_cons (pe_lst pa_nil) (pa_cons (pv 2) pa_nil)))))))))), ?_⟩
    obtain ⟨a, bs, rfl, ha, hl, hT, ht⟩ := h
    have hbl : ∀ l : Sw.Bytes, (bytesV l).length = l.length := fun l => List.length_map ..
    refine ⟨_, rfl, _, _, rfl, .inl (.inl (.inl ha)), _, _, rfl, rfl, _, rfl, ?_⟩
    rw [hbl]
    refine ite2 (fun h1 => ?_) (fun h1 => ?_)
    · have h1' : 1024 < bs.length := by
        have := of_decide_eq_true h1
        omega
      rw [show ansParse bs = Squeeze.says (-2) from if_pos h1'] at ht
      refine fun a2 ha2 => ⟨a2, rfl, upd_same, ex_done ha2 fun H' d hs hd => ?_⟩
      exact ht.2 (by decide) H' d c.TooLong ((FrE.refl hT).same hs) T.r_TooLong hd
    · have h1' : ¬ 1024 < bs.length := fun z => h1 (decide_eq_true (by omega))
      rw [show ansParse bs = Squeeze.tells ((SwSqueeze.parse bs).length : Nat) ((SwSqueeze.parse bs).flatMap Squeeze.told) from if_neg h1'] at ht
      refine ⟨_, rfl, a, bs, rfl, .inl (.inl ha), by omega, fun H1 p1 ss hs1 hp10 hp1 hst1 hpar hok hsl => ?_⟩
      rw [← hpar] at ht
      refine ⟨Nat.zero_le _, fun r hr0 => ?_⟩
      have hs2 : Same H (upd H1 r (.lst [])) := same_made hs1 hr0
      have hrp : p1 ≠ r := ne_of_none hp1 hr0
      have hp2 : upd H1 r (.lst []) p1 = some (.lst (strefs ss)) := by rw [upd_ne hrp]; exact hp1
      have hst2 : Sts (upd H1 r (.lst [])) ss := hst1.same (same_new hr0)
      have hr2 : upd H1 r (.lst []) r = some (.lst (natsV ((List.map Prod.snd (ss.take 0)).flatMap Squeeze.told))) := upd_same
      have hrH : H r = none := hs1.free hr0
      generalize upd H1 r (.lst []) = H2 at hs2 hp2 hst2 hr2 ⊢
      have hsr : (strefs ss).length = ss.length := List.length_map ..
      refine ⟨_, rfl, p1, rfl, ⟨strefs ss, .inl (.inl hp2)⟩, for_it (walk_list (xs := strefs ss)) (fun i σ H' => ∃ v3 : Option V, σ = [some (.ref a), some (.ref p1), some (.ref r), v3] ∧ SameBut r H2 H' ∧ H' r = some (.lst (natsV ((List.map Prod.snd (ss.take i)).flatMap Squeeze.told))))
        ⟨_, rfl, SameBut.refl _ _, hr2⟩ (fun i σ H' _ hP => ?_) (fun i x σ H' H3 hi hP y => ?_) (fun σ H' hP => ?_)⟩
      · obtain ⟨_, _, hb, _⟩ := hP
        exact .inl (.inl (hb _ _ hrp hp2))
      · obtain ⟨rfl, hx⟩ := y
        obtain ⟨st, hst, rfl⟩ := map_get hx
        obtain ⟨v3, rfl, hb, hr3⟩ := hP
        have htup := hst2 st (List.mem_of_getElem? hst)
        have hne : st.1 ≠ r := ne_of htup hr2 (by intro z; cases z)
        refine ⟨_, rfl, .inl ⟨rfl, _, .inl (.inl hr3)⟩, _, rfl, r, st.1, _, _, rfl, rfl, hr3, .inl (.inl (hb _ _ hne htup)), ?_, ?_⟩
        · rw [natsV, List.length_map, figs_len, List.length_map, List.length_take]
          show _ + 2 ≤ _
          exact line_le (by omega)
        · refine ⟨_, rfl, SameBut.put hb, ?_⟩
          rw [upd_same, take_succ_of hst, List.map_append, List.flatMap_append]
          show some (HO.lst (_ ++ stT st.2)) = some (HO.lst (natsV (_ ++ (Squeeze.told st.2 ++ []))))
          rw [List.append_nil, ← told_stT]
          unfold natsV
          rw [List.map_append]
      · obtain ⟨v3, rfl, hb, hr3⟩ := hP
        rw [hsr, List.take_length] at hr3
        have hF3 : FrE TT H H' := ⟨fun b o h1 hn => hb _ _ (ne_of_none h1 hrH) (hs2 _ _ h1), Tabs.but (hT.ext hs2) hr2 (plain_lst _) hb⟩
        have hp3 := hb _ _ hrp hp2
        refine ⟨_, rfl, _, _, rfl, .inl (.inl (.inl hp3)), Nat.zero_le _, fun l1 hl10 => ?_⟩
        have hs4 := same_new (o := .lst []) hl10
        have hl11 : upd H' l1 (.lst []) l1 = some (.lst (bytesV [])) := upd_same
        have hr4 := hs4 _ _ hr3
        generalize upd H' l1 (.lst []) = H4 at hs4 hl11 hr4 ⊢
        refine ⟨_, rfl, fun x dx2 hx hdx hne => ⟨x, dx2, _, _, _, rfl, upd_same, fun H5 hb5 hx5 => ⟨rfl, ?_⟩⟩⟩
        have hs5 : Same H4 H5 := fun b' o hb' => hb5 b' o (ne_of_none hb' hx) (by rw [upd_ne (ne_of_none hb' hx), upd_ne (ne_of_none hb' hdx)]; exact hb')
        refine ht.1 rfl (Int.natCast_nonneg _) H5 x (hF3.same (hs4.trans hs5)) ⟨dx2, l1, r, ?_, hs5 _ _ hl11, hs5 _ _ hr4⟩
        rw [hx5, hsr]
        show _ = some (HO.ins _ _ (anF (.int ((List.map Prod.snd ss).length : Nat)) _ _))
        rw [List.length_map]
theorem ok_tell_code (T : Tx K mg c) (GL : He P w K mg base CX0 2 "TooLong" c.TooLong ["self"] (sp_fixed_init c.TooLong (-2))) (GO : He P w K mg base CX0 2 "TooOften" c.TooOften ["self"] (sp_fixed_init c.TooOften (-1))) (GC : Hd P w K mg base CX0 4 "code_lengths" ["often"] (sp_code_lengths K TT))
    (GA : Hc P w K mg base CX0 1 "Answer" c.Answer ["self", "number", "octets", "figures"] (sp_an_init c.Answer))
    (F : Fun K "tell_code" "tell_code" s_tell_code f fd) : FnOk P w K mg base (L2.CX P w) 5 f fd ["often"] (sp_often TT K c ansCode) := by
  refine F.okX sc_tell_code (fun vs H Q E h => ?_) (fun cdv A outer s H vs Q E hr h => ?_)
  · obtain ⟨a, o, rfl, _⟩ := h
    rfl
  · refine ⟨_, (pss_cons (ps_if (pt_cmpR op_gt (pe_callB call_len_seq (by rfl) T.len (by decide +kernel) (pa_cons (pv 0) pa_nil)) (pe_gI rfl T.SYMBOLS) (nomark _)) (pss_one (ps_raise rfl (takes_of rfl rfl rfl rfl) (pmk_exd0 GL (hr.mono (by decide))))) pss_nil)
  (pss_cons (ps_if (PW.pt (pw_or (pt_cmpR op_gt (pe_callBK (cr_maxDef rfl (Nat.lt_of_le_of_lt (Nat.add_le_add_left (by decide : 1 ≤ 64) _) hr.units)) (by rfl) T.max (by decide +kernel) (pa_cons (pv 0) pa_nil) (pk_cons pe_int pk_nil)) (pe_gI rfl T.MOST_OFTEN) (nomark _)) (pw_or1 (pt_cmpR op_gt (pe_callB (cr_sum rfl) (by rfl) T.sum (by decide +kernel) (pa_cons (pv 0) pa_nil)) (pe_gI rfl T.MOST_OFTEN_IN_SUM) (nomark _))))) (pss_one (ps_raise rfl (takes_of rfl rfl rfl rfl) (pmk_exd0 GO (hr.mono (by decide))))) pss_nil)
  (pss_one (ps_ret (pe_mkd GA (hr.mono (by decide)) pass0 (pa_cons pe_int (pa_cons (pe_cd GC (hr.mono (by decide)) pass0 (pa_cons (pv 0) pa_nil)) (pa_cons (pe_lst pa_nil) pa_nil)))))))), ?_⟩
    obtain ⟨a, o, rfl, ha, hl, hT, ht⟩ := h
    have hnl : (natsV o).length = o.length := List.length_map ..
    refine ⟨_, rfl, _, _, rfl, .inl (.inl (.inl ha)), _, _, rfl, rfl, _, rfl, ?_⟩
    rw [hnl]
    refine ite2 (fun h1 => ?_) (fun h1 => ?_)
    · have h1' : 265 < o.length := by
        have := of_decide_eq_true h1
        omega
      rw [show ansCode o = Squeeze.says (-2) from if_pos h1'] at ht
      refine fun a2 ha2 => ⟨a2, rfl, upd_same, ex_done ha2 fun H' d hs hd => ?_⟩
      exact ht.2 (by decide) H' d c.TooLong ((FrE.refl hT).same hs) T.r_TooLong hd
    have h1' : ¬ 265 < o.length := fun z => h1 (decide_eq_true (by omega))
    rw [show ansCode o = if o.all (fun (n : Nat) => decide (n ≤ 32768)) = true ∧ o.sum ≤ 65536 then ⟨0, (SwSqueeze.lengths o).map UInt8.ofNat, [], none⟩ else Squeeze.says (-1) from if_neg h1'] at ht
    have hints : natsV o = (o.map fun (k : Nat) => (k : Int)).map V.int := by
      unfold natsV
      rw [List.map_map]
      rfl
    have hbad : ¬ (o.all (fun (n : Nat) => decide (n ≤ 32768)) = true ∧ o.sum ≤ 65536) → ∀ (a2 : Addr), H a2 = none → ∀ H' d, Same H H' → H' d = some (.xd (exF (.int (-1)) (.int 0) (.int 0))) → E (.ref c.TooOften) (some d) H' := fun hb a2 ha2 H' d hs hd => by
      rw [if_neg hb] at ht
      exact ht.2 (by decide) H' d c.TooOften ((FrE.refl hT).same hs) T.r_TooOften hd
    have hmax : SqX.maxOr 0 (o.map fun (k : Nat) => (k : Int)) ≤ 32768 ↔ o.all (fun (n : Nat) => decide (n ≤ 32768)) = true := by
      match o with
      | [] => exact ⟨fun _ => rfl, fun _ => by decide⟩
      | n0 :: ms0 =>
        have := max_le ms0 n0 32768
        rw [show (((32768 : Nat)) : Int) = 32768 from rfl] at this
        show (ms0.map fun (k : Nat) => (k : Int)).foldl max (n0 : Int) ≤ 32768 ↔ _
        rw [this, List.all_cons, Bool.and_eq_true, decide_eq_true_iff, List.all_eq_true]
        simp only [decide_eq_true_iff]
    refine ⟨_, rfl, a, (o.map fun (k : Nat) => (k : Int)), 0, rfl, rfl, .inl (.inl (by rw [← hints]; exact ha)), _, _, rfl, rfl, _, rfl, ?_⟩
    refine ite2 (fun h2 => ?_) (fun h2 => ?_)
    · have h2' : ¬ (o.all (fun (n : Nat) => decide (n ≤ 32768)) = true ∧ o.sum ≤ 65536) := fun z => by
        have h3 := hmax.mpr z.1
        have h4 := of_decide_eq_true h2
        omega
      refine fun a2 ha2 => ⟨a2, rfl, upd_same, ex_done ha2 fun H' d hs hd => hbad h2' a2 ha2 H' d hs hd⟩
    have h2' : o.all (fun (n : Nat) => decide (n ≤ 32768)) = true := hmax.mp (by
      have h : ¬ 32768 < SqX.maxOr 0 (o.map fun (k : Nat) => (k : Int)) := fun z => h2 (decide_eq_true z)
      omega)
    refine ⟨_, rfl, a, (o.map fun (k : Nat) => (k : Int)), rfl, .inl (.inl (by rw [← hints]; exact ha)), _, _, rfl, rfl, _, rfl, ?_⟩
    rw [sum_nat]
    refine ite2 (fun h3 => ?_) (fun h3 => ?_)
    · have h3' : ¬ (o.all (fun (n : Nat) => decide (n ≤ 32768)) = true ∧ o.sum ≤ 65536) := fun z => by
        have h4 := of_decide_eq_true h3
        omega
      refine fun a2 ha2 => ⟨a2, rfl, upd_same, ex_done ha2 fun H' d hs hd => hbad h3' a2 ha2 H' d hs hd⟩
    have h3' : o.sum ≤ 65536 := by
      rcases Nat.lt_or_ge 65536 o.sum with h | h
      · exact absurd (decide_eq_true (by omega)) h3
      · exact h
    rw [if_pos ⟨h2', h3'⟩] at ht
    refine ⟨_, rfl, a, o, rfl, .inl (.inl ha), by omega, hT, fun H1 p1 e1 t1 hp10 hp1 => ?_⟩
    refine ⟨Nat.zero_le _, fun l1 hl10 => ?_⟩
    have hs2 := same_new (o := .lst []) hl10
    have hl11 : upd H1 l1 (.lst []) l1 = some (.lst (natsV [])) := upd_same
    have hp2 := hs2 _ _ hp1
    generalize upd H1 l1 (.lst []) = H2 at hs2 hl11 hp2 ⊢
    refine fun x dx2 hx hdx hne => ⟨x, dx2, _, _, _, rfl, upd_same, fun H3 hb3 hx3 => ⟨rfl, ?_⟩⟩
    have hs3 : Same H2 H3 := fun b' o hb' => hb3 b' o (ne_of_none hb' hx) (by rw [upd_ne (ne_of_none hb' hx), upd_ne (ne_of_none hb' hdx)]; exact hb')
    refine ht.1 rfl (Int.le_refl _) H3 x (FrE.same ⟨e1, t1⟩ (hs2.trans hs3)) ⟨dx2, p1, l1, hx3, ?_, hs3 _ _ hl11⟩
    show H3 p1 = some (.lst (bytesV ((SwSqueeze.lengths o).map UInt8.ofNat)))
    rw [codes_bytes (MC.lengths_le o (by omega))]
    exact hs3 _ _ hp2
end
end Sq
end
section
set_option Elab.async false
set_option maxRecDepth 100000
set_option maxHeartbeats 2000000
/-! the states. -/
namespace Sq
open PySem PySem.Spec PyProof.Rows L2 SqX LamX
open SwSqueeze (blockOf)
/-! ### mathematics -/
theorem kn_le (t : Sw.Bytes) : 1024 * kn t ≤ t.length := by
  unfold kn
  omega
theorem kn_rest (t : Sw.Bytes) : (t.drop (1024 * kn t)).length ≤ 1024 := by
  rw [List.length_drop]
  unfold kn
  omega
theorem wait_cat (x o : Sw.Bytes) : x.drop (1024 * kn x) ++ o = (x ++ o).drop (1024 * kn x) := by
  have := kn_le x
  rw [List.drop_append, show 1024 * kn x - x.length = 0 by omega, List.drop_zero]
theorem kn_cat (x o : Sw.Bytes) : kn x + kn ((x ++ o).drop (1024 * kn x)) = kn (x ++ o) := by
  unfold kn
  rw [List.length_drop, List.length_append]
  omega
theorem blocks_drop (t : Sw.Bytes) (k n : Nat) : blocksTo (t.drop (1024 * k)) n = (List.range n).flatMap fun j => blockOf (Sw.part t (1024 * (k + j)) 1024) := by
  unfold blocksTo
  rw [List.flatMap_map]
  congr 1
  funext j
  unfold pieceAt Sw.part
  rw [List.drop_drop, show 1024 * k + 1024 * j = 1024 * (k + j) by omega]
def upOf (fd : Squeeze.Feed) : Sw.Bytes := if fd.marked = true then [] else Sw.ascii "SWZ1"
theorem fed_eq (fd : Squeeze.Feed) (o : Sw.Bytes) : Squeeze.fed fd o = upOf fd ++ blocksTo (fd.text.drop (1024 * kn fd.text) ++ o) (kn (fd.text.drop (1024 * kn fd.text) ++ o)) := by
  rw [wait_cat, blocks_drop]
  unfold Squeeze.fed
  dsimp only
  rw [show Squeeze.known (fd.text ++ o).length - Squeeze.known fd.text.length = kn ((fd.text ++ o).drop (1024 * kn fd.text)) by
    have := kn_cat fd.text o
    show kn (fd.text ++ o) - kn fd.text = _
    omega]
  rfl
theorem ended_eq (fd : Squeeze.Feed) : Squeeze.ended fd = upOf fd ++ ((if fd.text.drop (1024 * kn fd.text) = [] then [] else blockOf (fd.text.drop (1024 * kn fd.text))) ++ (Sw.le 4 0 ++ Sw.le 8 fd.text.length)) := rfl
/-! ### the states' object -/
def FdAt (c : CA) (H : Hp) (S : Addr → Prop) (p : Addr) (fd : Squeeze.Feed) : Prop := Pk c.Packing H S p fd.text.length (kn fd.text) (fd.text.drop (1024 * kn fd.text)) (upOf fd) ∧ fd.text.length ≤ 65536
structure StA (c : CA) (H : Hp) (q dx ad : Addr) (kvs : List (Key × V)) (st : Squeeze.State) (m : Nat) (S : Nat → Addr → Prop) : Prop where
  hq : H q = some (.ins c.States dx [("packings", .ref ad)])
  hd : H ad = some (.dK kvs)
  len : st.length = 4
  kl : kvs.length ≤ m
  no : ∀ i : Nat, i < 4 → st[i]? = some none → valV kvs (Sum.inl (i : Int)) = none
  so : ∀ (i : Nat) (fd : Squeeze.Feed), i < 4 → st[i]? = some (some fd) → ∃ p, valV kvs (Sum.inl (i : Int)) = some (.ref p) ∧ FdAt c H (S i) p fd
  sep : ∀ (i j : Nat) (b : Addr), i ≠ j → S i b → ¬ S j b
  own : ∀ (i : Nat) (b : Addr), S i b → Own H b
  off : ∀ (i : Nat) (b : Addr), S i b → b ≠ q ∧ b ≠ ad
def Ft (q ad : Addr) (S : Nat → Addr → Prop) : Addr → Prop := fun b => b = q ∨ b = ad ∨ ∃ i, S i b
theorem StA.keep {c : CA} {H H' : Hp} {q dx ad : Addr} {kvs : List (Key × V)} {st : Squeeze.State} {m : Nat} {S : Nat → Addr → Prop} (h : StA c H q dx ad kvs st m S) (e : ∀ b o, Ft q ad S b → H b = some o → (∀ ps, o ≠ .tbl ps) → H' b = some o) : StA c H' q dx ad kvs st m S := by
  refine ⟨e _ _ (.inl rfl) h.hq (by intro ps z; cases z), e _ _ (.inr (.inl rfl)) h.hd (by intro ps z; cases z), h.len, h.kl, h.no, fun i fd hi hs => ?_, h.sep, fun i b hb => ?_, h.off⟩
  · obtain ⟨p, h1, h2, h3⟩ := h.so i fd hi hs
    exact ⟨p, h1, h2.keep fun b o hb h1 hn => e b o (.inr (.inr ⟨i, hb⟩)) h1 hn, h3⟩
  · obtain ⟨o, h1, h2⟩ := h.own i b hb
    exact ⟨o, e b o (.inr (.inr ⟨i, hb⟩)) h1 h2, h2⟩
theorem StA.ext {c : CA} {H H' : Hp} {q dx ad : Addr} {kvs : List (Key × V)} {st : Squeeze.State} {m : Nat} {S : Nat → Addr → Prop} (h : StA c H q dx ad kvs st m S) (e : ExtN H H') : StA c H' q dx ad kvs st m S := h.keep fun b o _ h1 hn => e b o h1 hn
theorem StA.more {c : CA} {H : Hp} {q dx ad : Addr} {kvs : List (Key × V)} {st : Squeeze.State} {m m' : Nat} {S : Nat → Addr → Prop} (h : StA c H q dx ad kvs st m S) (hm : m ≤ m') : StA c H q dx ad kvs st m' S := { h with kl := Nat.le_trans h.kl hm }
/-- the call answers so, behind it the post holds -/
def TellsG (K : PySem.W.Frag) (c : CA) (Q : VK) (E : XK) (Post : Hp → Prop) (a : Squeeze.Answer) : Prop :=
  (a.fault = none → 0 ≤ a.ret → ∀ H' r, Post H' → AnsAt c.Answer H' r a → Q (.ref r) H') ∧
  (a.ret < 0 → ∀ H' d C, Post H' → RefOk K c C → H' d = some (.xd (exF (.int a.ret) (.int (fk a)) (.int (fp a)))) → E (.ref C) (some d) H')
/-- the states at q are s' -/
def StP (TT : List (Addr × Str)) (c : CA) (q : Addr) (H : Hp) (ft : Addr → Prop) (s' : Squeeze.State) (m' : Nat) (H' : Hp) : Prop := ∃ dx ad kvs S, StA c H' q dx ad kvs s' m' S ∧ Mv TT ft (Ft q ad S) H H'
theorem StP.stay {TT : List (Addr × Str)} {c : CA} {H H' : Hp} {q dx ad : Addr} {kvs : List (Key × V)} {st : Squeeze.State} {m : Nat} {S : Nat → Addr → Prop} (h : StA c H q dx ad kvs st m S) (e : FrE TT H H') : StP TT c q H (Ft q ad S) st (m + 1) H' :=
  ⟨dx, ad, kvs, S, (h.ext e.1).more (Nat.le_succ m), Mv.ext e.1 e.2⟩
def sp_check_state (c : CA) : Sp := fun vs H Q E => ∃ n : Nat, vs = [.int n] ∧ (3 < n → ∀ H' d, Same H H' → H' d = some (.xd (exF (.int (-1)) (.int 0) (.int 0))) → E (.ref c.NoState) (some d) H') ∧ (n ≤ 3 → Q .non H)
def sp_st_init (C : Addr) : Sp := fun vs H Q _ => ∃ (p dx : Addr), vs = [.ref p] ∧ H p = some (.ins C dx []) ∧ ∀ H' ad, SameBut p H H' → H' p = some (.ins C dx [("packings", .ref ad)]) → H' ad = some (.dK []) → H ad = none → Q .non H'
def sp_packing_of (c : CA) : Sp := fun vs H Q E => ∃ (q : Addr) (n : Nat) (dx ad : Addr) (kvs : List (Key × V)) (st : Squeeze.State) (m : Nat) (S : Nat → Addr → Prop), vs = [.ref q, .int n] ∧ StA c H q dx ad kvs st m S ∧
  (3 < n → ∀ H' d, Same H H' → H' d = some (.xd (exF (.int (-1)) (.int 0) (.int 0))) → E (.ref c.NoState) (some d) H') ∧
  (n ≤ 3 → st[n]? = some none → ∀ H' d, Same H H' → H' d = some (.xd (exF (.int (-3)) (.int 0) (.int 0))) → E (.ref c.NotBegun) (some d) H') ∧
  (∀ fd p, n ≤ 3 → st[n]? = some (some fd) → valV kvs (Sum.inl (n : Int)) = some (.ref p) → FdAt c H (S n) p fd → Q (.ref p) H)
def sp_st1 (TT : List (Addr × Str)) (K : PySem.W.Frag) (c : CA) (g : Nat → Squeeze.Call) : Sp := fun vs H Q E => ∃ (q : Addr) (n : Nat) (dx ad : Addr) (kvs : List (Key × V)) (st : Squeeze.State) (m : Nat) (S : Nat → Addr → Prop), vs = [.ref q, .int n] ∧ StA c H q dx ad kvs st m S ∧ m ≤ 1000 ∧ Tabs TT H ∧
  TellsG K c Q E (StP TT c q H (Ft q ad S) (Squeeze.step st (g n)).1 (m + 1)) (Squeeze.step st (g n)).2
def sp_feed (TT : List (Addr × Str)) (K : PySem.W.Frag) (c : CA) : Sp := fun vs H Q E => ∃ (q a : Addr) (n : Nat) (os : Sw.Bytes) (dx ad : Addr) (kvs : List (Key × V)) (st : Squeeze.State) (m : Nat) (S : Nat → Addr → Prop), vs = [.ref q, .int n, .ref a] ∧ StA c H q dx ad kvs st m S ∧ m ≤ 1000 ∧ H a = some (.lst (bytesV os)) ∧ os.length ≤ 30000 ∧ Tabs TT H ∧
  TellsG K c Q E (StP TT c q H (Ft q ad S) (Squeeze.step st (.feed n os)).1 (m + 1)) (Squeeze.step st (.feed n os)).2
section
variable {P : Program} {w : World} {K : PySem.W.Frag} {mg : Str → Option Value} {base : Heap} {c : CA} {f fi : Addr} {fd fdi : FuncData} {TT : List (Addr × Str)}
theorem ok_check_state (T : Tx K mg c) (GN : He P w K mg base CX0 2 "NoState" c.NoState ["self"] (sp_fixed_init c.NoState (-1))) (F : Fun K "check_state" "check_state" s_check_state f fd) : FnOk P w K mg base (L2.CX P w) 4 f fd ["state"] (sp_check_state c) := by
  refine F.okX sc_check_state (fun vs H Q E h => ?_) (fun cdv A outer s H vs Q E hr h => ?_)
  · obtain ⟨n, rfl, _⟩ := h
    rfl
  · refine ⟨_, (pss_one (ps_if (pt_cmpR op_gt (pv 0) (pe_gI rfl T.HIGHEST_STATE) (nomark _)) (pss_one (ps_raise rfl (takes_of rfl rfl rfl rfl) (pmk_exd0 GN (hr.mono (by decide))))) pss_nil)), ?_⟩
    obtain ⟨n, rfl, hE, q⟩ := h
    refine ⟨_, rfl, _, _, rfl, rfl, _, rfl, ?_⟩
    refine ite2 (fun h1 => ?_) (fun h1 => ?_)
    · have h1' : 3 < n := by
        have := of_decide_eq_true h1
        omega
      exact fun a2 ha2 => ⟨a2, rfl, upd_same, ex_done ha2 fun H' d hs hd => hE h1' H' d hs hd⟩
    · have h1' : ¬ 3 < n := fun z => h1 (decide_eq_true (by omega))
      exact q (by omega)
theorem ok_States_init (T : Tx K mg c) (F : Fun K "__init__" "States.__init__" s_States_init f fd) : FnOk P w K mg base CX0 1 f fd ["self"] (sp_st_init c.States) := by
  refine F.ok sc_States_init (fun vs H Q E h => ?_) (fun cdv A outer s H vs Q E hr h => ?_)
  · obtain ⟨p, dx, rfl, _⟩ := h
    rfl
  · refine ⟨_, (pss_one (ps_fld (pv 0) pe_dnewK rfl)), ?_⟩
    obtain ⟨p, dx, rfl, hp, q⟩ := h
    refine fun d hd => ?_
    have hdp : d ≠ p := fun z => by rw [z, hp] at hd; cases hd
    refine ⟨_, rfl, p, _, dx, _, rfl, by rw [upd_ne hdp.symm]; exact hp, T.c_States, T.n_States_packings, (by show 0 < 1000; decide), ?_⟩
    exact q _ d (SameBut.put (SameBut.of (same_new hd))) upd_same (by rw [upd_ne hdp]; exact upd_same) hd
theorem ok_packing_of (T : Tx K mg c) (GC : Hd P w K mg base (L2.CX P w) 4 "check_state" ["state"] (sp_check_state c)) (GN : He P w K mg base CX0 2 "NotBegun" c.NotBegun ["self"] (sp_fixed_init c.NotBegun (-3)))
    (F : Fun K "packing_of" "States.packing_of" s_States_packing_of f fd) : FnOk P w K mg base (L2.CX P w) 5 f fd ["self", "state"] (sp_packing_of c) := by
  refine F.okX sc_States_packing_of (fun vs H Q E h => ?_) (fun cdv A outer s H vs Q E hr h => ?_)
  · obtain ⟨q, n, dx, ad, kvs, st, m, S, rfl, _⟩ := h
    rfl
  · refine ⟨_, (pss_cons (ps_expr (pe_cd GC (hr.mono (by decide)) (passes_call (takes_of rfl rfl rfl rfl) (fun _ _ _ _ h => h)) (pa_cons (pv 1) pa_nil)))
  (pss_cons (ps_if (pt_cmp (pc_dnotin (hu_of hr) (pv 1) (pe_fld (pv 0) rfl))) (pss_one (ps_raise rfl (takes_of rfl rfl rfl rfl) (pmk_exd0 GN (hr.mono (by decide))))) pss_nil)
  (pss_one (ps_ret (pe_dget (hu_of hr) (pe_fld (pv 0) rfl) (pv 1) (fun _ _ => rfl)))))), ?_⟩
    obtain ⟨q, n, dx, ad, kvs, st, m, S, rfl, hA, hE1, hE2, qq⟩ := h
    refine ⟨_, rfl, n, rfl, hE1, fun hn => ?_⟩
    have hn4 : n < 4 := by omega
    refine ⟨_, rfl, _, rfl, q, _, dx, _, _, rfl, hA.hq, T.c_States, T.n_States_packings, lk_here, ad, _, rfl, .inl ⟨kvs, Sum.inl (n : Int), .inl hA.hd, rfl, rfl⟩, _, rfl, ?_⟩
    cases hs : st[n]? with
    | none =>
      have := List.getElem?_eq_none_iff.mp hs
      have := hA.len
      omega
    | some x =>
      cases x with
      | none =>
        have hv := hA.no n hn4 hs
        rw [hv]
        refine iteT ?_
        exact fun a2 ha2 => ⟨a2, rfl, upd_same, ex_done ha2 fun H' d hs' hd => hE2 hn hs H' d hs' hd⟩
      | some fd =>
        obtain ⟨p, hv, hF⟩ := hA.so n fd hn4 hs
        rw [hv]
        refine iteF ?_
        exact ⟨_, rfl, q, _, dx, _, _, rfl, hA.hq, T.c_States, T.n_States_packings, lk_here, _, rfl, ad, _, rfl, .inl ⟨kvs, Sum.inl (n : Int), .inl hA.hd, rfl, hv.symm⟩, qq fd p hn hs hv hF⟩
end
end Sq
end
section
set_option Elab.async false
set_option maxRecDepth 100000
set_option maxHeartbeats 2000000
/-! the states' calls. -/
namespace Sq
open PySem PySem.Spec PyProof.Rows L2 SqX LamX
open SwSqueeze (blockOf)
theorem putK_le {κ : Type} [DecidableEq κ] (kvs : List (κ × V)) (k : κ) (v : V) : (putK kvs k v).length ≤ kvs.length + 1 := by
  unfold putK
  split
  · rw [List.length_map]; omega
  · rw [List.length_append]; simp
theorem valV_drop {κ : Type} [DecidableEq κ] (k j : κ) : ∀ kvs : List (κ × V), valV (dropK kvs k) j = if j = k then none else valV kvs j
  | [] => by
    show none = if j = k then none else none
    split <;> rfl
  | p :: r => by
    have ih := valV_drop k j r
    by_cases e : p.1 = k
    · rw [dropK_pos e, ih]
      by_cases ej : j = k
      · rw [if_pos ej, if_pos ej]
      · rw [if_neg ej, if_neg ej, valV_neg (fun z => ej (z.symm.trans e))]
    · rw [dropK_neg e]
      by_cases ep : p.1 = j
      · rw [valV_pos ep, valV_pos ep, if_neg (fun z => e (ep.trans z))]
      · rw [valV_neg ep, valV_neg ep, ih]
theorem set_get {st : Squeeze.State} {n i : Nat} {x : Option Squeeze.Feed} (h : st.length = 4) (hn : n < 4) : (st.set n x)[i]? = if i = n then some x else st[i]? := by
  by_cases e : i = n
  · rw [if_pos e, e, List.getElem?_set_self (by omega)]
  · rw [if_neg e, List.getElem?_set_ne (fun z => e z.symm)]
def putS (S : Nat → Addr → Prop) (n : Nat) (S2 : Addr → Prop) : Nat → Addr → Prop := fun i b => (i = n ∧ S2 b) ∨ (i ≠ n ∧ S i b)
theorem putS_self {S : Nat → Addr → Prop} {n : Nat} {S2 : Addr → Prop} : putS S n S2 n = S2 := by
  funext b
  unfold putS
  simp
theorem putS_ne {S : Nat → Addr → Prop} {n i : Nat} {S2 : Addr → Prop} (h : i ≠ n) : putS S n S2 i = S i := by
  funext b
  unfold putS
  simp [h]
section
variable {TT : List (Addr × Str)} {c : CA} {H H2 : Hp} {q dx ad p : Addr} {kvs : List (Key × V)} {st : Squeeze.State} {m n : Nat} {S : Nat → Addr → Prop} {S2 : Addr → Prop} {fd' : Squeeze.Feed}
theorem StA.ownF (h : StA c H q dx ad kvs st m S) : ∀ b, Ft q ad S b → Own H b := fun b hb => by
  rcases hb with rfl | rfl | ⟨i, hb⟩
  · exact ⟨_, h.hq, by intro ps z; cases z⟩
  · exact ⟨_, h.hd, by intro ps z; cases z⟩
  · exact h.own i b hb
/-- one packing of these goes on -/
theorem StA.goes (h : StA c H q dx ad kvs st m S) (hn : n < 4) (hv : valV kvs (Sum.inl (n : Int)) = some (.ref p)) (mv : Mv TT (S n) S2 H H2) (hF : FdAt c H2 S2 p fd') :
    StA c H2 q dx ad kvs (st.set n (some fd')) m (putS S n S2) ∧ Mv TT (Ft q ad S) (Ft q ad (putS S n S2)) H H2 := by
  have hqn : ¬ S n q := fun z => (h.off n q z).1 rfl
  have han : ¬ S n ad := fun z => (h.off n ad z).2 rfl
  obtain ⟨dxp, aw, au, ak, kv2, hP⟩ := hF.1
  refine ⟨⟨mv.get h.hq (by intro ps z; cases z) hqn, mv.get h.hd (by intro ps z; cases z) han, by rw [List.length_set]; exact h.len, h.kl, fun i hi hs => ?_, fun i fd hi hs => ?_, fun i j b hij hi hj => ?_, fun i b hb => ?_, fun i b hb => ?_⟩, ?_⟩
  · rw [set_get h.len hn] at hs
    split at hs
    · cases hs
    · exact h.no i hi hs
  · rw [set_get h.len hn] at hs
    split at hs
    next e =>
      cases hs
      subst e
      rw [putS_self]
      exact ⟨p, hv, hF⟩
    next e =>
      obtain ⟨p', h1, h2, h3⟩ := h.so i fd hi hs
      rw [putS_ne e]
      exact ⟨p', h1, h2.keep fun b o hb h1 hn2 => mv.get h1 hn2 (h.sep i n b e hb), h3⟩
  · rcases hi with ⟨rfl, hi⟩ | ⟨hi0, hi⟩
    · rcases hj with ⟨rfl, _⟩ | ⟨hj0, hj⟩
      · exact hij rfl
      · rcases mv.gr b hi with k | k
        · exact h.sep j _ b hj0 hj k
        · exact (h.own j b hj).fresh k
    · rcases hj with ⟨rfl, hj⟩ | ⟨hj0, hj⟩
      · rcases mv.gr b hj with k | k
        · exact h.sep i _ b hi0 hi k
        · exact (h.own i b hi).fresh k
      · exact h.sep i j b hij hi hj
  · rcases hb with ⟨rfl, hb⟩ | ⟨hi0, hb⟩
    · exact hP.own b hb
    · obtain ⟨o, h1, h2⟩ := h.own i b hb
      exact ⟨o, mv.get h1 h2 (h.sep i n b hi0 hb), h2⟩
  · rcases hb with ⟨rfl, hb⟩ | ⟨hi0, hb⟩
    · rcases mv.gr b hb with k | k
      · exact h.off _ b k
      · refine ⟨fun z => ?_, fun z => ?_⟩
        · exact (h.ownF q (.inl rfl)).fresh (z ▸ k)
        · exact (h.ownF ad (.inr (.inl rfl))).fresh (z ▸ k)
    · exact h.off i b hb
  · refine ⟨fun b o hb e hn2 => mv.fr b o (fun z => hb (.inr (.inr ⟨n, z⟩))) e hn2, fun b hb => ?_, mv.tb⟩
    rcases hb with rfl | rfl | ⟨i, hb⟩
    · exact .inl (.inl rfl)
    · exact .inl (.inr (.inl rfl))
    · rcases hb with ⟨rfl, hb⟩ | ⟨hi0, hb⟩
      · rcases mv.gr b hb with k | k
        · exact .inl (.inr (.inr ⟨_, k⟩))
        · exact .inr k
      · exact .inl (.inr (.inr ⟨i, hb⟩))
/-- one of the states is none again -/
theorem StA.drop (h : StA c H q dx ad kvs st m S) (hn : n < 4) (hT : Tabs TT H) :
    StA c (upd H ad (.dK (dropK kvs (Sum.inl (n : Int))))) q dx ad (dropK kvs (Sum.inl (n : Int))) (st.set n none) m (putS S n fun _ => False) ∧ Mv TT (Ft q ad S) (Ft q ad (putS S n fun _ => False)) H (upd H ad (.dK (dropK kvs (Sum.inl (n : Int))))) := by
  have hqa : q ≠ ad := ne_of h.hq h.hd (by intro z; cases z)
  refine ⟨⟨by rw [upd_ne hqa]; exact h.hq, upd_same, by rw [List.length_set]; exact h.len, Nat.le_trans (dropK_le _ _) h.kl, fun i hi hs => ?_, fun i fd hi hs => ?_, fun i j b hij hi hj => ?_, fun i b hb => ?_, fun i b hb => ?_⟩, ?_⟩
  · rw [set_get h.len hn] at hs
    rw [valV_drop]
    split at hs
    next e => rw [if_pos (by rw [e])]
    next e => rw [if_neg (fun z => e (by injection z with z; omega))]; exact h.no i hi hs
  · rw [set_get h.len hn] at hs
    split at hs
    · cases hs
    next e =>
      obtain ⟨p', h1, h2, h3⟩ := h.so i fd hi hs
      rw [putS_ne e, valV_drop, if_neg (fun z => e (by injection z with z; omega))]
      exact ⟨p', h1, h2.keep fun b o hb h1 _ => by rw [upd_ne (h.off i b hb).2]; exact h1, h3⟩
  · rcases hi with ⟨_, hi⟩ | ⟨hi0, hi⟩
    · exact hi
    · rcases hj with ⟨_, hj⟩ | ⟨hj0, hj⟩
      · exact hj
      · exact h.sep i j b hij hi hj
  · rcases hb with ⟨_, hb⟩ | ⟨hi0, hb⟩
    · exact hb.elim
    · obtain ⟨o, h1, h2⟩ := h.own i b hb
      exact ⟨o, by rw [upd_ne (h.off i b hb).2]; exact h1, h2⟩
  · rcases hb with ⟨_, hb⟩ | ⟨hi0, hb⟩
    · exact hb.elim
    · exact h.off i b hb
  · refine (Mv.put hT (.inr (.inl rfl)) h.hd ⟨fun _ z => (nomatch z), fun c q z => by unfold CodeO at z; cases z⟩).less fun b hb => ?_
    rcases hb with rfl | rfl | ⟨i, hb⟩
    · exact .inl (.inl rfl)
    · exact .inl (.inr (.inl rfl))
    · rcases hb with ⟨_, hb⟩ | ⟨hi0, hb⟩
      · exact hb.elim
      · exact .inl (.inr (.inr ⟨i, hb⟩))
/-- one of the states begins -/
theorem StA.begins (h : StA c H q dx ad kvs st m S) (hn : n < 4) (hT : Tabs TT H) (hP : Pk c.Packing H S2 p 0 0 [] (Sw.ascii "SWZ1")) (hS : ∀ i b, S2 b → ¬ S i b) (hqS : ¬ S2 q) (haS : ¬ S2 ad) :
    StA c (upd H ad (.dK (putK kvs (Sum.inl (n : Int)) (.ref p)))) q dx ad (putK kvs (Sum.inl (n : Int)) (.ref p)) (st.set n (some ⟨[], false⟩)) (m + 1) (putS S n S2) := by
  have hqa : q ≠ ad := ne_of h.hq h.hd (by intro z; cases z)
  obtain ⟨dxp, aw, au, ak, kv2, hPA⟩ := id hP
  refine ⟨by rw [upd_ne hqa]; exact h.hq, upd_same, by rw [List.length_set]; exact h.len, Nat.le_trans (putK_le _ _ _) (Nat.succ_le_succ h.kl), fun i hi hs => ?_, fun i fd hi hs => ?_, fun i j b hij hi hj => ?_, fun i b hb => ?_, fun i b hb => ?_⟩
  · rw [set_get h.len hn] at hs
    rw [valV_put]
    split at hs
    · cases hs
    next e => rw [if_neg (fun z => e (by injection z with z; omega))]; exact h.no i hi hs
  · rw [set_get h.len hn] at hs
    split at hs
    next e =>
      cases hs
      subst e
      rw [putS_self, valV_put, if_pos rfl]
      exact ⟨p, rfl, hP.keep fun b o hb h1 _ => by rw [upd_ne (fun z : b = ad => haS (by rw [← z]; exact hb))]; exact h1, Nat.zero_le _⟩
    next e =>
      obtain ⟨p', h1, h2, h3⟩ := h.so i fd hi hs
      rw [putS_ne e, valV_put, if_neg (fun z => e (by injection z with z; omega))]
      exact ⟨p', h1, h2.keep fun b o hb h1 _ => by rw [upd_ne (h.off i b hb).2]; exact h1, h3⟩
  · rcases hi with ⟨rfl, hi⟩ | ⟨hi0, hi⟩
    · rcases hj with ⟨rfl, _⟩ | ⟨hj0, hj⟩
      · exact hij rfl
      · exact hS j b hi hj
    · rcases hj with ⟨rfl, hj⟩ | ⟨hj0, hj⟩
      · exact hS i b hj hi
      · exact h.sep i j b hij hi hj
  · rcases hb with ⟨rfl, hb⟩ | ⟨hi0, hb⟩
    · obtain ⟨o, h1, h2⟩ := hPA.own b hb
      exact ⟨o, by rw [upd_ne (fun z : b = ad => haS (by rw [← z]; exact hb))]; exact h1, h2⟩
    · obtain ⟨o, h1, h2⟩ := h.own i b hb
      exact ⟨o, by rw [upd_ne (h.off i b hb).2]; exact h1, h2⟩
  · rcases hb with ⟨rfl, hb⟩ | ⟨hi0, hb⟩
    · exact ⟨fun z => hqS (z ▸ hb), fun z => haS (z ▸ hb)⟩
    · exact h.off i b hb
end
end Sq
end
section
set_option Elab.async false
set_option maxRecDepth 100000
set_option maxHeartbeats 2000000
/-! the states' calls: begin, feed, end. -/
namespace Sq
open PySem PySem.Spec PyProof.Rows L2 SqX LamX
open SwSqueeze (blockOf)
theorem StP.of {TT : List (Addr × Str)} {c : CA} {q : Addr} {H H1 H2 : Hp} {ft ft1 : Addr → Prop} {s' : Squeeze.State} {m' : Nat} (p : StP TT c q H1 ft1 s' m' H2) (mv : Mv TT ft ft1 H H1) : StP TT c q H ft s' m' H2 := by
  obtain ⟨dx, ad, kvs, S, h1, h2⟩ := p
  exact ⟨dx, ad, kvs, S, h1, mv.trans h2⟩
theorem StP.same {TT : List (Addr × Str)} {c : CA} {q : Addr} {H H1 H2 : Hp} {ft : Addr → Prop} {s' : Squeeze.State} {m' : Nat} (p : StP TT c q H ft s' m' H1) (e : Same H1 H2) : StP TT c q H ft s' m' H2 := by
  obtain ⟨dx, ad, kvs, S, h1, h2⟩ := p
  exact ⟨dx, ad, kvs, S, h1.ext (ExtN.of e), h2.trans (Mv.same h2.tb e)⟩
section
variable {P : Program} {w : World} {K : PySem.W.Frag} {mg : Str → Option Value} {base : Heap} {c : CA} {f fi : Addr} {fd fdi : FuncData} {TT : List (Addr × Str)}
theorem ok_begin (T : Tx K mg c) (GC : Hd P w K mg base (L2.CX P w) 4 "check_state" ["state"] (sp_check_state c)) (GI : Hc P w K mg base CX0 1 "Packing" c.Packing ["self"] (sp_pk_init c.Packing)) (GA : Hc P w K mg base CX0 1 "Answer" c.Answer ["self", "number", "octets", "figures"] (sp_an_init c.Answer))
    (F : Fun K "begin" "States.begin" s_States_begin f fd) : FnOk P w K mg base (L2.CX P w) 5 f fd ["self", "state"] (sp_st1 TT K c .begin_) := by
  refine F.okX sc_States_begin (fun vs H Q E h => ?_) (fun cdv A outer s H vs Q E hr h => ?_)
  · obtain ⟨q, n, dx, ad, kvs, st, m, S, rfl, _⟩ := h
    rfl
  · refine ⟨_, (pss_cons (ps_expr (pe_cd GC (hr.mono (by decide)) (passes_call (takes_of rfl rfl rfl rfl) (fun _ _ _ _ h => h)) (pa_cons (pv 1) pa_nil)))
  (pss_cons (ps_dput (hu_of hr) (pe_fld (pv 0) rfl) (pv 1) (pe_mkd0 GI (hr.mono (by decide)) pass0) rfl)
  (pss_one (ps_ret (pe_mkd GA (hr.mono (by decide)) pass0 (pa_cons pe_int (pa_cons (pe_lst pa_nil) (pa_cons (pe_lst pa_nil) pa_nil)))))))), ?_⟩
    obtain ⟨q, n, dx, ad, kvs, st, m, S, rfl, hA, hm, hT, ht⟩ := h
    refine ⟨_, rfl, n, rfl, fun hn H' d hs hd => ?_, fun hn => ?_⟩
    · rw [show Squeeze.step st (.begin_ n) = (st, Squeeze.says (-1)) from if_pos (by show 4 ≤ n; omega)] at ht
      exact ht.2 (show (-1 : Int) < 0 by decide) H' d c.NoState (StP.stay hA ((FrE.refl hT).same hs)) T.r_NoState hd
    rw [show Squeeze.step st (.begin_ n) = (st.set n (some ⟨[], false⟩), Squeeze.says 0) from if_neg (by show ¬ 4 ≤ n; omega)] at ht
    refine fun x dxp hx hdxp hne => ⟨x, dxp, rfl, upd_same, fun H1 Sp hP hSp hb => ⟨rfl, ?_⟩⟩
    have hs1 : Same H H1 := fun b o hb' => hb b o (ne_of_none hb' hx) (by rw [upd_ne (ne_of_none hb' hx), upd_ne (ne_of_none hb' hdxp)]; exact hb')
    have hfS : ∀ b, Sp b → H b = none := fun b hb' => by
      rcases hSp b hb' with rfl | h
      · exact hx
      · by_cases hbx : b = x
        · rw [hbx]; exact hx
        · rw [upd_ne hbx] at h
          by_cases hbd : b = dxp
          · rw [hbd]; exact hdxp
          · rw [upd_ne hbd] at h
            exact h
    have nof : ∀ b, Ft q ad S b → ¬ Sp b := fun b h1 h2 => (hA.ownF b h1).fresh (fresh_none (hfS b h2))
    have hA1 := hA.ext (ExtN.of hs1)
    have hT1 : Tabs TT H1 := hT.ext hs1
    refine ⟨_, rfl, q, _, dx, _, _, rfl, hA1.hq, T.c_States, T.n_States_packings, lk_here, _, rfl, ad, _, rfl, .inl ⟨kvs, Sum.inl (n : Int), hA1.hd, rfl, line_lt (by have := hA.kl; omega), rfl⟩, ?_⟩
    have hB := hA1.begins (n := n) (by omega) hT1 hP (fun i b h1 h2 => nof b (.inr (.inr ⟨i, h2⟩)) h1) (nof q (.inl rfl)) (nof ad (.inr (.inl rfl)))
    have hM : Mv TT (Ft q ad S) (Ft q ad (putS S n Sp)) H (upd H1 ad (.dK (putK kvs (Sum.inl (n : Int)) (.ref x)))) := ((Mv.same hT hs1).trans (Mv.put hT1 (.inr (.inl rfl)) hA1.hd ⟨fun _ z => (nomatch z), fun c q z => by unfold CodeO at z; cases z⟩)).less fun b hb => by
      rcases hb with rfl | rfl | ⟨i, hb⟩
      · exact .inl (.inl rfl)
      · exact .inl (.inr (.inl rfl))
      · rcases hb with ⟨_, hb⟩ | ⟨hi0, hb⟩
        · exact .inr (fresh_none (hfS b hb))
        · exact .inl (.inr (.inr ⟨i, hb⟩))
    have hSt : StP TT c q H (Ft q ad S) (st.set n (some ⟨[], false⟩)) (m + 1) (upd H1 ad (.dK (putK kvs (Sum.inl (n : Int)) (.ref x)))) := ⟨dx, ad, _, _, hB, hM⟩
    generalize upd H1 ad (.dK (putK kvs (Sum.inl (n : Int)) (.ref x))) = H2 at hSt ⊢
    refine ⟨Nat.zero_le _, fun l1 hl10 => ⟨Nat.zero_le _, fun l2 hl20 => ?_⟩⟩
    have hs3 : Same H2 (upd (upd H2 l1 (.lst [])) l2 (.lst [])) := same_made (same_new hl10) hl20
    have hne12 : l1 ≠ l2 := ne_of_none upd_same hl20
    have hl11 : upd (upd H2 l1 (.lst [])) l2 (.lst []) l1 = some (.lst (bytesV [])) := by rw [upd_ne hne12, upd_same]; rfl
    have hl21 : upd (upd H2 l1 (.lst [])) l2 (.lst []) l2 = some (.lst (natsV [])) := upd_same
    generalize upd (upd H2 l1 (.lst [])) l2 (.lst []) = H3 at hs3 hl11 hl21 ⊢
    refine fun y dy hy hdy hney => ⟨y, dy, _, _, _, rfl, upd_same, fun H4 hb4 hx4 => ⟨rfl, ?_⟩⟩
    have hs4 : Same H3 H4 := fun b' o hb' => hb4 b' o (ne_of_none hb' hy) (by rw [upd_ne (ne_of_none hb' hy), upd_ne (ne_of_none hb' hdy)]; exact hb')
    exact ht.1 rfl (Int.le_refl _) H4 y (hSt.same (hs3.trans hs4)) ⟨dy, l1, l2, hx4, hs4 _ _ hl11, hs4 _ _ hl21⟩
theorem ok_feed (T : Tx K mg c) (GP : Hm P w K mg base (L2.CX P w) 5 c.States "packing_of" ["self", "state"] (sp_packing_of c)) (GL : He P w K mg base CX0 2 "TooLong" c.TooLong ["self"] (sp_fixed_init c.TooLong (-2))) (GT : Hm P w K mg base CX0 8 c.Packing "add_text" ["self", "octets"] (sp_add_text TT c.Packing))
    (GG : Hm P w K mg base CX0 1 c.Packing "give" ["self"] (sp_give TT c.Packing)) (GA : Hc P w K mg base CX0 1 "Answer" c.Answer ["self", "number", "octets", "figures"] (sp_an_init c.Answer))
    (F : Fun K "feed" "States.feed" s_States_feed f fd) : FnOk P w K mg base (L2.CX P w) 9 f fd ["self", "state", "octets"] (sp_feed TT K c) := by
  refine F.okX sc_States_feed (fun vs H Q E h => ?_) (fun cdv A outer s H vs Q E hr h => ?_)
  · obtain ⟨q, a, n, os, dx, ad, kvs, st, m, S, rfl, _⟩ := h
    rfl
  · refine ⟨_, (pss_cons (ps_set (i := 3) sc_States_feed.nd rfl (Or.inl rfl) (pe_md T.c_States GP (hr.mono (by decide)) (passes_call (takes_of rfl rfl rfl rfl) (fun _ _ _ _ h => h)) (pv 0) (pa_cons (pv 1) pa_nil)))
  (pss_cons (ps_if (pt_cmpR op_gt (pe_op op_add (pe_fld (pv 3) rfl) (pe_callB call_len_seq (by rfl) T.len (by decide +kernel) (pa_cons (pv 2) pa_nil))) (pe_gI rfl T.MOST_TEXT) (nomark _)) (pss_one (ps_raise rfl (takes_of rfl rfl rfl rfl) (pmk_exd0 GL (hr.mono (by decide))))) pss_nil)
  (pss_cons (ps_expr (pe_md T.c_Packing GT (hr.mono (by decide)) pass0 (pv 3) (pa_cons (pv 2) pa_nil)))
  (pss_cons (ps_set (i := 4) sc_States_feed.nd rfl (Or.inl rfl) (pe_md0 T.c_Packing GG (hr.mono (by decide)) pass0 (pv 3)))
  (pss_one (ps_ret (pe_mkd GA (hr.mono (by decide)) pass0 (pa_cons (pe_callB call_len_seq (by rfl) T.len (by decide +kernel) (pa_cons (pv 4) pa_nil)) (pa_cons (pv 4) (pa_cons (pe_lst pa_nil) pa_nil)))))))))), ?_⟩
    obtain ⟨q, a, n, os, dx, ad, kvs, st, m, S, rfl, hA, hm, ha, hol, hT, ht⟩ := h
    have hbl : ∀ l : Sw.Bytes, (bytesV l).length = l.length := fun l => List.length_map ..
    refine ⟨_, rfl, q, dx, _, rfl, hA.hq, (lk_past (by decide +kernel)).trans rfl, _, rfl, q, n, dx, ad, kvs, st, m, S, rfl, hA, fun hn H' d hs hd => ?_, fun hn hs0 H' d hs hd => ?_, fun fd p hn hs hv hF => ?_⟩
    · rw [show Squeeze.step st (.feed n os) = (st, Squeeze.says (-1)) from if_pos (by show 4 ≤ n; omega)] at ht
      exact ht.2 (show (-1 : Int) < 0 by decide) H' d c.NoState (StP.stay hA ((FrE.refl hT).same hs)) T.r_NoState hd
    · rw [show Squeeze.step st (.feed n os) = (st, Squeeze.says (-3)) by
        unfold Squeeze.step
        dsimp only
        rw [if_neg (by show ¬ 4 ≤ n; omega), hs0]
        rfl] at ht
      exact ht.2 (show (-3 : Int) < 0 by decide) H' d c.NotBegun (StP.stay hA ((FrE.refl hT).same hs)) T.r_NotBegun hd
    have hstep : Squeeze.step st (.feed n os) = if 65536 < fd.text.length + os.length then (st, Squeeze.says (-2)) else (st.set n (some ⟨fd.text ++ os, true⟩), Squeeze.gives (Squeeze.fed fd os)) := by
      unfold Squeeze.step
      dsimp only
      rw [if_neg (by show ¬ 4 ≤ n; omega), hs]
      rfl
    rw [hstep] at ht
    obtain ⟨hPk, hfl⟩ := id hF
    obtain ⟨dxp, aw, au, ak, kv2, hPA⟩ := id hPk
    refine ⟨_, rfl, p, _, dxp, _, _, rfl, hPA.hp, T.c_Packing, T.n_Packing_size, pk_size, _, rfl, _, _, rfl, .inl (.inl (.inl ha)), _, _, rfl, rfl, _, _, rfl, rfl, _, rfl, ?_⟩
    rw [hbl]
    refine ite2 (fun h1 => ?_) (fun h1 => ?_)
    · have h1' : 65536 < fd.text.length + os.length := by
        have := of_decide_eq_true h1
        omega
      rw [if_pos h1'] at ht
      refine fun a2 ha2 => ⟨a2, rfl, upd_same, ex_done ha2 fun H' d hs hd => ?_⟩
      exact ht.2 (show (-2 : Int) < 0 by decide) H' d c.TooLong (StP.stay hA ((FrE.refl hT).same hs)) T.r_TooLong hd
    have h1' : ¬ 65536 < fd.text.length + os.length := fun z => h1 (decide_eq_true (by omega))
    rw [if_neg h1'] at ht
    have hup : (upOf fd).length ≤ 4 := by
      unfold upOf
      split
      · exact Nat.zero_le _
      · decide
    have hkn : kn fd.text ≤ 100 := by
      unfold kn
      omega
    refine ⟨_, rfl, p, dxp, _, rfl, hPA.hp, pk_meth (by decide +kernel), _, rfl, p, a, S n, _, _, _, _, os, rfl, hPk, ha, kn_rest _, by omega, by omega, by omega, hT, fun H1 S1 hP1 hM1 => ?_⟩
    obtain ⟨dx1, aw1, au1, ak1, kv1, hPA1⟩ := id hP1
    refine ⟨_, rfl, p, dx1, _, rfl, hPA1.hp, pk_meth (by decide +kernel), p, S1, _, _, _, _, rfl, hP1, hM1.tb, fun H2 S2 r hP2 hM2 hrS hrS2 hr2 => ?_⟩
    rw [wait_cat, kn_cat, List.drop_drop] at hP2
    have hF2 : FdAt c H2 S2 p ⟨fd.text ++ os, true⟩ := by
      refine ⟨?_, by show (fd.text ++ os).length ≤ _; rw [List.length_append]; omega⟩
      show Pk c.Packing H2 S2 p (fd.text ++ os).length (kn (fd.text ++ os)) ((fd.text ++ os).drop (1024 * kn (fd.text ++ os))) []
      rw [show 1024 * kn fd.text + 1024 * kn ((fd.text ++ os).drop (1024 * kn fd.text)) = 1024 * kn (fd.text ++ os) by rw [← kn_cat fd.text os]; omega] at hP2
      rw [List.length_append]
      exact hP2
    rw [← fed_eq] at hr2
    obtain ⟨hB, hM⟩ := hA.goes (by omega) hv (hM1.trans hM2) hF2
    have hSt : StP TT c q H (Ft q ad S) (st.set n (some ⟨fd.text ++ os, true⟩)) (m + 1) H2 := ⟨dx, ad, _, _, hB.more (Nat.le_succ m), hM⟩
    refine ⟨_, rfl, _, _, rfl, .inl (.inl (.inl hr2)), _, rfl, Nat.zero_le _, fun l hl0 => ?_⟩
    have hs3 := same_new (o := .lst []) hl0
    have hl3 : upd H2 l (.lst []) l = some (.lst (natsV [])) := upd_same
    generalize upd H2 l (.lst []) = H3 at hs3 hl3 ⊢
    refine fun y dy hy hdy hney => ⟨y, dy, _, _, _, rfl, upd_same, fun H4 hb4 hx4 => ⟨rfl, ?_⟩⟩
    have hs4 : Same H3 H4 := fun b' o hb' => hb4 b' o (ne_of_none hb' hy) (by rw [upd_ne (ne_of_none hb' hy), upd_ne (ne_of_none hb' hdy)]; exact hb')
    refine ht.1 rfl (Int.natCast_nonneg _) H4 y (hSt.same (hs3.trans hs4)) ⟨dy, r, l, ?_, hs4 _ _ (hs3 _ _ hr2), hs4 _ _ hl3⟩
    rw [hx4, hbl]
    rfl
theorem ok_end (T : Tx K mg c) (GP : Hm P w K mg base (L2.CX P w) 5 c.States "packing_of" ["self", "state"] (sp_packing_of c)) (GE : Hm P w K mg base CX0 8 c.Packing "add_end" ["self"] (sp_add_end TT c.Packing))
    (GG : Hm P w K mg base CX0 1 c.Packing "give" ["self"] (sp_give TT c.Packing)) (GA : Hc P w K mg base CX0 1 "Answer" c.Answer ["self", "number", "octets", "figures"] (sp_an_init c.Answer))
    (F : Fun K "end" "States.end" s_States_end f fd) : FnOk P w K mg base (L2.CX P w) 9 f fd ["self", "state"] (sp_st1 TT K c .end_) := by
  refine F.okX sc_States_end (fun vs H Q E h => ?_) (fun cdv A outer s H vs Q E hr h => ?_)
  · obtain ⟨q, n, dx, ad, kvs, st, m, S, rfl, _⟩ := h
    rfl
  · refine ⟨_, (pss_cons (ps_set (i := 2) sc_States_end.nd rfl (Or.inl rfl) (pe_md T.c_States GP (hr.mono (by decide)) (passes_call (takes_of rfl rfl rfl rfl) (fun _ _ _ _ h => h)) (pv 0) (pa_cons (pv 1) pa_nil)))
  (pss_cons (ps_expr (pe_dpop1 (pe_fld (pv 0) rfl) (pv 1) ⟨rfl, rfl, rfl, rfl⟩))
  (pss_cons (ps_expr (pe_md0 T.c_Packing GE (hr.mono (by decide)) pass0 (pv 2)))
  (pss_cons (ps_set (i := 3) sc_States_end.nd rfl (Or.inl rfl) (pe_md0 T.c_Packing GG (hr.mono (by decide)) pass0 (pv 2)))
  (pss_one (ps_ret (pe_mkd GA (hr.mono (by decide)) pass0 (pa_cons (pe_callB call_len_seq (by rfl) T.len (by decide +kernel) (pa_cons (pv 3) pa_nil)) (pa_cons (pv 3) (pa_cons (pe_lst pa_nil) pa_nil)))))))))), ?_⟩
    obtain ⟨q, n, dx, ad, kvs, st, m, S, rfl, hA, hm, hT, ht⟩ := h
    have hbl : ∀ l : Sw.Bytes, (bytesV l).length = l.length := fun l => List.length_map ..
    refine ⟨_, rfl, q, dx, _, rfl, hA.hq, (lk_past (by decide +kernel)).trans rfl, _, rfl, q, n, dx, ad, kvs, st, m, S, rfl, hA, fun hn H' d hs hd => ?_, fun hn hs0 H' d hs hd => ?_, fun fd p hn hs hv hF => ?_⟩
    · rw [show Squeeze.step st (.end_ n) = (st, Squeeze.says (-1)) from if_pos (by show 4 ≤ n; omega)] at ht
      exact ht.2 (show (-1 : Int) < 0 by decide) H' d c.NoState (StP.stay hA ((FrE.refl hT).same hs)) T.r_NoState hd
    · rw [show Squeeze.step st (.end_ n) = (st, Squeeze.says (-3)) by
        unfold Squeeze.step
        dsimp only
        rw [if_neg (by show ¬ 4 ≤ n; omega), hs0]
        rfl] at ht
      exact ht.2 (show (-3 : Int) < 0 by decide) H' d c.NotBegun (StP.stay hA ((FrE.refl hT).same hs)) T.r_NotBegun hd
    rw [show Squeeze.step st (.end_ n) = (st.set n none, Squeeze.gives (Squeeze.ended fd)) by
      unfold Squeeze.step
      dsimp only
      rw [if_neg (by show ¬ 4 ≤ n; omega), hs]
      rfl] at ht
    obtain ⟨hPk, hfl⟩ := id hF
    have hup : (upOf fd).length ≤ 4 := by
      unfold upOf
      split
      · exact Nat.zero_le _
      · decide
    have hkn : kn fd.text ≤ 100 := by
      unfold kn
      omega
    obtain ⟨hB, hM⟩ := hA.drop (n := n) (by omega) hT
    have hPk1 : Pk c.Packing (upd H ad (.dK (dropK kvs (Sum.inl (n : Int))))) (S n) p fd.text.length (kn fd.text) (fd.text.drop (1024 * kn fd.text)) (upOf fd) := hPk.keep fun b o hb h1 _ => by rw [upd_ne (hA.off n b hb).2]; exact h1
    refine ⟨_, rfl, q, _, dx, _, _, rfl, hA.hq, T.c_States, T.n_States_packings, lk_here, ad, rfl, .inl ⟨_, .inl hA.hd⟩, _, rfl, kvs, Sum.inl (n : Int), _, hA.hd, rfl, hv, ?_⟩
    have hoff : ∀ b, Ft q ad (putS S n fun _ => False) b → ¬ S n b := fun b hb h2 => by
      rcases hb with rfl | rfl | ⟨i, hb⟩
      · exact (hA.off n _ h2).1 rfl
      · exact (hA.off n _ h2).2 rfl
      · rcases hb with ⟨_, hb⟩ | ⟨hi0, hb⟩
        · exact hb
        · exact hA.sep i n b hi0 hb h2
    generalize upd H ad (.dK (dropK kvs (Sum.inl (n : Int)))) = H1 at hB hM hPk1 ⊢
    obtain ⟨dx1, aw1, au1, ak1, kv1, hPA1⟩ := id hPk1
    refine ⟨_, rfl, p, dx1, _, rfl, hPA1.hp, pk_meth (by decide +kernel), p, S n, _, _, _, _, rfl, hPk1, kn_rest _, by omega, by omega, hM.tb, fun H2 S2 m2 hP2 hM2 => ?_⟩
    obtain ⟨dx2, aw2, au2, ak2, kv2, hPA2⟩ := id hP2
    refine ⟨_, rfl, p, dx2, _, rfl, hPA2.hp, pk_meth (by decide +kernel), p, S2, _, _, _, _, rfl, hP2, hM2.tb, fun H3 S3 r hP3 hM3 hrS hrS3 hr3 => ?_⟩
    rw [← ended_eq] at hr3
    have hM13 := hM2.trans hM3
    have hSt : StP TT c q H (Ft q ad S) (st.set n none) (m + 1) H3 := by
      refine ⟨dx, ad, _, _, (hB.keep fun b o hb h1 hn2 => hM13.get h1 hn2 (hoff b hb)).more (Nat.le_succ m), ?_⟩
      refine ⟨fun b o hb e hn2 => ?_, fun b hb => hM.gr b hb, hM13.tb⟩
      have h1 := hM.fr b o hb e hn2
      exact hM13.get h1 hn2 (fun z => hb (.inr (.inr ⟨n, z⟩)))
    refine ⟨_, rfl, _, _, rfl, .inl (.inl (.inl hr3)), _, rfl, Nat.zero_le _, fun l hl0 => ?_⟩
    have hs4 := same_new (o := .lst []) hl0
    have hl4 : upd H3 l (.lst []) l = some (.lst (natsV [])) := upd_same
    generalize upd H3 l (.lst []) = H4 at hs4 hl4 ⊢
    refine fun y dy hy hdy hney => ⟨y, dy, _, _, _, rfl, upd_same, fun H5 hb5 hx5 => ⟨rfl, ?_⟩⟩
    have hs5 : Same H4 H5 := fun b' o hb' => hb5 b' o (ne_of_none hb' hy) (by rw [upd_ne (ne_of_none hb' hy), upd_ne (ne_of_none hb' hdy)]; exact hb')
    refine ht.1 rfl (Int.natCast_nonneg _) H5 y (hSt.same (hs4.trans hs5)) ⟨dy, r, l, ?_, hs5 _ _ (hs4 _ _ hr3), hs5 _ _ hl4⟩
    rw [hx5, hbl]
    rfl
end
end Sq
end
section
set_option Elab.async false
set_option maxRecDepth 100000
set_option maxHeartbeats 2000000
/-! what's handed in; the machine. -/
namespace Sq
open PySem PySem.Spec PyProof.Rows L2 SqX LamX
def hdF (al : Addr) (k : Nat) : List (Str × V) := [("numbers", .ref al), ("reached", .int k)]
theorem hd_numbers {al k} : (hdF al k).lookup ("numbers" : Str) = some (.ref al) := lk_here
theorem hd_reached {al k} : (hdF al k).lookup ("reached" : Str) = some (.int k) := (lk_past (by decide +kernel)).trans lk_here
theorem hd_put {al k} {n : Nat} : putF "reached" (.int n) (hdF al k) = hdF al n := (put_past (by decide +kernel)).trans (congrArg _ put_here)
theorem hd_meth {al k} {m : Str} (h1 : (m == ("numbers" : Str)) = false) (h2 : (m == ("reached" : Str)) = false) : (hdF al k).lookup m = none := (lk_past h1).trans ((lk_past h2).trans rfl)
def sp_hd_init (C : Addr) : Sp := fun vs H Q _ => ∃ (p dx al : Addr), vs = [.ref p, .ref al] ∧ H p = some (.ins C dx []) ∧ ∀ H', SameBut p H H' → H' p = some (.ins C dx (hdF al 0)) → Q .non H'
def sp_hd_more (K : PySem.W.Frag) (C : Addr) : Sp := fun vs H Q _ => ∃ (p dx al : Addr) (nums : List Int) (k : Nat), vs = [.ref p] ∧ H p = some (.ins C dx (hdF al k)) ∧ SqL K H al (nums.map V.int) ∧ Q (.bl (decide (k < nums.length))) H
def sp_hd_take (K : PySem.W.Frag) (C : Addr) : Sp := fun vs H Q _ => ∃ (p dx al : Addr) (nums : List Int) (k : Nat) (v : Int), vs = [.ref p] ∧ H p = some (.ins C dx (hdF al k)) ∧ SqL K H al (nums.map V.int) ∧ nums[k]? = some v ∧ k ≤ 1000000 ∧
  ∀ H', SameBut p H H' → H' p = some (.ins C dx (hdF al (k + 1))) → Q (.int v) H'
def sp_hd_row (K : PySem.W.Frag) (C : Addr) : Sp := fun vs H Q _ => ∃ (p dx al : Addr) (nums : List Int) (k n : Nat), vs = [.ref p] ∧ H p = some (.ins C dx (hdF al k)) ∧ SqL K H al (nums.map V.int) ∧ nums[k]? = some (n : Int) ∧ k ≤ 1000000 ∧
  ∀ H' z, SameBut p H H' → H' p = some (.ins C dx (hdF al (k + 1 + n))) → H z = none → z ≠ p → H' z = some (.lst (((nums.drop (k + 1)).take n).map V.int)) → Q (.ref z) H'
section
variable {P : Program} {w : World} {K : PySem.W.Frag} {mg : Str → Option Value} {base : Heap} {c : CA} {f fi : Addr} {fd fdi : FuncData} {TT : List (Addr × Str)}
theorem ok_Handed_init (T : Tx K mg c) (F : Fun K "__init__" "Handed.__init__" s_Handed_init f fd) : FnOk P w K mg base CX0 1 f fd ["self", "numbers"] (sp_hd_init c.Handed) := by
  refine F.ok sc_Handed_init (fun vs H Q E h => ?_) (fun cdv A outer s H vs Q E hr h => ?_)
  · obtain ⟨p, dx, al, rfl, _⟩ := h
    rfl
  · refine ⟨_, (pss_cons (ps_fld (pv 0) (pv 1) rfl)
  (pss_one (ps_fld (pv 0) pe_int rfl))), ?_⟩
    obtain ⟨p, dx, al, rfl, hp, q⟩ := h
    refine ⟨_, rfl, _, rfl, p, _, dx, _, rfl, hp, T.c_Handed, T.n_Handed_numbers, (by show 0 < 1000; decide), ?_⟩
    rw [show putF ("numbers" : Str) (V.ref al) ([] : List (Str × V)) = ([("numbers", V.ref al)] : List (Str × V)) from put_new ([] : List Str) rfl (by decide +kernel)]
    refine ⟨_, rfl, p, _, dx, _, rfl, upd_same, T.c_Handed, T.n_Handed_reached, (by show 1 < 1000; decide), ?_⟩
    rw [upd_upd, show putF ("reached" : Str) (V.int 0) ([("numbers", V.ref al)] : List (Str × V)) = hdF al 0 from put_new (["numbers"] : List Str) rfl (by decide +kernel)]
    exact q _ (SameBut.put (SameBut.refl _ _)) upd_same
theorem ok_has_more (T : Tx K mg c) (F : Fun K "has_more" "Handed.has_more" s_Handed_has_more f fd) : FnOk P w K mg base CX0 1 f fd ["self"] (sp_hd_more K c.Handed) := by
  refine F.ok sc_Handed_has_more (fun vs H Q E h => ?_) (fun cdv A outer s H vs Q E hr h => ?_)
  · obtain ⟨p, dx, al, nums, k, rfl, _⟩ := h
    rfl
  · refine ⟨_, (pss_one (ps_ret (pe_cmpR op_lt (pe_fld (pv 0) rfl) (pe_callB call_len_seq (by rfl) T.len (by decide +kernel) (pa_cons (pe_fld (pv 0) rfl) pa_nil)) (nomark _)))), ?_⟩
    obtain ⟨p, dx, al, nums, k, rfl, hp, hS, q⟩ := h
    refine ⟨_, rfl, p, _, dx, _, _, rfl, hp, T.c_Handed, T.n_Handed_reached, hd_reached, _, rfl, p, _, dx, _, _, rfl, hp, T.c_Handed, T.n_Handed_numbers, hd_numbers, _, _, rfl, .inl hS, _, _, rfl, rfl, ?_⟩
    rw [List.length_map]
    dsimp only
    rw [show decide (((k : Nat) : Int) < ((nums.length : Nat) : Int)) = decide (k < nums.length) by
      rw [Bool.eq_iff_iff, decide_eq_true_iff, decide_eq_true_iff]
      omega]
    exact q
theorem ok_take (T : Tx K mg c) (F : Fun K "take" "Handed.take" s_Handed_take f fd) : FnOk P w K mg base CX0 1 f fd ["self"] (sp_hd_take K c.Handed) := by
  refine F.ok sc_Handed_take (fun vs H Q E h => ?_) (fun cdv A outer s H vs Q E hr h => ?_)
  · obtain ⟨p, dx, al, nums, k, v, rfl, _⟩ := h
    rfl
  · refine ⟨_, (pss_cons (ps_fldaug (pv 0) pe_int in_add)
  (pss_one (ps_ret (pe_ix (ix_list : IxR _ (rIxL K)) (pe_fld (pv 0) rfl) (pe_op op_sub (pe_fld (pv 0) rfl) pe_int) (fun _ _ => rfl))))), ?_⟩
    obtain ⟨p, dx, al, nums, k, v, rfl, hp, hS, hv, hk, q⟩ := h
    refine ⟨_, rfl, p, _, dx, _, _, rfl, hp, T.c_Handed, T.n_Handed_reached, hd_reached, _, _, rfl, rfl, dx, _, hp, (by show 2 < 1000; decide), ?_⟩
    rw [show ((k : Nat) : Int) + 1 = ((k + 1 : Nat) : Int) by omega, hd_put]
    have hs1 : SameBut p H (upd H p (.ins c.Handed dx (hdF al (k + 1)))) := SameBut.put (SameBut.refl _ _)
    have hp1 : upd H p (.ins c.Handed dx (hdF al (k + 1))) p = some (.ins c.Handed dx (hdF al (k + 1))) := upd_same
    generalize upd H p (.ins c.Handed dx (hdF al (k + 1))) = H1 at hs1 hp1 ⊢
    have hS1 := sqL_but hs1 hp hS
    refine ⟨_, rfl, p, _, dx, _, _, rfl, hp1, T.c_Handed, T.n_Handed_numbers, hd_numbers, _, rfl, p, _, dx, _, _, rfl, hp1, T.c_Handed, T.n_Handed_reached, hd_reached, _, _, rfl, rfl, ?_⟩
    refine ⟨al, _, _, _, rfl, rfl, hS1, at_of (j := k) ?_ ?_, q H1 hs1 hp1⟩
    · omega
    · rw [List.getElem?_map, hv]
      rfl
theorem ok_take_row (T : Tx K mg c) (GT : Hm P w K mg base CX0 1 c.Handed "take" ["self"] (sp_hd_take K c.Handed)) (F : Fun K "take_row" "Handed.take_row" s_Handed_take_row f fd) : FnOk P w K mg base CX0 2 f fd ["self"] (sp_hd_row K c.Handed) := by
  refine F.ok sc_Handed_take_row (fun vs H Q E h => ?_) (fun cdv A outer s H vs Q E hr h => ?_)
  · obtain ⟨p, dx, al, nums, k, n, rfl, _⟩ := h
    rfl
  · refine ⟨_, (pss_cons (ps_set (i := 1) sc_Handed_take_row.nd rfl (Or.inl rfl) (pe_md0 T.c_Handed GT (hr.mono (by decide)) pass0 (pv 0)))
  (pss_cons (ps_fldaug (pv 0) (pv 1) in_add)
  (pss_one (ps_ret (pe_slice sl_list (pe_fld (pv 0) rfl) (po_some (pe_op op_sub (pe_fld (pv 0) rfl) (pv 1))) (po_some (pe_fld (pv 0) rfl))))))), ?_⟩
    obtain ⟨p, dx, al, nums, k, n, rfl, hp, hS, hv, hk, q⟩ := h
    refine ⟨_, rfl, p, dx, _, rfl, hp, hd_meth (by decide +kernel) (by decide +kernel), p, dx, al, nums, k, n, rfl, hp, hS, hv, hk, fun H1 hs1 hp1 => ?_⟩
    have hS1 := sqL_but hs1 hp hS
    refine ⟨_, rfl, p, _, dx, _, _, rfl, hp1, T.c_Handed, T.n_Handed_reached, hd_reached, _, rfl, _, _, rfl, rfl, dx, _, hp1, (by show 2 < 1000; decide), ?_⟩
    rw [show ((k + 1 : Nat) : Int) + ((n : Nat) : Int) = ((k + 1 + n : Nat) : Int) by omega, hd_put]
    have hs2 : SameBut p H (upd H1 p (.ins c.Handed dx (hdF al (k + 1 + n)))) := SameBut.put hs1
    have hp2 : upd H1 p (.ins c.Handed dx (hdF al (k + 1 + n))) p = some (.ins c.Handed dx (hdF al (k + 1 + n))) := upd_same
    generalize upd H1 p (.ins c.Handed dx (hdF al (k + 1 + n))) = H2 at hs2 hp2 ⊢
    have hS2 := sqL_but hs2 hp hS
    refine ⟨_, rfl, p, _, dx, _, _, rfl, hp2, T.c_Handed, T.n_Handed_numbers, hd_numbers, _, rfl, p, _, dx, _, _, rfl, hp2, T.c_Handed, T.n_Handed_reached, hd_reached, _, rfl, _, _, rfl, rfl, _, rfl, _, rfl, p, _, dx, _, _, rfl, hp2, T.c_Handed, T.n_Handed_reached, hd_reached, _, rfl, _, _, rfl, hS2, fun z hz => ?_⟩
    have hzp : z ≠ p := fun y => by rw [y, hp2] at hz; cases hz
    have ec : cutV (nums.map V.int) (some (((k + 1 + n : Nat) : Int) - ((n : Nat) : Int))) (some ((k + 1 + n : Nat) : Int)) = ((nums.drop (k + 1)).take n).map V.int := by
      rw [show ((k + 1 + n : Nat) : Int) - ((n : Nat) : Int) = ((k + 1 : Nat) : Int) by omega, cut_part _ _ _ (by omega), show k + 1 + n - (k + 1) = n by omega, List.map_take, List.map_drop]
    rw [ec]
    exact q _ z (hs2.trans (SameBut.of (same_new hz))) (by rw [upd_ne hzp.symm]; exact hp2) (hs2.free hzp hz) hzp upd_same
end
/-! ### the machine -/
def ArgA (K : PySem.W.Frag) (H : Hp) (G : Addr → Prop) (al : Addr) (xs : List V) : Prop := ((H al = some (.lst xs) ∨ ∃ o, H al = some (.frz o (.lst xs))) ∧ ¬ G al) ∨ ∀ H', SqL K H' al xs
theorem ArgA.sq {K : PySem.W.Frag} {H : Hp} {G : Addr → Prop} {al : Addr} {xs : List V} (h : ArgA K H G al xs) : SqL K H al xs := by
  rcases h with ⟨h | h, _⟩ | h
  · exact .inl (.inl h)
  · exact .inl (.inr h)
  · exact h H
theorem ArgA.move {TT : List (Addr × Str)} {K : PySem.W.Frag} {H H' : Hp} {G G' : Addr → Prop} {al : Addr} {xs : List V} (h : ArgA K H G al xs) (m : Mv TT G G' H H') : ArgA K H' G' al xs := by
  rcases h with ⟨h | ⟨o, h⟩, hn⟩ | h
  · exact .inl ⟨.inl (m.get h (by intro ps z; cases z) hn), m.own ⟨_, h, by intro ps z; cases z⟩ hn⟩
  · exact .inl ⟨.inr ⟨o, m.get h (by intro ps z; cases z) hn⟩, m.own ⟨_, h, by intro ps z; cases z⟩ hn⟩
  · exact .inr h
structure Ma (TT : List (Addr × Str)) (c : CA) (K : PySem.W.Frag) (H : Hp) (ph q al : Addr) (nums : List Int) (k : Nat) (st : Squeeze.State) (m : Nat) (G : Addr → Prop) (dh dx ad : Addr) (kvs : List (Key × V)) (S : Nat → Addr → Prop) : Prop where
  hh : H ph = some (.ins c.Handed dh (hdF al k))
  sa : StA c H q dx ad kvs st m S
  off : ¬ Ft q ad S ph
  hG : G = fun b => b = ph ∨ Ft q ad S b
  arg : ArgA K H G al (nums.map V.int)
  tb : Tabs TT H
/-- behind it the machine stands so -/
def MaP (TT : List (Addr × Str)) (c : CA) (K : PySem.W.Frag) (ph q al : Addr) (nums : List Int) (H : Hp) (G : Addr → Prop) (k' : Nat) (s' : Squeeze.State) (m' : Nat) (H' : Hp) : Prop := ∃ G' dh dx ad kvs S, Ma TT c K H' ph q al nums k' s' m' G' dh dx ad kvs S ∧ Mv TT G G' H H'
section
variable {TT : List (Addr × Str)} {c : CA} {K : PySem.W.Frag} {H H' H2 : Hp} {ph q al : Addr} {nums : List Int} {k k' m m' : Nat} {st s' : Squeeze.State} {G : Addr → Prop} {dh dx ad : Addr} {kvs : List (Key × V)} {S : Nat → Addr → Prop}
theorem Ma.mv (M : Ma TT c K H ph q al nums k st m G dh dx ad kvs S) (hs : SameBut ph H H') : Mv TT G G H H' :=
  ⟨fun b o hb e hn => hs b o (fun z => hb (by rw [M.hG]; exact .inl z)) e, fun b hb => .inl hb, Tabs.but M.tb M.hh (plain_ins _ _ _) hs⟩
/-- numbers taken -/
theorem Ma.took (M : Ma TT c K H ph q al nums k st m G dh dx ad kvs S) (hs : SameBut ph H H') (hh : H' ph = some (.ins c.Handed dh (hdF al k'))) : Ma TT c K H' ph q al nums k' st m G dh dx ad kvs S :=
  ⟨hh, M.sa.keep fun b o hb h1 hn => hs b o (fun z => M.off (z ▸ hb)) h1, M.off, M.hG, M.arg.move (M.mv hs), Tabs.but M.tb M.hh (plain_ins _ _ _) hs⟩
theorem Ma.ext (M : Ma TT c K H ph q al nums k st m G dh dx ad kvs S) (e : FrE TT H H') : Ma TT c K H' ph q al nums k st m G dh dx ad kvs S :=
  ⟨e.1 _ _ M.hh (by intro ps z; cases z), M.sa.ext e.1, M.off, M.hG, M.arg.move (Mv.ext e.1 e.2), e.2⟩
theorem Ma.more (M : Ma TT c K H ph q al nums k st m G dh dx ad kvs S) (h : m ≤ m') : Ma TT c K H ph q al nums k st m' G dh dx ad kvs S := { M with sa := M.sa.more h }
/-- a call without a state -/
theorem Ma.calm (M : Ma TT c K H ph q al nums k st m G dh dx ad kvs S) (mv : Mv TT G G H2 H) (e : FrE TT H H') : MaP TT c K ph q al nums H2 G k st (m + 1) H' :=
  ⟨G, dh, dx, ad, kvs, S, (M.ext e).more (Nat.le_succ m), mv.trans (Mv.ext e.1 e.2)⟩
/-- a call with a state -/
theorem Ma.went (M : Ma TT c K H ph q al nums k st m G dh dx ad kvs S) (mv : Mv TT G G H2 H) (p : StP TT c q H (Ft q ad S) s' m' H') : MaP TT c K ph q al nums H2 G k s' m' H' := by
  obtain ⟨dx', ad', kvs', S', hA, hM⟩ := p
  have hoff := hM.own ⟨_, M.hh, by intro ps z; cases z⟩ M.off
  have hM2 : Mv TT G (fun b => b = ph ∨ Ft q ad' S' b) H H' := by
    refine ⟨fun b o hb e hn => hM.fr b o (fun z => hb (by rw [M.hG]; exact .inr z)) e hn, fun b hb => ?_, hM.tb⟩
    rw [M.hG]
    rcases hb with rfl | hb
    · exact .inl (.inl rfl)
    · rcases hM.gr b hb with h | h
      · exact .inl (.inr h)
      · exact .inr h
  exact ⟨_, dh, dx', ad', kvs', S', ⟨hM.get M.hh (by intro ps z; cases z) M.off, hA, hoff, rfl, M.arg.move hM2, hM.tb⟩, mv.trans hM2⟩
end
end Sq
end
section
set_option Elab.async false
set_option maxRecDepth 100000
set_option maxHeartbeats 2000000
/-! the next call answered. -/
namespace Sq
open PySem PySem.Spec PyProof.Rows L2 SqX LamX
theorem TellsG.mono {K : PySem.W.Frag} {c : CA} {Q : VK} {E : XK} {P P' : Hp → Prop} {a : Squeeze.Answer} (t : TellsG K c Q E P' a) (h : ∀ H', P H' → P' H') : TellsG K c Q E P a :=
  ⟨fun h1 h2 H' r hp ha => t.1 h1 h2 H' r (h H' hp) ha, fun h1 H' d C hp hm hd => t.2 h1 H' d C (h H' hp) hm hd⟩
theorem Tells.g {TT : List (Addr × Str)} {K : PySem.W.Frag} {c : CA} {H : Hp} {Q : VK} {E : XK} {a : Squeeze.Answer} (t : TellsG K c Q E (FrE TT H) a) : Tells TT K c H Q E a := t
def bints (bs : Sw.Bytes) : List Int := bs.map fun c => (c.toNat : Int)
def nints (o : List Nat) : List Int := o.map fun (n : Nat) => (n : Int)
theorem bints_V (bs : Sw.Bytes) : (bints bs).map V.int = bytesV bs := by
  unfold bints bytesV
  rw [List.map_map]
  rfl
theorem nints_V (o : List Nat) : (nints o).map V.int = natsV o := by
  unfold nints natsV
  rw [List.map_map]
  rfl
theorem bints_len (bs : Sw.Bytes) : (bints bs).length = bs.length := List.length_map ..
theorem nints_len (o : List Nat) : (nints o).length = o.length := List.length_map ..
/-- a call's numbers -/
inductive CallAt : List Int → Squeeze.Call → Prop
  | pack (bs : Sw.Bytes) : bs.length ≤ 30000 → CallAt (0 :: (bs.length : Int) :: bints bs) (.pack bs)
  | unpack (bs : Sw.Bytes) : bs.length ≤ 30000 → CallAt (1 :: (bs.length : Int) :: bints bs) (.unpack bs)
  | at_ (f n : Nat) (bs : Sw.Bytes) : bs.length ≤ 30000 → CallAt (2 :: (f : Int) :: (n : Int) :: (bs.length : Int) :: bints bs) (.at_ bs f n)
  | judge (bs : Sw.Bytes) : bs.length ≤ 30000 → CallAt (3 :: (bs.length : Int) :: bints bs) (.judge bs)
  | length (bs : Sw.Bytes) : bs.length ≤ 30000 → CallAt (4 :: (bs.length : Int) :: bints bs) (.length bs)
  | parse (bs : Sw.Bytes) : bs.length ≤ 30000 → CallAt (5 :: (bs.length : Int) :: bints bs) (.parse bs)
  | lengths (o : List Nat) : o.length ≤ 30000 → CallAt (6 :: (o.length : Int) :: nints o) (.lengths o)
  | begin_ (n : Nat) : CallAt [7, (n : Int)] (.begin_ n)
  | feed (n : Nat) (bs : Sw.Bytes) : bs.length ≤ 30000 → CallAt (8 :: (n : Int) :: (bs.length : Int) :: bints bs) (.feed n bs)
  | end_ (n : Nat) : CallAt [9, (n : Int)] (.end_ n)
/-- a call handed nothing but a row, the row being at z -/
inductive RowAt (H : Hp) (z : Addr) : Nat → Squeeze.Answer → Prop
  | pack (bs : Sw.Bytes) : bs.length ≤ 30000 → H z = some (.lst (bytesV bs)) → RowAt H z 0 (ansPack bs)
  | unpack (bs : Sw.Bytes) : bs.length ≤ 30000 → H z = some (.lst (bytesV bs)) → RowAt H z 1 (ansUnpack bs)
  | judge (bs : Sw.Bytes) : bs.length ≤ 30000 → H z = some (.lst (bytesV bs)) → RowAt H z 3 (ansJudge bs)
  | length (bs : Sw.Bytes) : bs.length ≤ 30000 → H z = some (.lst (bytesV bs)) → RowAt H z 4 (ansLength bs)
  | parse (bs : Sw.Bytes) : bs.length ≤ 30000 → H z = some (.lst (bytesV bs)) → RowAt H z 5 (ansParse bs)
  | lengths (o : List Nat) : o.length ≤ 30000 → H z = some (.lst (natsV o)) → RowAt H z 6 (ansCode o)
def sp_answer_row (TT : List (Addr × Str)) (K : PySem.W.Frag) (c : CA) : Sp := fun vs H Q E => ∃ (n : Nat) (z : Addr) (a : Squeeze.Answer), vs = [.int n, .ref z] ∧ RowAt H z n a ∧ Tabs TT H ∧ Tells TT K c H Q E a
theorem dec_nat (a b : Nat) : decide (V.int (a : Nat) = V.int (b : Nat)) = decide (a = b) := by
  rw [dec_int, Bool.eq_iff_iff]
  simp
  omega
theorem ps_dead {X : Cx} {st : Stmt} : PS X st (fun _ _ _ => False) := ⟨fun pins s σ H D I h => h.elim⟩
section
variable {P : Program} {w : World} {K : PySem.W.Frag} {mg : Str → Option Value} {base : Heap} {c : CA} {f fi : Addr} {fd fdi : FuncData} {TT : List (Addr × Str)}
theorem ok_answer_row (T : Tx K mg c) (G0 : Hd P w K mg base (L2.CX P w) 10 "pack" ["text"] (sp_row TT K c ansPack)) (G1 : Hd P w K mg base (L2.CX P w) 11 "unpack" ["row"] (sp_row TT K c ansUnpack)) (G3 : Hd P w K mg base (L2.CX P w) 11 "judge" ["row"] (sp_row TT K c ansJudge))
    (G4 : Hd P w K mg base (L2.CX P w) 10 "tell_length" ["row"] (sp_row TT K c ansLength)) (G5 : Hd P w K mg base (L2.CX P w) 5 "tell_parse" ["text"] (sp_row TT K c ansParse)) (G6 : Hd P w K mg base (L2.CX P w) 5 "tell_code" ["often"] (sp_often TT K c ansCode))
    (F : Fun K "answer_row" "answer_row" s_answer_row f fd) : FnOk P w K mg base (L2.CX P w) 12 f fd ["call", "row"] (sp_answer_row TT K c) := by
  refine F.okX sc_answer_row (fun vs H Q E h => ?_) (fun cdv A outer s H vs Q E hr h => ?_)
  · obtain ⟨n, z, a, rfl, _⟩ := h
    rfl
  · refine ⟨_, (pss_cons (ps_if (pt_cmpR op_eq (pv 0) (pe_gI rfl T.PACK) (nomark _)) (pss_one (ps_ret (pe_cd G0 (hr.mono (by decide)) (passes_call (takes_of rfl rfl rfl rfl) (fun _ _ _ _ h => h)) (pa_cons (pv 1) pa_nil)))) pss_nil)
  (pss_cons (ps_if (pt_cmpR op_eq (pv 0) (pe_gI rfl T.UNPACK) (nomark _)) (pss_one (ps_ret (pe_cd G1 (hr.mono (by decide)) (passes_call (takes_of rfl rfl rfl rfl) (fun _ _ _ _ h => h)) (pa_cons (pv 1) pa_nil)))) pss_nil)
  (pss_cons (ps_if (pt_cmpR op_eq (pv 0) (pe_gI rfl T.JUDGE) (nomark _)) (pss_one (ps_ret (pe_cd G3 (hr.mono (by decide)) (passes_call (takes_of rfl rfl rfl rfl) (fun _ _ _ _ h => h)) (pa_cons (pv 1) pa_nil)))) pss_nil)
  (pss_cons (ps_if (pt_cmpR op_eq (pv 0) (pe_gI rfl T.LENGTH) (nomark _)) (pss_one (ps_ret (pe_cd G4 (hr.mono (by decide)) (passes_call (takes_of rfl rfl rfl rfl) (fun _ _ _ _ h => h)) (pa_cons (pv 1) pa_nil)))) pss_nil)
  (pss_cons (ps_if (pt_cmpR op_eq (pv 0) (pe_gI rfl T.PARSE) (nomark _)) (pss_one (ps_ret (pe_cd G5 (hr.mono (by decide)) (passes_call (takes_of rfl rfl rfl rfl) (fun _ _ _ _ h => h)) (pa_cons (pv 1) pa_nil)))) pss_nil)
  (pss_cons (ps_if (pt_cmpR op_eq (pv 0) (pe_gI rfl T.LENGTHS) (nomark _)) (pss_one (ps_ret (pe_cd G6 (hr.mono (by decide)) (passes_call (takes_of rfl rfl rfl rfl) (fun _ _ _ _ h => h)) (pa_cons (pv 1) pa_nil)))) pss_nil)
  (pss_one ps_dead))))))), ?_⟩
    obtain ⟨n, z, a, rfl, hR, hT, ht⟩ := h
    cases hR with
    | pack bs hl hz => exact ⟨_, rfl, rfl, _, rfl, iteT ⟨_, rfl, z, bs, rfl, hz, hl, hT, ht⟩⟩
    | unpack bs hl hz => exact ⟨_, rfl, rfl, _, rfl, iteF ⟨_, rfl, rfl, _, rfl, iteT ⟨_, rfl, z, bs, rfl, hz, hl, hT, ht⟩⟩⟩
    | judge bs hl hz => exact ⟨_, rfl, rfl, _, rfl, iteF ⟨_, rfl, rfl, _, rfl, iteF ⟨_, rfl, rfl, _, rfl, iteT ⟨_, rfl, z, bs, rfl, hz, hl, hT, ht⟩⟩⟩⟩
    | length bs hl hz => exact ⟨_, rfl, rfl, _, rfl, iteF ⟨_, rfl, rfl, _, rfl, iteF ⟨_, rfl, rfl, _, rfl, iteF ⟨_, rfl, rfl, _, rfl, iteT ⟨_, rfl, z, bs, rfl, hz, hl, hT, ht⟩⟩⟩⟩⟩
    | parse bs hl hz => exact ⟨_, rfl, rfl, _, rfl, iteF ⟨_, rfl, rfl, _, rfl, iteF ⟨_, rfl, rfl, _, rfl, iteF ⟨_, rfl, rfl, _, rfl, iteF ⟨_, rfl, rfl, _, rfl, iteT ⟨_, rfl, z, bs, rfl, hz, hl, hT, ht⟩⟩⟩⟩⟩⟩
    | lengths o hl hz => exact ⟨_, rfl, rfl, _, rfl, iteF ⟨_, rfl, rfl, _, rfl, iteF ⟨_, rfl, rfl, _, rfl, iteF ⟨_, rfl, rfl, _, rfl, iteF ⟨_, rfl, rfl, _, rfl, iteF ⟨_, rfl, rfl, _, rfl, iteT ⟨_, rfl, z, o, rfl, hz, hl, hT, ht⟩⟩⟩⟩⟩⟩⟩
end
end Sq
end
section
set_option Elab.async false
set_option maxRecDepth 100000
set_option maxHeartbeats 2000000
/-! the next call answered: the machine. -/
namespace Sq
open PySem PySem.Spec PyProof.Rows L2 SqX LamX
theorem drop_one {α : Type} {l : List α} {k : Nat} {x : α} {xs : List α} (h : l.drop k = x :: xs) : l[k]? = some x ∧ l.drop (k + 1) = xs := by
  have e := congrArg List.head? h
  rw [List.head?_drop] at e
  refine ⟨e, ?_⟩
  have e2 := congrArg List.tail h
  rw [List.tail_drop] at e2
  exact e2
theorem row_V {nums : List Int} {k n : Nat} {xs rest : List Int} (h : nums.drop k = xs ++ rest) (hn : xs.length = n) : ((nums.drop k).take n).map V.int = xs.map V.int := by
  rw [h, List.take_append_of_le_length (by omega), List.take_of_length_le (by omega)]
def sp_answer_next (TT : List (Addr × Str)) (K : PySem.W.Frag) (c : CA) : Sp := fun vs H Q E => ∃ (ph q al : Addr) (nums : List Int) (k : Nat) (l : List Int) (cl : Squeeze.Call) (rest : List Int) (G : Addr → Prop) (dh dx ad : Addr) (kvs : List (Key × V)) (st : Squeeze.State) (m : Nat) (S : Nat → Addr → Prop), vs = [.ref ph, .ref q] ∧
  Ma TT c K H ph q al nums k st m G dh dx ad kvs S ∧ nums.drop k = l ++ rest ∧ CallAt l cl ∧ k ≤ 100000 ∧ m ≤ 1000 ∧ TellsG K c Q E (MaP TT c K ph q al nums H G (k + l.length) (Squeeze.step st cl).1 (m + 1)) (Squeeze.step st cl).2
section
variable {P : Program} {w : World} {K : PySem.W.Frag} {mg : Str → Option Value} {base : Heap} {c : CA} {f fi : Addr} {fd fdi : FuncData} {TT : List (Addr × Str)}
theorem ok_answer_next (T : Tx K mg c) (GT : Hm P w K mg base CX0 1 c.Handed "take" ["self"] (sp_hd_take K c.Handed)) (GW : Hm P w K mg base CX0 2 c.Handed "take_row" ["self"] (sp_hd_row K c.Handed)) (GAt : Hd P w K mg base (L2.CX P w) 10 "read_at" ["row", "start", "n"] (sp_read_at TT K c ansAt))
    (GB : Hm P w K mg base (L2.CX P w) 5 c.States "begin" ["self", "state"] (sp_st1 TT K c .begin_)) (GF : Hm P w K mg base (L2.CX P w) 9 c.States "feed" ["self", "state", "octets"] (sp_feed TT K c)) (GE : Hm P w K mg base (L2.CX P w) 9 c.States "end" ["self", "state"] (sp_st1 TT K c .end_))
    (GR : Hd P w K mg base (L2.CX P w) 12 "answer_row" ["call", "row"] (sp_answer_row TT K c)) (F : Fun K "answer_next" "answer_next" s_answer_next f fd) : FnOk P w K mg base (L2.CX P w) 13 f fd ["handed", "states"] (sp_answer_next TT K c) := by
  refine F.okX sc_answer_next (fun vs H Q E h => ?_) (fun cdv A outer s H vs Q E hr h => ?_)
  · obtain ⟨ph, q, al, nums, k, l, cl, rest, G, dh, dx, ad, kvs, st, m, S, rfl, _⟩ := h
    rfl
  · refine ⟨_, (pss_cons (ps_set (i := 2) sc_answer_next.nd rfl (Or.inl rfl) (pe_md0 T.c_Handed GT (hr.mono (by decide)) pass0 (pv 0)))
  (pss_cons (ps_if (pt_cmpR op_eq (pv 2) (pe_gI rfl T.AT) (nomark _)) (pss_cons (ps_set (i := 3) sc_answer_next.nd rfl (Or.inl rfl) (pe_md0 T.c_Handed GT (hr.mono (by decide)) pass0 (pv 0)))
    (pss_cons (ps_set (i := 4) sc_answer_next.nd rfl (Or.inl rfl) (pe_md0 T.c_Handed GT (hr.mono (by decide)) pass0 (pv 0)))
    (pss_one (ps_ret (pe_cd GAt (hr.mono (by decide)) (passes_call (takes_of rfl rfl rfl rfl) (fun _ _ _ _ h => h)) (pa_cons (pe_md0 T.c_Handed GW (hr.mono (by decide)) pass0 (pv 0)) (pa_cons (pv 3) (pa_cons (pv 4) pa_nil)))))))) pss_nil)
  (pss_cons (ps_if (pt_cmpR op_eq (pv 2) (pe_gI rfl T.BEGIN) (nomark _)) (pss_one (ps_ret (pe_md T.c_States GB (hr.mono (by decide)) (passes_call (takes_of rfl rfl rfl rfl) (fun _ _ _ _ h => h)) (pv 1) (pa_cons (pe_md0 T.c_Handed GT (hr.mono (by decide)) pass0 (pv 0)) pa_nil)))) pss_nil)
  (pss_cons (ps_if (pt_cmpR op_eq (pv 2) (pe_gI rfl T.FEED) (nomark _)) (pss_cons (ps_set (i := 5) sc_answer_next.nd rfl (Or.inl rfl) (pe_md0 T.c_Handed GT (hr.mono (by decide)) pass0 (pv 0)))
    (pss_one (ps_ret (pe_md T.c_States GF (hr.mono (by decide)) (passes_call (takes_of rfl rfl rfl rfl) (fun _ _ _ _ h => h)) (pv 1) (pa_cons (pv 5) (pa_cons (pe_md0 T.c_Handed GW (hr.mono (by decide)) pass0 (pv 0)) pa_nil)))))) pss_nil)
  (pss_cons (ps_if (pt_cmpR op_eq (pv 2) (pe_gI rfl T.END) (nomark _)) (pss_one (ps_ret (pe_md T.c_States GE (hr.mono (by decide)) (passes_call (takes_of rfl rfl rfl rfl) (fun _ _ _ _ h => h)) (pv 1) (pa_cons (pe_md0 T.c_Handed GT (hr.mono (by decide)) pass0 (pv 0)) pa_nil)))) pss_nil)
  (pss_one (ps_ret (pe_cd GR (hr.mono (by decide)) (passes_call (takes_of rfl rfl rfl rfl) (fun _ _ _ _ h => h)) (pa_cons (pv 2) (pa_cons (pe_md0 T.c_Handed GW (hr.mono (by decide)) pass0 (pv 0)) pa_nil)))))))))), ?_⟩
    obtain ⟨ph, q, al, nums, k, l, cl, rest, G, dh, dx, ad, kvs, st, m, S, rfl, M, hdr, hC, hk, hm, ht⟩ := h
    have hst : (([("packings", V.ref ad)] : List (Str × V)).lookup ("begin" : Str) = none) ∧ (([("packings", V.ref ad)] : List (Str × V)).lookup ("feed" : Str) = none) ∧ (([("packings", V.ref ad)] : List (Str × V)).lookup ("end" : Str) = none) := ⟨(lk_past (by decide +kernel)).trans rfl, (lk_past (by decide +kernel)).trans rfl, (lk_past (by decide +kernel)).trans rfl⟩
    cases hC with
    | pack bs hl =>
      obtain ⟨e1, d1⟩ := drop_one hdr
      obtain ⟨e2, d2⟩ := drop_one d1
      refine ⟨_, rfl, ph, dh, _, rfl, M.hh, hd_meth (by decide +kernel) (by decide +kernel), ph, dh, al, nums, k, _, rfl, M.hh, M.arg.sq, e1, by omega, fun H1 hs1 hh1 => ?_⟩
      have M1 := M.took hs1 hh1
      have mv1 := M.mv hs1
      refine ⟨_, rfl, rfl, _, rfl, iteF ⟨_, rfl, rfl, _, rfl, iteF ⟨_, rfl, rfl, _, rfl, iteF ⟨_, rfl, rfl, _, rfl, iteF ?_⟩⟩⟩⟩
      refine ⟨_, rfl, _, rfl, ph, dh, _, rfl, hh1, hd_meth (by decide +kernel) (by decide +kernel), ph, dh, al, nums, k + 1, _, rfl, hh1, M1.arg.sq, e2, by omega, fun H2 z hs2 hh2 hz0 hzp hz2 => ?_⟩
      have M2 := M1.took hs2 hh2
      have mv2 := mv1.trans (M1.mv hs2)
      rw [row_V d2 (bints_len bs), bints_V] at hz2
      refine ⟨0, z, ansPack bs, rfl, .pack bs hl hz2, M2.tb, TellsG.mono ht fun H' e => ?_⟩
      have r := M2.calm mv2 e
      rw [show k + 1 + 1 + bs.length = k + ((0 : Int) :: ((bs.length : Nat) : Int) :: bints bs).length by rw [List.length_cons, List.length_cons, bints_len]; omega] at r
      exact r
    | unpack bs hl =>
      obtain ⟨e1, d1⟩ := drop_one hdr
      obtain ⟨e2, d2⟩ := drop_one d1
      refine ⟨_, rfl, ph, dh, _, rfl, M.hh, hd_meth (by decide +kernel) (by decide +kernel), ph, dh, al, nums, k, _, rfl, M.hh, M.arg.sq, e1, by omega, fun H1 hs1 hh1 => ?_⟩
      have M1 := M.took hs1 hh1
      have mv1 := M.mv hs1
      refine ⟨_, rfl, rfl, _, rfl, iteF ⟨_, rfl, rfl, _, rfl, iteF ⟨_, rfl, rfl, _, rfl, iteF ⟨_, rfl, rfl, _, rfl, iteF ?_⟩⟩⟩⟩
      refine ⟨_, rfl, _, rfl, ph, dh, _, rfl, hh1, hd_meth (by decide +kernel) (by decide +kernel), ph, dh, al, nums, k + 1, _, rfl, hh1, M1.arg.sq, e2, by omega, fun H2 z hs2 hh2 hz0 hzp hz2 => ?_⟩
      have M2 := M1.took hs2 hh2
      have mv2 := mv1.trans (M1.mv hs2)
      rw [row_V d2 (bints_len bs), bints_V] at hz2
      refine ⟨1, z, ansUnpack bs, rfl, .unpack bs hl hz2, M2.tb, TellsG.mono ht fun H' e => ?_⟩
      have r := M2.calm mv2 e
      rw [show k + 1 + 1 + bs.length = k + ((1 : Int) :: ((bs.length : Nat) : Int) :: bints bs).length by rw [List.length_cons, List.length_cons, bints_len]; omega] at r
      exact r
    | judge bs hl =>
      obtain ⟨e1, d1⟩ := drop_one hdr
      obtain ⟨e2, d2⟩ := drop_one d1
      refine ⟨_, rfl, ph, dh, _, rfl, M.hh, hd_meth (by decide +kernel) (by decide +kernel), ph, dh, al, nums, k, _, rfl, M.hh, M.arg.sq, e1, by omega, fun H1 hs1 hh1 => ?_⟩
      have M1 := M.took hs1 hh1
      have mv1 := M.mv hs1
      refine ⟨_, rfl, rfl, _, rfl, iteF ⟨_, rfl, rfl, _, rfl, iteF ⟨_, rfl, rfl, _, rfl, iteF ⟨_, rfl, rfl, _, rfl, iteF ?_⟩⟩⟩⟩
      refine ⟨_, rfl, _, rfl, ph, dh, _, rfl, hh1, hd_meth (by decide +kernel) (by decide +kernel), ph, dh, al, nums, k + 1, _, rfl, hh1, M1.arg.sq, e2, by omega, fun H2 z hs2 hh2 hz0 hzp hz2 => ?_⟩
      have M2 := M1.took hs2 hh2
      have mv2 := mv1.trans (M1.mv hs2)
      rw [row_V d2 (bints_len bs), bints_V] at hz2
      refine ⟨3, z, ansJudge bs, rfl, .judge bs hl hz2, M2.tb, TellsG.mono ht fun H' e => ?_⟩
      have r := M2.calm mv2 e
      rw [show k + 1 + 1 + bs.length = k + ((3 : Int) :: ((bs.length : Nat) : Int) :: bints bs).length by rw [List.length_cons, List.length_cons, bints_len]; omega] at r
      exact r
    | length bs hl =>
      obtain ⟨e1, d1⟩ := drop_one hdr
      obtain ⟨e2, d2⟩ := drop_one d1
      refine ⟨_, rfl, ph, dh, _, rfl, M.hh, hd_meth (by decide +kernel) (by decide +kernel), ph, dh, al, nums, k, _, rfl, M.hh, M.arg.sq, e1, by omega, fun H1 hs1 hh1 => ?_⟩
      have M1 := M.took hs1 hh1
      have mv1 := M.mv hs1
      refine ⟨_, rfl, rfl, _, rfl, iteF ⟨_, rfl, rfl, _, rfl, iteF ⟨_, rfl, rfl, _, rfl, iteF ⟨_, rfl, rfl, _, rfl, iteF ?_⟩⟩⟩⟩
      refine ⟨_, rfl, _, rfl, ph, dh, _, rfl, hh1, hd_meth (by decide +kernel) (by decide +kernel), ph, dh, al, nums, k + 1, _, rfl, hh1, M1.arg.sq, e2, by omega, fun H2 z hs2 hh2 hz0 hzp hz2 => ?_⟩
      have M2 := M1.took hs2 hh2
      have mv2 := mv1.trans (M1.mv hs2)
      rw [row_V d2 (bints_len bs), bints_V] at hz2
      refine ⟨4, z, ansLength bs, rfl, .length bs hl hz2, M2.tb, TellsG.mono ht fun H' e => ?_⟩
      have r := M2.calm mv2 e
      rw [show k + 1 + 1 + bs.length = k + ((4 : Int) :: ((bs.length : Nat) : Int) :: bints bs).length by rw [List.length_cons, List.length_cons, bints_len]; omega] at r
      exact r
    | parse bs hl =>
      obtain ⟨e1, d1⟩ := drop_one hdr
      obtain ⟨e2, d2⟩ := drop_one d1
      refine ⟨_, rfl, ph, dh, _, rfl, M.hh, hd_meth (by decide +kernel) (by decide +kernel), ph, dh, al, nums, k, _, rfl, M.hh, M.arg.sq, e1, by omega, fun H1 hs1 hh1 => ?_⟩
      have M1 := M.took hs1 hh1
      have mv1 := M.mv hs1
      refine ⟨_, rfl, rfl, _, rfl, iteF ⟨_, rfl, rfl, _, rfl, iteF ⟨_, rfl, rfl, _, rfl, iteF ⟨_, rfl, rfl, _, rfl, iteF ?_⟩⟩⟩⟩
      refine ⟨_, rfl, _, rfl, ph, dh, _, rfl, hh1, hd_meth (by decide +kernel) (by decide +kernel), ph, dh, al, nums, k + 1, _, rfl, hh1, M1.arg.sq, e2, by omega, fun H2 z hs2 hh2 hz0 hzp hz2 => ?_⟩
      have M2 := M1.took hs2 hh2
      have mv2 := mv1.trans (M1.mv hs2)
      rw [row_V d2 (bints_len bs), bints_V] at hz2
      refine ⟨5, z, ansParse bs, rfl, .parse bs hl hz2, M2.tb, TellsG.mono ht fun H' e => ?_⟩
      have r := M2.calm mv2 e
      rw [show k + 1 + 1 + bs.length = k + ((5 : Int) :: ((bs.length : Nat) : Int) :: bints bs).length by rw [List.length_cons, List.length_cons, bints_len]; omega] at r
      exact r
    | lengths bs hl =>
      obtain ⟨e1, d1⟩ := drop_one hdr
      obtain ⟨e2, d2⟩ := drop_one d1
      refine ⟨_, rfl, ph, dh, _, rfl, M.hh, hd_meth (by decide +kernel) (by decide +kernel), ph, dh, al, nums, k, _, rfl, M.hh, M.arg.sq, e1, by omega, fun H1 hs1 hh1 => ?_⟩
      have M1 := M.took hs1 hh1
      have mv1 := M.mv hs1
      refine ⟨_, rfl, rfl, _, rfl, iteF ⟨_, rfl, rfl, _, rfl, iteF ⟨_, rfl, rfl, _, rfl, iteF ⟨_, rfl, rfl, _, rfl, iteF ?_⟩⟩⟩⟩
      refine ⟨_, rfl, _, rfl, ph, dh, _, rfl, hh1, hd_meth (by decide +kernel) (by decide +kernel), ph, dh, al, nums, k + 1, _, rfl, hh1, M1.arg.sq, e2, by omega, fun H2 z hs2 hh2 hz0 hzp hz2 => ?_⟩
      have M2 := M1.took hs2 hh2
      have mv2 := mv1.trans (M1.mv hs2)
      rw [row_V d2 (nints_len bs), nints_V] at hz2
      refine ⟨6, z, ansCode bs, rfl, .lengths bs hl hz2, M2.tb, TellsG.mono ht fun H' e => ?_⟩
      have r := M2.calm mv2 e
      rw [show k + 1 + 1 + bs.length = k + ((6 : Int) :: ((bs.length : Nat) : Int) :: nints bs).length by rw [List.length_cons, List.length_cons, nints_len]; omega] at r
      exact r
    | begin_ n =>
      obtain ⟨e1, d1⟩ := drop_one hdr
      obtain ⟨e2, d2⟩ := drop_one d1
      refine ⟨_, rfl, ph, dh, _, rfl, M.hh, hd_meth (by decide +kernel) (by decide +kernel), ph, dh, al, nums, k, _, rfl, M.hh, M.arg.sq, e1, by omega, fun H1 hs1 hh1 => ?_⟩
      have M1 := M.took hs1 hh1
      have mv1 := M.mv hs1
      refine ⟨_, rfl, rfl, _, rfl, iteF ⟨_, rfl, rfl, _, rfl, iteT ?_⟩⟩
      refine ⟨_, rfl, q, dx, _, rfl, M1.sa.hq, hst.1, _, rfl, ph, dh, _, rfl, hh1, hd_meth (by decide +kernel) (by decide +kernel), ph, dh, al, nums, k + 1, _, rfl, hh1, M1.arg.sq, e2, by omega, fun H2 hs2 hh2 => ?_⟩
      have M2 := M1.took hs2 hh2
      have mv2 := mv1.trans (M1.mv hs2)
      exact ⟨q, n, dx, ad, kvs, st, m, S, rfl, M2.sa, hm, M2.tb, TellsG.mono ht fun H' e => M2.went mv2 e⟩
    | end_ n =>
      obtain ⟨e1, d1⟩ := drop_one hdr
      obtain ⟨e2, d2⟩ := drop_one d1
      refine ⟨_, rfl, ph, dh, _, rfl, M.hh, hd_meth (by decide +kernel) (by decide +kernel), ph, dh, al, nums, k, _, rfl, M.hh, M.arg.sq, e1, by omega, fun H1 hs1 hh1 => ?_⟩
      have M1 := M.took hs1 hh1
      have mv1 := M.mv hs1
      refine ⟨_, rfl, rfl, _, rfl, iteF ⟨_, rfl, rfl, _, rfl, iteF ⟨_, rfl, rfl, _, rfl, iteF ⟨_, rfl, rfl, _, rfl, iteT ?_⟩⟩⟩⟩
      refine ⟨_, rfl, q, dx, _, rfl, M1.sa.hq, hst.2.2, _, rfl, ph, dh, _, rfl, hh1, hd_meth (by decide +kernel) (by decide +kernel), ph, dh, al, nums, k + 1, _, rfl, hh1, M1.arg.sq, e2, by omega, fun H2 hs2 hh2 => ?_⟩
      have M2 := M1.took hs2 hh2
      have mv2 := mv1.trans (M1.mv hs2)
      exact ⟨q, n, dx, ad, kvs, st, m, S, rfl, M2.sa, hm, M2.tb, TellsG.mono ht fun H' e => M2.went mv2 e⟩
    | feed n bs hl =>
      obtain ⟨e1, d1⟩ := drop_one hdr
      obtain ⟨e2, d2⟩ := drop_one d1
      obtain ⟨e3, d3⟩ := drop_one d2
      refine ⟨_, rfl, ph, dh, _, rfl, M.hh, hd_meth (by decide +kernel) (by decide +kernel), ph, dh, al, nums, k, _, rfl, M.hh, M.arg.sq, e1, by omega, fun H1 hs1 hh1 => ?_⟩
      have M1 := M.took hs1 hh1
      have mv1 := M.mv hs1
      refine ⟨_, rfl, rfl, _, rfl, iteF ⟨_, rfl, rfl, _, rfl, iteF ⟨_, rfl, rfl, _, rfl, iteT ?_⟩⟩⟩
      refine ⟨_, rfl, ph, dh, _, rfl, hh1, hd_meth (by decide +kernel) (by decide +kernel), ph, dh, al, nums, k + 1, _, rfl, hh1, M1.arg.sq, e2, by omega, fun H2 hs2 hh2 => ?_⟩
      have M2 := M1.took hs2 hh2
      have mv2 := mv1.trans (M1.mv hs2)
      refine ⟨_, rfl, q, dx, _, rfl, M2.sa.hq, hst.2.1, _, rfl, _, rfl, ph, dh, _, rfl, hh2, hd_meth (by decide +kernel) (by decide +kernel), ph, dh, al, nums, k + 1 + 1, _, rfl, hh2, M2.arg.sq, e3, by omega, fun H3 z hs3 hh3 hz0 hzp hz3 => ?_⟩
      have M3 := M2.took hs3 hh3
      have mv3 := mv2.trans (M2.mv hs3)
      rw [row_V d3 (bints_len bs), bints_V] at hz3
      refine ⟨q, z, n, bs, dx, ad, kvs, st, m, S, rfl, M3.sa, hm, hz3, hl, M3.tb, TellsG.mono ht fun H' e => ?_⟩
      have r := M3.went mv3 e
      rw [show k + 1 + 1 + 1 + bs.length = k + ((8 : Int) :: ((n : Nat) : Int) :: ((bs.length : Nat) : Int) :: bints bs).length by rw [List.length_cons, List.length_cons, List.length_cons, bints_len]; omega] at r
      exact r
    | at_ f0 n bs hl =>
      obtain ⟨e1, d1⟩ := drop_one hdr
      obtain ⟨e2, d2⟩ := drop_one d1
      obtain ⟨e3, d3⟩ := drop_one d2
      obtain ⟨e4, d4⟩ := drop_one d3
      refine ⟨_, rfl, ph, dh, _, rfl, M.hh, hd_meth (by decide +kernel) (by decide +kernel), ph, dh, al, nums, k, _, rfl, M.hh, M.arg.sq, e1, by omega, fun H1 hs1 hh1 => ?_⟩
      have M1 := M.took hs1 hh1
      have mv1 := M.mv hs1
      refine ⟨_, rfl, rfl, _, rfl, iteT ?_⟩
      refine ⟨_, rfl, ph, dh, _, rfl, hh1, hd_meth (by decide +kernel) (by decide +kernel), ph, dh, al, nums, k + 1, _, rfl, hh1, M1.arg.sq, e2, by omega, fun H2 hs2 hh2 => ?_⟩
      have M2 := M1.took hs2 hh2
      have mv2 := mv1.trans (M1.mv hs2)
      refine ⟨_, rfl, ph, dh, _, rfl, hh2, hd_meth (by decide +kernel) (by decide +kernel), ph, dh, al, nums, k + 1 + 1, _, rfl, hh2, M2.arg.sq, e3, by omega, fun H3 hs3 hh3 => ?_⟩
      have M3 := M2.took hs3 hh3
      have mv3 := mv2.trans (M2.mv hs3)
      refine ⟨_, rfl, ph, dh, _, rfl, hh3, hd_meth (by decide +kernel) (by decide +kernel), ph, dh, al, nums, k + 1 + 1 + 1, _, rfl, hh3, M3.arg.sq, e4, by omega, fun H4 z hs4 hh4 hz0 hzp hz4 => ?_⟩
      have M4 := M3.took hs4 hh4
      have mv4 := mv3.trans (M3.mv hs4)
      rw [row_V d4 (bints_len bs), bints_V] at hz4
      refine ⟨_, rfl, _, rfl, z, bs, f0, n, rfl, hz4, hl, M4.tb, TellsG.mono ht fun H' e => ?_⟩
      have r := M4.calm mv4 e
      rw [show k + 1 + 1 + 1 + 1 + bs.length = k + ((2 : Int) :: ((f0 : Nat) : Int) :: ((n : Nat) : Int) :: ((bs.length : Nat) : Int) :: bints bs).length by rw [List.length_cons, List.length_cons, List.length_cons, List.length_cons, bints_len]; omega] at r
      exact r
end
end Sq
end
section
set_option Elab.async false
set_option maxRecDepth 100000
set_option maxHeartbeats 2000000
/-! the next call's numbers. -/
namespace Sq
open PySem PySem.Spec PyProof.Rows L2 SqX LamX
/-- a refusal's field, of whatever class it is -/
def tXfA (K : PySem.W.Frag) (a : Addr) (cls : Value) (d : Option Addr) (f : Str) (te : TE) : TE := fun σ H Q => te σ H fun x H1 => x = .ref a ∧ ∃ C, cls = .ref C ∧ XfC K C ∧ PySem.W.findIn K (.ref C) f = some none ∧ ∃ (dd : Addr) (fs : List (Str × V)) (v : V), d = some dd ∧ H1 dd = some (.xd fs) ∧ fs.lookup f = some v ∧ Q v H1
theorem pe_xfA {X : Cx} {a : Addr} {oe : Obj} {cls : Value} {d : Option Addr} {pn : List (Addr × Obj)} {e : Expr} {te : TE} {pos : Pos} {n : Str}
    (hz : Zc cls d oe) (hf : ∃ vs, oe.data = .fields vs) (he : PE (X.suite a ((a, oe) :: pn)) e te) (hb : attributeBase e n X.env (eval e X.env) = eval e X.env := by rfl) :
    PE (X.suite a ((a, oe) :: pn)) (.Attribute e n pos) (tXfA X.K a cls d n te) := by
  refine ⟨fun pins s σ H Q I h => ?_⟩
  refine attr_of hb (thn (he.run pins s σ H _ I h) fun u s1 hh => ?_)
  obtain ⟨x, H1, I1, rx, ex, C, ec, T, hno, dd, fs, v, ed, ea, l, q⟩ := hh
  subst ex
  obtain rfl : u = Value.ref a := rx
  subst ec
  subst ed
  obtain ⟨hpa, _⟩ := I1.pin (a, oe) (List.mem_append_left _ List.mem_cons_self)
  obtain ⟨vs, hdt⟩ := hf
  have hobj : ObjOk X.prog X.w H1 s1.heap dd (.xd fs) := I1.hok dd _ ea
  obtain ⟨mA, hns, hrel⟩ := hobj
  obtain ⟨od, ho, hl⟩ := lookIn_ns hns
  obtain ⟨u, hu, ru⟩ := RelO.some_of (v := v) (o := mA n) (by rw [← l]; exact hrel n)
  have J : PySem.W.InstAt s1.heap a oe C (some od) := ⟨hpa, hz.1, by unfold PySem.W.notCls; rw [hdt] <;> rfl, by rw [hz.2]; exact ho⟩
  exact HandSPX.exc_get I1.kIn J T.ga T.gg T.exC (PySem.W.findObj_own T.hdC hno rfl (by rw [hl, hu])) (handed_of ru) ⟨v, H1, I1.tok _, ru, q⟩
structure AnsOk (a : Squeeze.Answer) : Prop where
  neg : a.ret < 0 → a.bytes = [] ∧ a.nums = []
  pos : 0 ≤ a.ret → a.fault = none
theorem ok_says (n : Int) : AnsOk (Squeeze.says n) := ⟨fun _ => ⟨rfl, rfl⟩, fun _ => rfl⟩
theorem ok_gives (b : Sw.Bytes) : AnsOk (Squeeze.gives b) := ⟨fun h => absurd h (by show ¬ ((b.length : Nat) : Int) < 0; omega), fun _ => rfl⟩
theorem ok_wrong (e : Sw.Fault) : AnsOk (Squeeze.wrong e) := ⟨fun _ => ⟨rfl, rfl⟩, fun h => absurd h (by show ¬ (0 : Int) ≤ -6; decide)⟩
theorem ok_tells (n : Nat) (l : List Nat) : AnsOk (Squeeze.tells (n : Nat) l) := ⟨fun h => absurd h (by show ¬ ((n : Nat) : Int) < 0; omega), fun _ => rfl⟩
theorem ok_ofRow {b : Sw.Bytes} {look : Nat → Nat → Bool} {f : List SwSqueeze.Block × Nat → Squeeze.Answer} (h : ∀ x, AnsOk (f x)) : AnsOk (Squeeze.ofRow b look f) := by
  unfold Squeeze.ofRow
  split
  · exact ok_says _
  · split
    · exact ok_wrong _
    · exact h _
theorem step_ok (st : Squeeze.State) : ∀ cl : Squeeze.Call, AnsOk (Squeeze.step st cl).2
  | .pack a => by
    show AnsOk (Squeeze.ofText a _)
    unfold Squeeze.ofText
    split
    · exact ok_says _
    · exact ok_gives _
  | .unpack b => ok_ofRow fun x => ok_gives _
  | .at_ b f n => ok_ofRow fun x => by
    split
    · exact ok_says _
    · dsimp only
      split
      · exact ok_gives _
      · exact ok_gives _
  | .judge b => ok_ofRow fun x => by
    split
    · exact ok_says _
    · exact ok_says _
  | .length b => ok_ofRow fun x => ok_tells 0 _
  | .parse a => by
    show AnsOk (if _ then _ else _)
    split
    · exact ok_says _
    · exact ok_tells _ _
  | .lengths o => by
    show AnsOk (if _ then _ else _)
    split
    · exact ok_says _
    · split
      · exact ⟨fun h => absurd h (by show ¬ (0 : Int) < 0; decide), fun _ => rfl⟩
      · exact ok_says _
  | .begin_ o => by
    unfold Squeeze.step
    dsimp only
    split
    · exact ok_says _
    · exact ok_says _
  | .feed o a => by
    unfold Squeeze.step
    dsimp only
    split
    · exact ok_says _
    · split
      · exact ok_says _
      · split
        · exact ok_says _
        · exact ok_gives _
  | .end_ o => by
    unfold Squeeze.step
    dsimp only
    split
    · exact ok_says _
    · split
      · exact ok_says _
      · exact ok_gives _
theorem MaP.same {TT : List (Addr × Str)} {c : CA} {K : PySem.W.Frag} {H H1 H2 : Hp} {ph q al : Addr} {nums : List Int} {k' m' : Nat} {s' : Squeeze.State} {G : Addr → Prop} (p : MaP TT c K ph q al nums H G k' s' m' H1) (e : Same H1 H2) : MaP TT c K ph q al nums H G k' s' m' H2 := by
  obtain ⟨G', dh, dx, ad, kvs, S, M, mv⟩ := p
  exact ⟨G', dh, dx, ad, kvs, S, M.ext ((FrE.refl M.tb).same e), mv.trans (Mv.same mv.tb e)⟩
theorem MaP.ne {TT : List (Addr × Str)} {c : CA} {K : PySem.W.Frag} {H H1 : Hp} {ph q al : Addr} {nums : List Int} {k' m' : Nat} {s' : Squeeze.State} {G : Addr → Prop} (p : MaP TT c K ph q al nums H G k' s' m' H1) {l b : Addr} (hl : H1 l = none) (ho : Own H b) (hb : ¬ G b) : b ≠ l := fun z => by
  obtain ⟨G', dh, dx, ad, kvs, S, M, mv⟩ := p
  obtain ⟨o, h1, h2⟩ := ho
  have := mv.get h1 h2 hb
  rw [z, hl] at this
  cases this
def sp_next_numbers (TT : List (Addr × Str)) (K : PySem.W.Frag) (c : CA) : Sp := fun vs H Q _ => ∃ (ph q al : Addr) (nums : List Int) (k : Nat) (l : List Int) (cl : Squeeze.Call) (rest : List Int) (G : Addr → Prop) (dh dx ad : Addr) (kvs : List (Key × V)) (st : Squeeze.State) (m : Nat) (S : Nat → Addr → Prop), vs = [.ref ph, .ref q] ∧
  Ma TT c K H ph q al nums k st m G dh dx ad kvs S ∧ nums.drop k = l ++ rest ∧ CallAt l cl ∧ k ≤ 100000 ∧ m ≤ 1000 ∧ (SqueezeNeutral.numbersOf (Squeeze.step st cl).2).length ≤ 10000000 ∧
  ∀ H' r, MaP TT c K ph q al nums H G (k + l.length) (Squeeze.step st cl).1 (m + 1) H' → H' r = some (.lst ((SqueezeNeutral.numbersOf (Squeeze.step st cl).2).map V.int)) → (∀ b, Own H b → ¬ G b → b ≠ r) → Q (.ref r) H'
section
variable {P : Program} {w : World} {K : PySem.W.Frag} {mg : Str → Option Value} {base : Heap} {c : CA} {f fi : Addr} {fd fdi : FuncData} {TT : List (Addr × Str)}
theorem ok_next_numbers (T : Tx K mg c) (GN : Hd P w K mg base (L2.CX P w) 13 "answer_next" ["handed", "states"] (sp_answer_next TT K c)) (F : Fun K "next_numbers" "next_numbers" s_next_numbers f fd) :
    FnOk P w K mg base CX0 14 f fd ["handed", "states"] (sp_next_numbers TT K c) := by
  refine F.ok sc_next_numbers (fun vs H Q E h => ?_) (fun cdv A outer s H vs Q E hr h => ?_)
  · obtain ⟨ph, q, al, nums, k, l, cl, rest, G, dh, dx, ad, kvs, st, m, S, rfl, _⟩ := h
    rfl
  · refine ⟨_, (pss_cons (ps_try_as (i := 3) (c := .ref c.Refusal) (tb := fun W => tAsg (tCallS (sp_answer_next TT K c) (WE W) (tCons (tVar 0) (tCons (tVar 1) tNil))) (gName 2)) (Wout := fun _ _ _ _ => False) rfl rfl sc_next_numbers.nd rfl rfl ⟨rfl, by decide +kernel, Or.inl T.g_Refusal⟩ L2.takes0
          (fun W pn xe tk _ => pss_one (ps_set (i := 2) sc_next_numbers.nd rfl (Or.inl rfl) (pe_cdS GN (hr.mono (by decide)) (fun σ => passAt tk σ) (pa_cons (pv 0) (pa_cons (pv 1) pa_nil)))))
          (fun a oe cls d pn hz hf => pss_one (ps_ret (pe_lst (pa_cons (pe_xfA hz hf (pv 3)) (pa_cons pe_int (pa_cons pe_int (pa_cons (pe_xfA hz hf (pv 3)) (pa_cons (pe_xfA hz hf (pv 3)) pa_nil)))))))))
  (pss_cons (ps_set (i := 4) sc_next_numbers.nd rfl (Or.inl rfl) (pe_fld (pv 2) rfl))
  (pss_cons (ps_set (i := 5) sc_next_numbers.nd rfl (Or.inl rfl) (pe_fld (pv 2) rfl))
  (pss_one (ps_ret (pe_op op_cat (pe_op op_cat (pe_op op_cat (pe_op op_cat (pe_lst (pa_cons (pe_fld (pv 2) rfl) (pa_cons (pe_callB call_len_seq (by rfl) T.len (by decide +kernel) (pa_cons (pv 4) pa_nil)) pa_nil))) (pv 4)) (pe_lst (pa_cons (pe_callB call_len_seq (by rfl) T.len (by decide +kernel) (pa_cons (pv 5) pa_nil)) pa_nil))) (pv 5)) (pe_lst (pa_cons pe_int (pa_cons pe_int pa_nil))))))))), ?_⟩
    obtain ⟨ph, q, al, nums, k, l, cl, rest, G, dh, dx, ad, kvs, st, m, S, rfl, M, hdr, hC, hk, hm, hlen, qq⟩ := h
    have hOk := step_ok st cl
    refine ⟨_, rfl, _, rfl, ph, q, al, nums, k, l, cl, rest, G, dh, dx, ad, kvs, st, m, S, rfl, M, hdr, hC, hk, hm, fun hfn h0 H1 r hP ha => ?_, fun hneg H1 d C hP hm hd => ?_⟩
    · obtain ⟨dr, ao, af, hr1, hao, haf⟩ := ha
      have hbl : ∀ l : Sw.Bytes, (bytesV l).length = l.length := fun l => List.length_map ..
      have hnl : ∀ l : List Nat, (natsV l).length = l.length := fun l => List.length_map ..
      have hnum : (SqueezeNeutral.numbersOf (Squeeze.step st cl).2).map V.int = [.int (Squeeze.step st cl).2.ret, .int ((Squeeze.step st cl).2.bytes.length : Nat)] ++ bytesV (Squeeze.step st cl).2.bytes ++ [.int ((Squeeze.step st cl).2.nums.length : Nat)] ++ natsV (Squeeze.step st cl).2.nums ++ [.int 0, .int 0] := by
        unfold SqueezeNeutral.numbersOf
        rw [hfn]
        simp only [List.map_cons, List.map_append, List.map_map, List.cons_append, List.append_assoc, List.nil_append, List.map_nil]
        rfl
      have hsz : (Squeeze.step st cl).2.bytes.length + (Squeeze.step st cl).2.nums.length ≤ 10000000 := by
        have e := congrArg List.length hnum
        simp only [List.length_append, List.length_map, List.length_cons, List.length_nil, hbl, hnl] at e
        omega
      rw [hnum] at qq
      generalize (Squeeze.step st cl).2 = an at *
      refine ⟨_, rfl, r, _, dr, _, _, rfl, hr1, T.c_Answer, T.n_Answer_octets, an_octets, ?_⟩
      refine ⟨_, rfl, r, _, dr, _, _, rfl, hr1, T.c_Answer, T.n_Answer_figures, an_figures, ?_⟩
      refine ⟨_, rfl, r, _, dr, _, _, rfl, hr1, T.c_Answer, T.n_Answer_number, an_number, _, rfl, _, _, rfl, .inl (.inl (.inl hao)), by show 2 ≤ _; decide, fun l1 hl1 => ?_⟩
      rw [hbl]
      have hs2 := same_new (o := .lst [.int an.ret, .int (an.bytes.length : Nat)]) hl1
      have hl12 : upd H1 l1 (.lst [.int an.ret, .int (an.bytes.length : Nat)]) l1 = some (.lst [.int an.ret, .int (an.bytes.length : Nat)]) := upd_same
      generalize upd H1 l1 (.lst [.int an.ret, .int (an.bytes.length : Nat)]) = H2 at hs2 hl12 ⊢
      refine ⟨_, rfl, l1, ao, _, _, rfl, rfl, hl12, hs2 _ _ hao, by rw [hbl]; exact line_le (by show 2 + _ ≤ _; omega), fun p1 hp1 => ?_⟩
      have hs3 : Same H1 (upd H2 p1 (.lst ([.int an.ret, .int (an.bytes.length : Nat)] ++ bytesV an.bytes))) := same_made hs2 hp1
      have hp13 : upd H2 p1 (.lst ([.int an.ret, .int (an.bytes.length : Nat)] ++ bytesV an.bytes)) p1 = some (.lst ([.int an.ret, .int (an.bytes.length : Nat)] ++ bytesV an.bytes)) := upd_same
      generalize upd H2 p1 (.lst ([.int an.ret, .int (an.bytes.length : Nat)] ++ bytesV an.bytes)) = H3 at hs3 hp13 ⊢
      refine ⟨_, rfl, _, _, rfl, .inl (.inl (.inl (hs3 _ _ haf))), by show 1 ≤ _; decide, fun l2 hl2 => ?_⟩
      rw [hnl]
      have hs4 : Same H1 (upd H3 l2 (.lst [.int (an.nums.length : Nat)])) := same_made hs3 hl2
      have hp14 := same_new (o := .lst [.int (an.nums.length : Nat)]) hl2 _ _ hp13
      have hl24 : upd H3 l2 (.lst [.int (an.nums.length : Nat)]) l2 = some (.lst [.int (an.nums.length : Nat)]) := upd_same
      generalize upd H3 l2 (.lst [.int (an.nums.length : Nat)]) = H4 at hs4 hp14 hl24 ⊢
      refine ⟨p1, l2, _, _, rfl, rfl, hp14, hl24, by rw [List.length_append, hbl]; exact line_le (by show 2 + _ + 1 ≤ _; omega), fun p2 hp2 => ?_⟩
      have hs5 : Same H1 (upd H4 p2 (.lst ([.int an.ret, .int (an.bytes.length : Nat)] ++ bytesV an.bytes ++ [.int (an.nums.length : Nat)]))) := same_made hs4 hp2
      have hp25 : upd H4 p2 (.lst ([.int an.ret, .int (an.bytes.length : Nat)] ++ bytesV an.bytes ++ [.int (an.nums.length : Nat)])) p2 = some (.lst ([.int an.ret, .int (an.bytes.length : Nat)] ++ bytesV an.bytes ++ [.int (an.nums.length : Nat)])) := upd_same
      generalize upd H4 p2 (.lst ([.int an.ret, .int (an.bytes.length : Nat)] ++ bytesV an.bytes ++ [.int (an.nums.length : Nat)])) = H5 at hs5 hp25 ⊢
      refine ⟨_, rfl, p2, af, _, _, rfl, rfl, hp25, hs5 _ _ haf, by rw [List.length_append, List.length_append, hbl, hnl]; exact line_le (by show 2 + _ + 1 + _ ≤ _; omega), fun p3 hp3 => ?_⟩
      have hs6 : Same H1 (upd H5 p3 (.lst ([.int an.ret, .int (an.bytes.length : Nat)] ++ bytesV an.bytes ++ [.int (an.nums.length : Nat)] ++ natsV an.nums))) := same_made hs5 hp3
      have hp36 : upd H5 p3 (.lst ([.int an.ret, .int (an.bytes.length : Nat)] ++ bytesV an.bytes ++ [.int (an.nums.length : Nat)] ++ natsV an.nums)) p3 = some (.lst ([.int an.ret, .int (an.bytes.length : Nat)] ++ bytesV an.bytes ++ [.int (an.nums.length : Nat)] ++ natsV an.nums)) := upd_same
      generalize upd H5 p3 (.lst ([.int an.ret, .int (an.bytes.length : Nat)] ++ bytesV an.bytes ++ [.int (an.nums.length : Nat)] ++ natsV an.nums)) = H6 at hs6 hp36 ⊢
      refine ⟨by show 2 ≤ _; decide, fun l3 hl3 => ?_⟩
      have hs7 : Same H1 (upd H6 l3 (.lst [.int 0, .int 0])) := same_made hs6 hl3
      have hp37 := same_new (o := .lst [.int 0, .int 0]) hl3 _ _ hp36
      have hl37 : upd H6 l3 (.lst [.int 0, .int 0]) l3 = some (.lst [.int 0, .int 0]) := upd_same
      generalize upd H6 l3 (.lst [.int 0, .int 0]) = H7 at hs7 hp37 hl37 ⊢
      refine ⟨p3, l3, _, _, rfl, rfl, hp37, hl37, by rw [List.length_append, List.length_append, List.length_append, hbl, hnl]; exact line_le (by show 2 + _ + 1 + _ + 2 ≤ _; omega), fun p4 hp4 => ?_⟩
      exact qq _ p4 (hP.same (same_made hs7 hp4)) upd_same fun b h1 h2 => (hP.same hs7).ne hp4 h1 h2
    · refine ⟨true, hm.e, fun _ a ha0 => ?_, fun h => by cases h⟩
      obtain ⟨e1, e2⟩ := hOk.neg hneg
      have hnum : (SqueezeNeutral.numbersOf (Squeeze.step st cl).2).map V.int = [.int (Squeeze.step st cl).2.ret, .int 0, .int 0, .int (fk (Squeeze.step st cl).2 : Nat), .int (fp (Squeeze.step st cl).2 : Nat)] := by
        unfold SqueezeNeutral.numbersOf fk fp
        rw [e1, e2]
        cases (Squeeze.step st cl).2.fault <;> rfl
      rw [hnum] at qq
      have l1 : ∀ x y z : V, (exF x y z).lookup ("number" : Str) = some x := fun x y z => (lk_past (by decide +kernel)).trans ((lk_past (by decide +kernel)).trans lk_here)
      have l2 : ∀ x y z : V, (exF x y z).lookup ("kind" : Str) = some y := fun x y z => (lk_past (by decide +kernel)).trans lk_here
      have l3 : ∀ x y z : V, (exF x y z).lookup ("place" : Str) = some z := fun x y z => lk_here
      refine ⟨_, rfl, rfl, C, rfl, hm.x, hm.n1, d, _, _, rfl, hd, l1 _ _ _, ?_⟩
      refine ⟨_, rfl, rfl, C, rfl, hm.x, hm.n2, d, _, _, rfl, hd, l2 _ _ _, ?_⟩
      refine ⟨_, rfl, rfl, C, rfl, hm.x, hm.n3, d, _, _, rfl, hd, l3 _ _ _, by show 5 ≤ _; decide, fun p hp => ?_⟩
      exact qq _ p (hP.same (same_new hp)) upd_same fun b h1 h2 => hP.ne hp h1 h2
end
end Sq
end
section
set_option Elab.async false
set_option maxRecDepth 100000
set_option maxHeartbeats 2000000
/-! the answers. -/
namespace Sq
open PySem PySem.Spec PyProof.Rows L2 SqX LamX
/-- a list of calls -/
inductive Line : List Int → List Squeeze.Call → Prop
  | nil : Line [] []
  | cons {l r : List Int} {cl : Squeeze.Call} {cs : List Squeeze.Call} : CallAt l cl → Line r cs → Line (l ++ r) (cl :: cs)
/-- what's due -/
def dueOf : Squeeze.State → List Squeeze.Call → List Int
  | _, [] => []
  | st, cl :: cs => ((SqueezeNeutral.numbersOf (Squeeze.step st cl).2).length : Int) :: (SqueezeNeutral.numbersOf (Squeeze.step st cl).2 ++ dueOf (Squeeze.step st cl).1 cs)
theorem callAt_len {l : List Int} {cl : Squeeze.Call} (h : CallAt l cl) : 1 ≤ l.length := by
  cases h <;> (rw [List.length_cons]; omega)
theorem Ma.aside {TT : List (Addr × Str)} {c : CA} {K : PySem.W.Frag} {H : Hp} {ph q al r : Addr} {nums : List Int} {k m : Nat} {st : Squeeze.State} {G : Addr → Prop} {dh dx ad : Addr} {kvs : List (Key × V)} {S : Nat → Addr → Prop} {xs ys : List V}
    (M : Ma TT c K H ph q al nums k st m G dh dx ad kvs S) (hr : H r = some (.lst xs)) (hn : ¬ G r) (ha : al ≠ r ∨ ∀ H', SqL K H' al (nums.map V.int)) : Ma TT c K (upd H r (.lst ys)) ph q al nums k st m G dh dx ad kvs S := by
  have hG : ∀ b, G b → b ≠ r := fun b hb z => hn (z ▸ hb)
  have hph : G ph := by rw [M.hG]; exact .inl rfl
  refine ⟨by rw [upd_ne (hG _ hph)]; exact M.hh, M.sa.keep fun b o hb h1 _ => by rw [upd_ne (hG _ (by rw [M.hG]; exact .inr hb))]; exact h1, M.off, M.hG, ?_, Tabs.put M.tb hr (plain_lst _)⟩
  rcases ha with ha | ha
  · rcases M.arg with ⟨h, h2⟩ | h
    · exact .inl ⟨by rw [upd_ne ha]; exact h, h2⟩
    · exact .inr h
  · exact .inr ha
def sp_answers (TT : List (Addr × Str)) (K : PySem.W.Frag) : Sp := fun vs H Q _ => ∃ (al : Addr) (nums : List Int) (cls : List Squeeze.Call), vs = [.ref al] ∧ SqL K H al (nums.map V.int) ∧ Line nums cls ∧ cls.length ≤ 300 ∧ nums.length ≤ 16000 ∧ (dueOf Squeeze.start cls).length ≤ 10000000 ∧ Tabs TT H ∧
  ∀ H' p, H' p = some (.lst ((dueOf Squeeze.start cls).map V.int)) → Q (.ref p) H'
section
variable {P : Program} {w : World} {K : PySem.W.Frag} {mg : Str → Option Value} {base : Heap} {c : CA} {f fi : Addr} {fd fdi : FuncData} {TT : List (Addr × Str)}
theorem ok_answers (T : Tx K mg c) (GH : Hc P w K mg base CX0 1 "Handed" c.Handed ["self", "numbers"] (sp_hd_init c.Handed)) (GS : Hc P w K mg base CX0 1 "States" c.States ["self"] (sp_st_init c.States)) (GM : Hm P w K mg base CX0 1 c.Handed "has_more" ["self"] (sp_hd_more K c.Handed))
    (GN : Hd P w K mg base CX0 14 "next_numbers" ["handed", "states"] (sp_next_numbers TT K c)) (F : Fun K "answers" "answers" s_answers f fd) : FnOk P w K mg base CX0 15 f fd ["calls"] (sp_answers TT K) := by
  refine F.ok sc_answers (fun vs H Q E h => ?_) (fun cdv A outer s H vs Q E hr h => ?_)
  · obtain ⟨al, nums, cls, rfl, _⟩ := h
    rfl
  · refine ⟨_, (pss_cons (ps_set (i := 1) sc_answers.nd rfl (Or.inl rfl) (pe_lst pa_nil))
  (pss_cons (ps_set (i := 2) sc_answers.nd rfl (Or.inl rfl) (pe_mkd GH (hr.mono (by decide)) pass0 (pa_cons (pv 0) pa_nil)))
  (pss_cons (ps_set (i := 3) sc_answers.nd rfl (Or.inl rfl) (pe_mkd0 GS (hr.mono (by decide)) pass0))
  (pss_cons (ps_while PassesOwn.never (pt_val (pe_md0 T.c_Handed GM (hr.mono (by decide)) pass0 (pv 2))) (pss_cons (ps_set (i := 4) sc_answers.nd rfl (Or.inl rfl) (pe_cd GN (hr.mono (by decide)) pass0 (pa_cons (pv 2) (pa_cons (pv 3) pa_nil))))
    (pss_cons (ps_expr (pe_bm PySem.F.plainAttrs_list PySem.F.slot_list_append PySem.F.type_list_append mt_append (pv 1) (pa_cons (pe_callB call_len_seq (by rfl) T.len (by decide +kernel) (pa_cons (pv 4) pa_nil)) pa_nil)))
    (pss_one (ps_expr (pe_bm PySem.F.plainAttrs_list PySem.F.slot_list_extend PySem.F.type_list_extend mt_extend (pv 1) (pa_cons (pv 4) pa_nil)))))))
  (pss_one (ps_ret (pv 1))))))), ?_⟩
    obtain ⟨al, nums, cls, rfl, hS, hL, hcl, hnl, hdl, hT, qq⟩ := h
    refine ⟨Nat.zero_le _, fun r hr0 => ?_⟩
    have hs1 := same_new (o := .lst []) hr0
    have hr1 : upd H r (.lst []) r = some (.lst (([] : List Int).map V.int)) := upd_same
    generalize upd H r (.lst []) = H1 at hs1 hr1 ⊢
    refine ⟨_, rfl, fun x dx hx hdx hne => ⟨x, dx, al, rfl, upd_same, fun H2 hb2 hx2 => ⟨rfl, ?_⟩⟩⟩
    have hs2 : Same H1 H2 := fun b' o hb' => hb2 b' o (ne_of_none hb' hx) (by rw [upd_ne (ne_of_none hb' hx), upd_ne (ne_of_none hb' hdx)]; exact hb')
    refine fun y dy hy hdy hney => ⟨y, dy, rfl, upd_same, fun H3 ad hb3 hy3 had3 had0 => ⟨rfl, ?_⟩⟩
    have hs3 : Same H2 H3 := fun b' o hb' => hb3 b' o (ne_of_none hb' hy) (by rw [upd_ne (ne_of_none hb' hy), upd_ne (ne_of_none hb' hdy)]; exact hb')
    have hyx : x ≠ y := ne_of_none hx2 hy
    have hady : ad ≠ y := fun z => by rw [z, upd_same] at had0; cases had0
    have had2 : H2 ad = none := by
      rw [upd_ne hady] at had0
      by_cases hd : ad = dy
      · rw [hd]; exact hdy
      · rw [upd_ne hd] at had0
        exact had0
    have hxad : x ≠ ad := ne_of_none hx2 had2
    have hr2 := hs2 _ _ hr1
    have hrx : r ≠ x := ne_of_none hr1 hx
    have hry : r ≠ y := ne_of_none hr2 hy
    have hrad : r ≠ ad := ne_of_none hr2 had2
    have hx3 := hs3 _ _ hx2
    have hr3 := hs3 _ _ hr2
    have hG : ∀ b, (b = x ∨ Ft y ad (fun _ _ => False) b) → H1 b = none := fun b hb => by
      rcases hb with rfl | rfl | rfl | ⟨_, hb⟩
      · exact hx
      · exact hs2.free hy
      · exact hs2.free had2
      · exact hb.elim
    have hal : al ≠ r ∨ ∀ H', SqL K H' al (nums.map V.int) := by
      rcases hS with (h | ⟨o, h⟩) | h
      · exact .inl (ne_of_none h hr0)
      · exact .inl (ne_of_none h hr0)
      · exact .inr fun _ => .inr h
    have harg : ArgA K H3 (fun b => b = x ∨ Ft y ad (fun _ _ => False) b) al (nums.map V.int) := by
      rcases hS with (h | ⟨o, h⟩) | h
      · have h1 := hs1 _ _ h
        exact .inl ⟨.inl (hs3 _ _ (hs2 _ _ h1)), fun z => by rw [hG _ z] at h1; cases h1⟩
      · have h1 := hs1 _ _ h
        exact .inl ⟨.inr ⟨o, hs3 _ _ (hs2 _ _ h1)⟩, fun z => by rw [hG _ z] at h1; cases h1⟩
      · exact .inr fun _ => .inr h
    have hM : Ma TT c K H3 x y al nums 0 Squeeze.start 0 (fun b => b = x ∨ Ft y ad (fun _ _ => False) b) dx dy ad [] (fun _ _ => False) := by
      refine ⟨hx3, ⟨hy3, had3, rfl, Nat.le_refl _, fun i _ _ => rfl, fun i fd hi hs => ?_, fun _ _ _ _ h => h.elim, fun _ _ h => h.elim, fun _ _ h => h.elim⟩, fun z => ?_, rfl, harg, ((hT.ext hs1).ext hs2).ext hs3⟩
      · have : ∀ i : Nat, i < 4 → (Squeeze.start : Squeeze.State)[i]? = some none := fun i hi => by
          show (List.replicate 4 (none : Option Squeeze.Feed))[i]? = _
          rw [List.getElem?_replicate]
          exact if_pos hi
        rw [this i hi] at hs
        cases hs
      · rcases z with z | z | ⟨_, z⟩
        · exact hyx z
        · exact hxad z
        · exact z
    have hrG : ¬ (r = x ∨ Ft y ad (fun _ _ => False) r) := fun z => by rw [hG _ z] at hr1; cases hr1
    refine ⟨fun kk σ H' => ∃ (v4 : Option V) (k m : Nat) (st : Squeeze.State) (cls' : List Squeeze.Call) (G : Addr → Prop) (dh dx ad : Addr) (kvs : List (Key × V)) (S : Nat → Addr → Prop) (out : List Int), σ = [some (.ref al), some (.ref r), some (.ref x), some (.ref y), v4] ∧ Ma TT c K H' x y al nums k st m G dh dx ad kvs S ∧ Line (nums.drop k) cls' ∧
      H' r = some (.lst (out.map V.int)) ∧ ¬ G r ∧ dueOf Squeeze.start cls = out ++ dueOf st cls' ∧ m + cls'.length ≤ 300 ∧ cls'.length = kk ∧ k ≤ nums.length,
      ⟨cls.length, none, 0, 0, Squeeze.start, cls, _, dx, dy, ad, [], _, [], rfl, hM, hL, hr3, hrG, rfl, by omega, rfl, Nat.zero_le _⟩, fun kk σ H' hW => ?_⟩
    obtain ⟨v4, k, m, st, cls', G, dh, dx', ad', kvs, S, out, rfl, M, hL', hr', hGr, hdue, hm, hkk, hk⟩ := hW
    refine ⟨_, rfl, x, dh, _, rfl, M.hh, hd_meth (by decide +kernel) (by decide +kernel), x, dh, al, nums, k, rfl, M.hh, M.arg.sq, _, rfl, ?_⟩
    refine ite2 (fun h1 => ?_) (fun h1 => ?_)
    · have h1' : k < nums.length := of_decide_eq_true h1
      generalize hd : nums.drop k = ds at hL'
      cases hL' with
      | nil =>
        have := congrArg List.length hd
        rw [List.length_drop, List.length_nil] at this
        omega
      | @cons l rest cl cs hC hL2 =>
        have hdlen := congrArg List.length hd
        rw [List.length_drop, List.length_append] at hdlen
        have hl1 := callAt_len hC
        have hdue2 : dueOf st (cl :: cs) = ((SqueezeNeutral.numbersOf (Squeeze.step st cl).2).length : Int) :: (SqueezeNeutral.numbersOf (Squeeze.step st cl).2 ++ dueOf (Squeeze.step st cl).1 cs) := rfl
        rw [hdue2] at hdue
        have hlens := congrArg List.length hdue
        rw [List.length_append, List.length_cons, List.length_append] at hlens
        rw [List.length_cons] at hm hkk
        refine ⟨_, fun _ _ h => h, ?_⟩
        refine ⟨_, rfl, _, rfl, x, y, al, nums, k, l, cl, rest, G, dh, dx', ad', kvs, st, m, S, rfl, M, hd, hC, by omega, by omega, by omega, fun H4 p hP hp hnep => ?_⟩
        have hpr : p ≠ r := (hnep r ⟨_, hr', by intro ps z; cases z⟩ hGr).symm
        obtain ⟨G4, dh4, dx4, ad4, kvs4, S4, M4, mv4⟩ := hP
        have hr4 := mv4.get hr' (by intro ps z; cases z) hGr
        have hGr4 := mv4.own ⟨_, hr', by intro ps z; cases z⟩ hGr
        generalize (Squeeze.step st cl).1 = st2 at *
        generalize SqueezeNeutral.numbersOf (Squeeze.step st cl).2 = ns at *
        have hol : (out.map V.int).length = out.length := List.length_map ..
        have hnl2 : (ns.map V.int).length = ns.length := List.length_map ..
        refine ⟨_, rfl, .inl ⟨rfl, _, .inl (.inl hr4)⟩, _, rfl, _, _, rfl, .inl (.inl (.inl hp)), r, _, _, rfl, rfl, hr4, by rw [hol]; exact line_lt (by omega), ?_⟩
        rw [hnl2]
        have M5 := M4.aside (ys := out.map V.int ++ [.int (ns.length : Nat)]) hr4 hGr4 hal
        have hp5 : upd H4 r (.lst (out.map V.int ++ [.int (ns.length : Nat)])) p = some (.lst (ns.map V.int)) := by rw [upd_ne hpr]; exact hp
        have hr5 : upd H4 r (.lst (out.map V.int ++ [.int (ns.length : Nat)])) r = some (.lst (out.map V.int ++ [.int (ns.length : Nat)])) := upd_same
        generalize upd H4 r (.lst (out.map V.int ++ [.int (ns.length : Nat)])) = H5 at M5 hp5 hr5 ⊢
        refine ⟨_, rfl, .inl ⟨rfl, _, .inl (.inl hr5)⟩, _, rfl, r, p, _, _, rfl, rfl, hr5, hp5, by rw [List.length_append, hol, hnl2]; exact line_le (by show _ + 1 + _ ≤ _; omega), ?_⟩
        have M6 := M5.aside (ys := out.map V.int ++ [.int (ns.length : Nat)] ++ ns.map V.int) hr5 hGr4 hal
        refine ⟨kk - 1, by omega, _, k + l.length, m + 1, st2, cs, G4, dh4, dx4, ad4, kvs4, S4, out ++ (ns.length : Int) :: ns, rfl, M6, ?_, ?_, hGr4, ?_, by omega, by omega, by omega⟩
        · rw [← List.drop_drop, hd, List.drop_left]
          exact hL2
        · rw [upd_same, List.map_append, List.map_cons, List.append_assoc]
          rfl
        · rw [hdue, List.append_assoc]
          rfl
    · have h1' : ¬ k < nums.length := fun z => h1 (decide_eq_true z)
      have hd : nums.drop k = [] := List.drop_of_length_le (by omega)
      rw [hd] at hL'
      have hcl0 : cls' = [] := by
        generalize hz : ([] : List Int) = z at hL'
        cases hL' with
        | nil => rfl
        | @cons l rest cl cs hC hL2 =>
          have := congrArg List.length hz
          have := callAt_len hC
          simp at *
          omega
      rw [hcl0] at hdue
      have hdue : dueOf Squeeze.start cls = out := by
        rw [hdue]
        exact List.append_nil _
      rw [← hdue] at hr'
      exact ⟨_, rfl, qq _ r hr'⟩
end
end Sq
end
section
set_option Elab.async false
set_option maxRecDepth 100000
set_option maxHeartbeats 2000000
/-! what's handed in, by the document. -/
namespace Sq
open SqueezeNeutral (text nats callOf)
theorem whole_id (c : List (List Int)) : PyWqaecq.whole c = c := by
  unfold PyWqaecq.whole
  split <;> rfl
theorem bints_text : ∀ {r : List Int}, (r.all fun z => PyInside.within 0 255 z) = true → bints (text r) = r
  | [], _ => rfl
  | z :: r, h => by
    rw [List.all_cons, Bool.and_eq_true] at h
    have hz : 0 ≤ z ∧ z ≤ 255 := by
      have := h.1
      unfold PyInside.within at this
      rw [Bool.and_eq_true, decide_eq_true_iff, decide_eq_true_iff] at this
      exact this
    have ih := bints_text h.2
    show (((UInt8.ofNat z.toNat).toNat : Nat) : Int) :: bints (text r) = z :: r
    rw [ih, UInt8.toNat_ofNat', Nat.mod_eq_of_lt (by omega)]
    congr 1
    omega
theorem nints_nats : ∀ {r : List Int}, (r.all fun z => PyInside.within 0 18446744073709551615 z) = true → nints (nats r) = r
  | [], _ => rfl
  | z :: r, h => by
    rw [List.all_cons, Bool.and_eq_true] at h
    have hz : 0 ≤ z := by
      have := h.1
      unfold PyInside.within at this
      rw [Bool.and_eq_true, decide_eq_true_iff] at this
      exact this.1
    have ih := nints_nats h.2
    show ((z.toNat : Nat) : Int) :: nints (nats r) = z :: r
    rw [ih]
    congr 1
    omega
theorem text_len (r : List Int) : (text r).length = r.length := by
  unfold text nats
  rw [List.length_map, List.length_map]
theorem nats_len (r : List Int) : (nats r).length = r.length := List.length_map ..
theorem row_one {s : List Int} {xs : List (List Int)} {t : List Int} (h : PyFlat.rows 1 s = some (xs, t)) : ∃ x, xs = [x] ∧ s = (x.length : Int) :: (x ++ t) := by
  cases s with
  | nil => cases h
  | cons n r =>
    have h2 : (match (if 0 ≤ n ∧ n.toNat ≤ r.length then some (r.take n.toNat, r.drop n.toNat) else none) with
      | none => none
      | some (x, s) => some ([x], s)) = some (xs, t) := h
    by_cases c : 0 ≤ n ∧ n.toNat ≤ r.length
    · rw [if_pos c] at h2
      cases h2
      refine ⟨_, rfl, ?_⟩
      rw [List.take_append_drop, List.length_take]
      congr 1
      omega
    · rw [if_neg c] at h2
      cases h2
/-- one call: its parts -/
theorem call_parts {p : Int} {r t : List Int} {c : List (List Int)} {n k : Nat} (hs : PyWqaecq.shape p = some (n, k)) (h : PyFlat.call PyWqaecq.shape (p :: r) = some (c, t)) : ∃ xs, c = (p :: r.take n) :: xs ∧ n ≤ r.length ∧ PyFlat.rows k (r.drop n) = some (xs, t) := by
  unfold PyFlat.call at h
  dsimp only at h
  rw [hs] at h
  dsimp only at h
  by_cases hl : r.length < n
  · rw [if_pos hl] at h
    cases h
  · rw [if_neg hl] at h
    cases hr : PyFlat.rows k (r.drop n) with
    | none => rw [hr] at h; cases h
    | some q =>
      rw [hr] at h
      cases h
      exact ⟨q.1, rfl, by omega, rfl⟩
theorem in_row {lo hi : Int} {least most : Nat} {x : List Int} (h : PyInside.lists [(lo, hi, least, most)] [x] = true) : x.length ≤ most ∧ (x.all fun z => PyInside.within lo hi z) = true := by
  have h2 : (decide (least ≤ x.length) && decide (x.length ≤ most) && x.all (PyInside.within lo hi) && true) = true := h
  rw [Bool.and_true, Bool.and_eq_true, Bool.and_eq_true, decide_eq_true_iff, decide_eq_true_iff] at h2
  exact ⟨h2.1.2, h2.2⟩
theorem within_ge {lo hi z : Int} (h : PyInside.within lo hi z = true) : lo ≤ z := by
  unfold PyInside.within at h
  rw [Bool.and_eq_true, decide_eq_true_iff] at h
  exact h.1
/-- a call of a row alone -/
theorem call_row {p : Int} {r t : List Int} {c : List (List Int)} (hs : PyWqaecq.shape p = some (0, 1)) (h : PyFlat.call PyWqaecq.shape (p :: r) = some (c, t)) : ∃ x, c = [[p], x] ∧ p :: r = (p :: (x.length : Int) :: x) ++ t := by
  obtain ⟨xs, rfl, _, h3⟩ := call_parts hs h
  obtain ⟨x, rfl, h4⟩ := row_one h3
  rw [List.drop_zero] at h4
  exact ⟨x, rfl, by rw [h4]; rfl⟩
theorem one_call {p : Int} {r t : List Int} {c : List (List Int)} (h : PyFlat.call PyWqaecq.shape (p :: r) = some (c, t)) (hb : PyInside.call PyWqaecq.bound c = true) : ∃ l cl, CallAt l cl ∧ p :: r = l ++ t ∧ callOf c = some cl := by
  have hrow : ∀ {x : List Int}, PyInside.lists [(0, 255, 0, 15990)] [x] = true → (text x).length ≤ 30000 ∧ bints (text x) = x ∧ ((text x).length : Int) = (x.length : Int) := fun {x} hx => by
    obtain ⟨h1, h2⟩ := in_row hx
    rw [text_len]
    exact ⟨by omega, bints_text h2, rfl⟩
  by_cases p0 : p = 0
  · subst p0
    obtain ⟨x, rfl, e⟩ := call_row rfl h
    obtain ⟨h1, h2, h3⟩ := hrow (x := x) hb
    exact ⟨_, _, .pack (text x) h1, by rw [h2, h3]; exact e, rfl⟩
  by_cases p1 : p = 1
  · subst p1
    obtain ⟨x, rfl, e⟩ := call_row rfl h
    obtain ⟨h1, h2, h3⟩ := hrow (x := x) hb
    exact ⟨_, _, .unpack (text x) h1, by rw [h2, h3]; exact e, rfl⟩
  by_cases p2 : p = 2
  · subst p2
    obtain ⟨xs, rfl, h2, h3⟩ := call_parts (n := 2) (k := 1) rfl h
    obtain ⟨x, rfl, h4⟩ := row_one h3
    match r, h2, h3, h4, hb, h with
    | a :: b :: r', h2, h3, h4, hb, h =>
      have hb2 : ((PyInside.within 0 18446744073709551615 a && (PyInside.within 0 18446744073709551615 b && true)) && PyInside.lists [(0, 255, 0, 15990)] [x]) = true := hb
      rw [Bool.and_eq_true, Bool.and_eq_true, Bool.and_true] at hb2
      have ha := within_ge hb2.1.1
      have hbb := within_ge hb2.1.2
      obtain ⟨g1, g2, g3⟩ := hrow (x := x) hb2.2
      refine ⟨_, _, .at_ a.toNat b.toNat (text x) g1, ?_, rfl⟩
      rw [g2, g3, show ((a.toNat : Nat) : Int) = a by omega, show ((b.toNat : Nat) : Int) = b by omega]
      show 2 :: a :: b :: r' = 2 :: a :: b :: (x.length : Int) :: (x ++ t)
      rw [show r' = (x.length : Int) :: (x ++ t) from h4]
  by_cases p3 : p = 3
  · subst p3
    obtain ⟨x, rfl, e⟩ := call_row rfl h
    obtain ⟨h1, h2, h3⟩ := hrow (x := x) hb
    exact ⟨_, _, .judge (text x) h1, by rw [h2, h3]; exact e, rfl⟩
  by_cases p4 : p = 4
  · subst p4
    obtain ⟨x, rfl, e⟩ := call_row rfl h
    obtain ⟨h1, h2, h3⟩ := hrow (x := x) hb
    exact ⟨_, _, .length (text x) h1, by rw [h2, h3]; exact e, rfl⟩
  by_cases p5 : p = 5
  · subst p5
    obtain ⟨x, rfl, e⟩ := call_row rfl h
    obtain ⟨h1, h2, h3⟩ := hrow (x := x) hb
    exact ⟨_, _, .parse (text x) h1, by rw [h2, h3]; exact e, rfl⟩
  by_cases p6 : p = 6
  · subst p6
    obtain ⟨x, rfl, e⟩ := call_row rfl h
    obtain ⟨h1, h2⟩ := in_row (x := x) hb
    refine ⟨_, _, .lengths (nats x) (by rw [nats_len]; omega), ?_, rfl⟩
    rw [nints_nats h2, nats_len]
    exact e
  by_cases p7 : p = 7
  · subst p7
    obtain ⟨xs, rfl, h2, h3⟩ := call_parts (n := 1) (k := 0) rfl h
    cases h3
    match r, h2, hb, h with
    | a :: r', h2, hb, h =>
      have hb2 : ((PyInside.within 0 18446744073709551615 a && true) && true) = true := hb
      rw [Bool.and_true, Bool.and_true] at hb2
      have ha := within_ge hb2
      refine ⟨_, _, .begin_ a.toNat, ?_, rfl⟩
      rw [show ((a.toNat : Nat) : Int) = a by omega]
      rfl
  by_cases p8 : p = 8
  · subst p8
    obtain ⟨xs, rfl, h2, h3⟩ := call_parts (n := 1) (k := 1) rfl h
    obtain ⟨x, rfl, h4⟩ := row_one h3
    match r, h2, h3, h4, hb, h with
    | a :: r', h2, h3, h4, hb, h =>
      have hb2 : ((PyInside.within 0 18446744073709551615 a && true) && PyInside.lists [(0, 255, 0, 15990)] [x]) = true := hb
      rw [Bool.and_eq_true, Bool.and_true] at hb2
      have ha := within_ge hb2.1
      obtain ⟨g1, g2, g3⟩ := hrow (x := x) hb2.2
      refine ⟨_, _, .feed a.toNat (text x) g1, ?_, rfl⟩
      rw [g2, g3, show ((a.toNat : Nat) : Int) = a by omega]
      show 8 :: a :: r' = 8 :: a :: (x.length : Int) :: (x ++ t)
      rw [show r' = (x.length : Int) :: (x ++ t) from h4]
  by_cases p9 : p = 9
  · subst p9
    obtain ⟨xs, rfl, h2, h3⟩ := call_parts (n := 1) (k := 0) rfl h
    cases h3
    match r, h2, hb, h with
    | a :: r', h2, hb, h =>
      have hb2 : ((PyInside.within 0 18446744073709551615 a && true) && true) = true := hb
      rw [Bool.and_true, Bool.and_true] at hb2
      have ha := within_ge hb2
      refine ⟨_, _, .end_ a.toNat, ?_, rfl⟩
      rw [show ((a.toNat : Nat) : Int) = a by omega]
      rfl
  have hs : PyWqaecq.shape p = none := by
    unfold PyWqaecq.shape
    rw [if_neg p0, if_neg p1, if_neg p2, if_neg p3, if_neg p4, if_neg p5, if_neg p6, if_neg p7, if_neg p8, if_neg p9]
  unfold PyFlat.call at h
  dsimp only at h
  rw [hs] at h
  cases h
theorem calls_line : ∀ (f : Nat) (l : List Int) (raw : List (List (List Int))), PyFlat.calls PyWqaecq.shape f l = some raw → PyInside.calls PyWqaecq.bound raw = true →
    ∃ cls, Line l cls ∧ cls.length = raw.length ∧ ∀ st, PyFlat.told (PyFlat.played SqueezeNeutral.step st raw) = dueOf st cls
  | f, [], raw, h, _ => by
    have h2 : some [] = some raw := by
      cases f <;> exact h
    cases h2
    exact ⟨[], .nil, rfl, fun st => rfl⟩
  | 0, _ :: _, _, h, _ => by cases h
  | f + 1, p :: r, raw, h, hb => by
    unfold PyFlat.calls at h
    cases hc : PyFlat.call PyWqaecq.shape (p :: r) with
    | none => rw [hc] at h; cases h
    | some q =>
      obtain ⟨c, t⟩ := q
      rw [hc] at h
      dsimp only at h
      cases hr : PyFlat.calls PyWqaecq.shape f t with
      | none => rw [hr] at h; cases h
      | some cs =>
        rw [hr] at h
        cases h
        have hb2 : (PyInside.call PyWqaecq.bound c && PyInside.calls PyWqaecq.bound cs) = true := hb
        rw [Bool.and_eq_true] at hb2
        obtain ⟨l, cl, h1, h2, h3⟩ := one_call hc hb2.1
        obtain ⟨cls, g1, g2, g3⟩ := calls_line f t cs hr hb2.2
        refine ⟨cl :: cls, by rw [h2]; exact .cons h1 g1, by rw [List.length_cons, List.length_cons, g2], fun st => ?_⟩
        have hst : SqueezeNeutral.step st c = ((Squeeze.step st cl).1, SqueezeNeutral.numbersOf (Squeeze.step st cl).2) := by
          unfold SqueezeNeutral.step
          rw [h3]
        show PyFlat.told ((SqueezeNeutral.step st c).2 :: PyFlat.played SqueezeNeutral.step (SqueezeNeutral.step st c).1 cs) = _
        rw [hst]
        show ((SqueezeNeutral.numbersOf (Squeeze.step st cl).2).length : Int) :: (SqueezeNeutral.numbersOf (Squeeze.step st cl).2) ++ PyFlat.told (PyFlat.played SqueezeNeutral.step (Squeeze.step st cl).1 cs) = _
        rw [g3]
        rfl
/-- what's asked for, and what's due -/
theorem asked_line (l : List Int) (h : PyWqaecq.answers_asked l = true) : ∃ cls, Line l cls ∧ cls.length ≤ 300 ∧ PyWqaecq.answers l = dueOf Squeeze.start cls ∧ (dueOf Squeeze.start cls).length ≤ 10000000 := by
  unfold PyWqaecq.answers_asked at h
  cases hr : PyFlat.calls PyWqaecq.shape l.length l with
  | none => rw [hr] at h; cases h
  | some raw =>
    rw [hr] at h
    dsimp only at h
    rw [Bool.and_eq_true, Bool.and_eq_true, Bool.and_eq_true] at h
    obtain ⟨⟨⟨h1, h2⟩, _⟩, h4⟩ := h
    obtain ⟨cls, g1, g2, g3⟩ := calls_line _ l raw hr h2
    have ea : PyWqaecq.answers l = dueOf Squeeze.start cls := by
      unfold PyWqaecq.answers PyWqaecq.calls
      rw [hr]
      dsimp only
      rw [show raw.map PyWqaecq.whole = raw by
        have : PyWqaecq.whole = id := funext whole_id
        rw [this, List.map_id]]
      exact g3 _
    refine ⟨cls, g1, ?_, ea, ?_⟩
    · rw [g2]
      exact of_decide_eq_true h1
    · rw [← ea]
      exact of_decide_eq_true h4
end Sq
end
section
set_option Elab.async false
set_option maxRecDepth 100000
set_option maxHeartbeats 2000000
/-! the end: the call of one list of whole numbers, tables of code objects laid. -/
namespace Sq
open PySem PySem.Spec PyProof.Rows L2 LamX
open PySem.W (WData Codec OpenSpec Well WellAll ReadsW)
abbrev lstO (vs : List Value) : Obj := { cls := .type "list", data := .seq vs.toArray }
abbrev tabO : Obj := { cls := .none, data := .fields #[] }
/-- what's tracked at first: the request, the tables -/
def firstH (K : PySem.W.Frag) (a : Addr) (vs : List Value) (ns : List Int) (ts : List Addr) : Hp := fun b =>
  if b = a then (if (K.lookup a).isNone = true then some (.frz (lstO vs) (.lst (ns.map V.int))) else none) else if b ∈ ts then some (.tbl #[]) else none
theorem firstH_a {K : PySem.W.Frag} {a : Addr} {vs : List Value} {ns : List Int} {ts : List Addr} : firstH K a vs ns ts a = if (K.lookup a).isNone = true then some (.frz (lstO vs) (.lst (ns.map V.int))) else none := if_pos rfl
theorem firstH_t {K : PySem.W.Frag} {a b : Addr} {vs : List Value} {ns : List Int} {ts : List Addr} (h : b ≠ a) (hb : b ∈ ts) : firstH K a vs ns ts b = some (.tbl #[]) := (if_neg h).trans (if_pos hb)
theorem firstH_n {K : PySem.W.Frag} {a b : Addr} {vs : List Value} {ns : List Int} {ts : List Addr} (h : b ≠ a) (hb : b ∉ ts) : firstH K a vs ns ts b = none := (if_neg h).trans (if_neg hb)
theorem well_ints {Pm : Params} {h : Heap} : ∀ {ns : List Int} {vs : List Value}, WellAll Pm h vs (ns.map WData.int) → Vals (ns.map V.int) vs
  | [], _, x => by
    cases x
    exact .nil
  | n :: ns, _, x => by
    cases x with
    | cons x1 x2 =>
      cases x1 with
      | int i t => exact .cons ⟨t, rfl⟩ (well_ints x2)
theorem callT {P : Program} {w : World} {K : PySem.W.Frag} {mg mb : Str → Option Value} {k : Nat} {fa a : Addr} {cs : List (Addr × Addr)} {fd : FuncData} {x : Str} {sp : Sp} {s1 : Shared} {vs : List Value} {ns : List Int} {R : PySem.W.WRecords} {cl : Str → Option Addr} {d0 : WData}
    (KX : K.In s1.heap) (nsG : s1.heap.Ns mainGlobals mg) (nsB : s1.heap.Ns builtinsNs mb) (boot : ∀ y : Str, y ≠ "__name__" → mb y = bootBuiltins y) (lim : s1.heap.NoLimit) (gens : s1.gens = #[])
    (hT : ∀ p ∈ cs, PySem.W.CodeHd s1.heap p.1 p.2 ∧ s1.heap.get? p.2 = some tabO) (nT : ∀ p ∈ cs, K.lookup p.2 = none)
    (bmain : ∃ bm ob, mg "__builtins__" = some (.ref bm) ∧ bm ≠ builtinsNs ∧ s1.heap.get? bm = some ob ∧ ob.cls = .type "module" ∧ ob.dict = some builtinsNs ∧ ob.data = .plain)
    (hreq : s1.heap.get? a = some (lstO vs)) (hv : Vals (ns.map V.int) vs) (hl : ns.length ≤ sizeLine) (hr : Room k callerA)
    (F : ∀ base : Heap, K.In base → base.Ns mainGlobals mg → (∀ p ∈ cs, TabB base mg p.1 p.2) → FnOk P w K mg base CX0 k fa fd [x] sp) (hbind : ∀ (s : Shared) (u : Value), BindsTo s fd ⟨[u], []⟩ [(x, u)])
    (hsp : ∀ H : Hp, (∀ p ∈ cs, H p.2 = some (.tbl #[])) → SqL K H a (ns.map V.int) → sp [.ref a] H (fun v H' => Dw K H' v d0) fun _ _ _ => False) :
    codeAny (model P w) callerA (.call (.ref fa) ⟨[.ref a], []⟩) (fun r s' => ∃ u as, r = .ok (.ret u) ∧ ReadsW R cl s'.heap u d0 as ∧ OldK s1.heap s'.heap ∧ s'.os = s1.os ∧ AllBare s'.gens) s1 := by
  have hlen := Paired.length hv
  rw [List.length_map] at hlen
  -- the tables
  have atT : ∀ b, b ∈ cs.map Prod.snd → s1.heap.get? b = some tabO ∧ K.lookup b = none := fun b hb => by
    obtain ⟨p, hp, rfl⟩ := List.mem_map.mp hb
    exact ⟨(hT p hp).2, nT p hp⟩
  have inT : ∀ p ∈ cs, p.2 ∈ cs.map Prod.snd := fun p hp => List.mem_map_of_mem hp
  have reqT : a ∉ cs.map Prod.snd := fun z => by
    have e := (atT a z).1
    rw [hreq] at e
    have e2 : Data.seq vs.toArray 0 = Data.fields #[] := congrArg Obj.data (Option.some.inj e)
    cases e2
  have neT : ∀ b, b ∈ cs.map Prod.snd → b ≠ a := fun b hb z => reqT (z ▸ hb)
  -- what's tracked
  have hH : ∀ p ∈ cs, firstH K a vs ns (cs.map Prod.snd) p.2 = some (.tbl #[]) := fun p hp => firstH_t (neT _ (inT p hp)) (inT p hp)
  have hS : SqL K (firstH K a vs ns (cs.map Prod.snd)) a (ns.map V.int) := by
    cases hk : K.lookup a with
    | none => exact .inl (.inr ⟨lstO vs, by rw [firstH_a, hk]; rfl⟩)
    | some o =>
      have e := KX a o hk
      rw [hreq] at e
      obtain rfl := Option.some.inj e
      exact .inr ⟨_, vs.toArray, _, hk, rfl, rfl, rfl, by rw [List.size_toArray]; omega, by simpa using hv⟩
  have hok : HOk P w (firstH K a vs ns (cs.map Prod.snd)) s1.heap := fun b u q => by
    by_cases hba : b = a
    · subst hba
      rw [firstH_a] at q
      split at q
      · cases q
        exact ⟨hreq, by rw [List.length_map]; exact hl, vs, _, hv, hreq⟩
      · cases q
    · by_cases hbt : b ∈ cs.map Prod.snd
      · rw [firstH_t hba hbt] at q
        cases q
        exact (atT b hbt).1
      · rw [firstH_n hba hbt] at q
        cases q
  have tracked : ∀ b, firstH K a vs ns (cs.map Prod.snd) b ≠ none → (b = a ∧ K.lookup a = none) ∨ b ∈ cs.map Prod.snd := fun b hb => by
    by_cases hba : b = a
    · subst hba
      rw [firstH_a] at hb
      cases hk : K.lookup b with
      | none => exact .inl ⟨rfl, rfl⟩
      | some o =>
        rw [hk] at hb
        exact absurd rfl hb
    · by_cases hbt : b ∈ cs.map Prod.snd
      · exact .inr hbt
      · exact absurd (firstH_n hba hbt) hb
  have kinds : ∀ b, firstH K a vs ns (cs.map Prod.snd) b = none ∨ b ∈ cs.map Prod.snd ∨ ∃ o u, firstH K a vs ns (cs.map Prod.snd) b = some (.frz o u) := fun b => by
    by_cases hba : b = a
    · subst hba
      rw [firstH_a]
      split
      · exact .inr (.inr ⟨_, _, rfl⟩)
      · exact .inl rfl
    · by_cases hbt : b ∈ cs.map Prod.snd
      · exact .inr (.inl hbt)
      · exact .inl (firstH_n hba hbt)
  generalize firstH K a vs ns (cs.map Prod.snd) = H at hH hS hok tracked kinds
  -- what isn't a list nor an empty table isn't tracked
  have untr : ∀ {b : Addr} {o : Obj}, s1.heap.get? b = some o → (∀ xs n, o.data ≠ .seq xs n) → o.data ≠ .fields #[] → H b = none := fun {b o} e h1 h2 => by
    cases q : H b with
    | none => rfl
    | some u =>
      rcases tracked b (by rw [q]; exact Option.some_ne_none u) with ⟨rfl, _⟩ | hb
      · rw [hreq] at e
        cases e
        exact absurd rfl (h1 _ _)
      · rw [(atT b hb).1] at e
        cases e
        exact absurd rfl h2
  have nsH : ∀ {b : Addr} {m : Str → Option Value}, s1.heap.Ns b m → (hidT s1.heap H).Ns b m := fun {b m} y => by
    obtain ⟨o, es, ep, e, d, r⟩ := y
    exact ⟨o, es, ep, hidT_get e (untr e (fun xs n z => by rw [d] at z; cases z) (fun z => by rw [d] at z; cases z)), d, r⟩
  have KH : K.In (hidT s1.heap H) := fun b o e => hidT_get (KX b o e) (by
    cases q : H b with
    | none => rfl
    | some u =>
      rcases tracked b (by rw [q]; exact Option.some_ne_none u) with ⟨rfl, h2⟩ | hb
      · rw [e] at h2
        cases h2
      · rw [(atT b hb).2] at e
        cases e)
  have modH : L2.Mod K mg (hidT s1.heap H) := by
    obtain ⟨mc, h1, h2⟩ := lim
    exact ⟨KH, nsH nsG, ⟨mb, nsH nsB, boot⟩, ⟨mc, nsH h1, h2⟩⟩
  have TBs : ∀ p ∈ cs, TabB (hidT s1.heap H) mg p.1 p.2 := fun p hp => by
    obtain ⟨hC, htab⟩ := hT p hp
    refine ⟨?_, ?_, fun z => ?_⟩
    · obtain ⟨o, us, file, tf, flags, tg, inF, txt, tt, e1, r1, r2, r3, rest⟩ := hC
      refine ⟨o, us, file, tf, flags, tg, inF, txt, tt, hidT_get e1 (untr e1 (fun xs n z => by rw [r2] at z; cases z) (fun z => ?_)), r1, r2, r3, rest⟩
      rw [r2] at z
      cases z
      simp at r3
    · obtain ⟨bm, ob, b1, b2, b3, b4, b5, b6⟩ := bmain
      refine ⟨bm, ob, b1, b2, fun z => ?_, fun z => ?_, hidT_get b3 (untr b3 (fun xs n z => by rw [b6] at z; cases z) (fun z => by rw [b6] at z; cases z)), b4, b5, b6⟩
      · obtain ⟨o, es, ep, e, hd, _⟩ := nsG
        rw [z, e] at b3
        cases b3
        rw [hd] at b6
        cases b6
      · rw [z, htab] at b3
        cases b3
        cases b6
    · obtain ⟨o, es, ep, e, hd, _⟩ := nsG
      rw [z, htab] at e
      cases e
      cases hd
  have e0 : Env0 P w K mg (hidT s1.heap H) callerA [] s1 H := ⟨rfl, modH, fun b o e => of_hidT e, Nat.le_of_eq (hidT_size _ _), trivial, fun b hb => absurd (show b ∈ ([] : List Addr) from hb) (by simp), hok, .of_eq gens⟩
  refine codeAny_mono ((F _ KH (nsH nsG) TBs).run callerA [] s1 H ⟨[.ref a], []⟩ [.ref a] [.ref a] _ _ hr e0 (hbind s1 (.ref a)) (.cons rfl .nil) (hsp H hH hS)) fun r s' q => ?_
  cases r with
  | error e => exact False.elim q
  | ok fl =>
    cases fl with
    | next => exact False.elim q
    | brk => exact False.elim q
    | cont => exact False.elim q
    | ret u =>
      obtain ⟨v, H', os, bare, un, hok', rv, hd⟩ := q
      have stays : ∀ b o, b ∉ cs.map Prod.snd → s1.heap.get? b = some o → s'.heap.get? b = some o := fun b o nb e => by
        rcases kinds b with z | z | ⟨ob, u3, z⟩
        · exact un.keep b o e z (by intro y; exact absurd (show b ∈ ([] : List Addr) from y) (by simp)) (by simp)
        · exact absurd z nb
        · have e1 := (hok b _ z).1
          have e2 := (hok' b _ (un.frzs b ob _ z)).1
          rw [e1] at e
          cases e
          exact e2
      have grown : ∀ p ∈ cs, ∃ more : Array Value, s'.heap.get? p.2 = some { cls := .none, data := .fields more } := fun p hp => by
        obtain ⟨more, z⟩ := un.tbls p.2 #[] (hH p hp)
        exact ⟨_, hok' p.2 _ z⟩
      have KX' : K.In s'.heap := fun b o e => stays b o (fun hb => by rw [(atT b hb).2] at e; cases e) (KX b o e)
      obtain ⟨as, hrd⟩ := Dw.reads (R := R) (cl := cl) hok' KX' d0 v u hd rv
      refine ⟨u, as, rfl, hrd, ⟨fun b o e => ?_, fun b o e => ?_⟩, os, bare⟩
      · by_cases hb : b ∈ cs.map Prod.snd
        · obtain ⟨p, hp, rfl⟩ := List.mem_map.mp hb
          obtain ⟨more, hm⟩ := grown p hp
          rw [(atT _ hb).1] at e
          cases e
          exact .inr (.inl ⟨((hT p hp).1.tab (hT p hp).2).isCodeTable, rfl, #[], more, rfl, by rw [Array.empty_append]; exact hm⟩)
        · exact .inl (stays b o hb e)
      · by_cases hb : b ∈ cs.map Prod.snd
        · obtain ⟨p, hp, rfl⟩ := List.mem_map.mp hb
          obtain ⟨more, hm⟩ := grown p hp
          exact ⟨_, hm⟩
        · exact ⟨o, stays b o hb e⟩
end Sq
end
section
set_option Elab.async false
set_option maxRecDepth 100000
set_option maxHeartbeats 2000000
/-! the end: the row. -/
namespace Sq
open PySem PySem.Spec PyProof.Rows L2 LamX
open PySem.W (WData Codec OpenSpec Well WellAll ReadsW tabIn)
/-- what's found at the head -/
structure AtHead (w : World) (K : PySem.W.Frag) (mg : Str → Option Value) (fa : Addr) (h : Heap) : Prop where
  ex : ∃ (fd : FuncData) (cs : List (Addr × Addr)) (TT : List (Addr × Str)), (∀ p ∈ cs, PySem.W.CodeHd h p.1 p.2 ∧ h.get? p.2 = some tabO) ∧ (∀ p ∈ cs, K.lookup p.2 = none) ∧ (∀ (s : Shared) (u : Value), BindsTo s fd ⟨[u], []⟩ [("calls", u)]) ∧ (∀ p ∈ TT, ∃ q ∈ cs, q.2 = p.1) ∧
    ∀ base : Heap, K.In base → base.Ns mainGlobals mg → (∀ p ∈ cs, TabB base mg p.1 p.2) → FnOk theRow.prog w K mg base CX0 15 fa fd ["calls"] (sp_answers TT K)
theorem walkT {q : Program} {loose : List Str} {XP : (Str → Option Value) → Heap → Prop} {YP : World → Heap → Prop} {d : DefRec} (hdf : d.params.defaults = [])
    (F : ∀ (w : World) (mg : Str → Option Value) (fa : Addr) (h : Heap), YP w h → h.Ns mainGlobals mg → mg d.name = some (.ref fa) → ∃ K : PySem.W.Frag, K.In h ∧ AtHead w K mg fa h) :
    PySem.W.WalkOS q loose XP YP theRow d [] (fun f vs => PySem.call f vs) := by
  intro w s0 s1 mg mb G Y fa o pm cd doc dV kV ho hd hcd hD hmg gens args vals as hpre hlay hrd hwl hlo
  obtain ⟨a, e1, e2⟩ := PySem.W.os_pre_some hpre
  obtain ⟨e3, hwi⟩ := Codec.encAll_of_decAll theRow.args args a e1
  subst e3
  obtain ⟨K, KX, A⟩ := F w mg fa _ Y G.T.g hmg
  obtain ⟨fd, cs, TT, hT, nT, hb, hTT, hF⟩ := A.ex
  -- the request: one list of whole numbers
  have hin : ((Codec.inLen 0 16000 a.1 && a.1.all (Codec.inInt 0 18446744073709551615)) && true) = true := hwi
  rw [Bool.and_true, Bool.and_eq_true] at hin
  have hlen : a.1.length ≤ 16000 := (Codec.inNat_iff.mp hin.1).2
  have hask : PyWqaecq.answers_asked a.1 = true := e2
  obtain ⟨v, vs0, rfl, hw1, hw2⟩ := well_cons (show WellAll w.params s1.heap vals (WData.list (a.1.map WData.int) :: []) from hwl)
  cases hw2
  obtain ⟨al, vs, rfl, hreq, hall⟩ := well_list hw1
  obtain ⟨cls, g1, g2, g3, g4⟩ := asked_line a.1 hask
  refine PySem.W.enter_call (codeAny_mono (callT (R := []) (cl := classAt s0.heap) (d0 := theRow.ret.enc (Codec.app theRow.args theRow.f a)) KX G.T.g G.T.b G.T.builtins G.T.nolimit gens hT nT G.T.bmain hreq (well_ints hall) (line_le (by omega)) ⟨rfl, by decide, by decide⟩ hF hb fun H hH hS => ?_) fun r' s' hq => ?_)
  · refine ⟨al, a.1, cls, rfl, hS, g1, g2, hlen, g4, fun p hp => ?_, fun H' p hp => ?_⟩
    · obtain ⟨q', hq', e⟩ := hTT p hp
      exact TabS.nil (by rw [← e]; exact hH q' hq')
    · have e : theRow.ret.enc (Codec.app theRow.args theRow.f a) = WData.list ((dueOf Squeeze.start cls).map WData.int) := by
        rw [← g3]
        rfl
      rw [e]
      exact .lst (.inl (.inl hp)) (dw_ints _)
  · obtain ⟨u, as', rfl, h1, h2, h3, h4⟩ := hq
    exact ⟨.inl ⟨u, _, as', rfl, fun _ => rfl, h1, (OpenSpec.post_iff wSaid hwi _ _).mpr rfl, fun z => Bool.noConfusion (show false = true from z)⟩, h2, h3, h4⟩
end Sq
end
section
set_option Elab.async false
set_option maxRecDepth 100000
set_option maxHeartbeats 2000000
/-! all promises, from the facts. -/
namespace Sq
open PySem PySem.Spec PyProof.Rows L2 LamX SqX
def caK (K : PySem.W.Frag) : CA := ⟨He.ga K "NoCodedBlock", He.ga K "BitReader", He.ga K "Tails", He.ga K "RowReader", He.ga K "Answer", He.ga K "Handed", He.ga K "Refusal", He.ga K "BeyondText", He.ga K "TooLong", He.ga K "NoPackedRow", He.ga K "PackedOtherwise", He.ga K "Packing", He.ga K "States", He.ga K "TooOften", He.ga K "NoState", He.ga K "NotBegun"⟩
def csK (K : PySem.W.Frag) : List (Addr × Addr) := [He.cT K ("code_lengths", none), He.cT K ("codewords", none)]
def ttK (K : PySem.W.Frag) : List (Addr × Str) := [((He.cT K ("code_lengths", none)).2, lamN "code_lengths"), ((He.cT K ("codewords", none)).2, lamN "codewords")]
theorem oexB_ok {K : PySem.W.Frag} {C : Addr} (e : oexB K C = true) : OexC K C := by
  obtain ⟨q, e⟩ := He.ba e
  obtain ⟨e1, e⟩ := He.ba e
  obtain ⟨e2, e⟩ := He.ba e
  obtain ⟨e3, e4⟩ := He.ba e
  refine ⟨?_, He.eqO_ok e1, of_decide_eq_true e2, of_decide_eq_true e3, e4⟩
  split at q
  · rename_i t dd cd sl ho
    split at q
    · rename_i C' bm k0 k1 k2 k3 n k5 hm hs
      obtain ⟨q, hr⟩ := He.ba q
      obtain ⟨q1, q⟩ := He.ba q
      obtain ⟨q2, q⟩ := He.ba q
      obtain ⟨q3, q⟩ := He.ba q
      obtain ⟨q4, q5⟩ := He.ba q
      obtain rfl := beq_iff_eq.mp q1
      obtain rfl := beq_iff_eq.mp q2
      obtain rfl := beq_iff_eq.mp q3
      obtain ⟨nm, bs, mro, ns, qn, hd, sn, sub, ab, col, del⟩ := cd
      dsimp only at hm q4 q5
      have q6 : del = false := by
        cases del
        · rfl
        · cases q4
      subst hm q5 q6
      have hsl : sl = #[k0, k1, k2, k3, some (.builtin "ValueError.__new__"), k5] := by
        obtain ⟨l⟩ := sl
        simp only at hs
        rw [hs]
      subst hsl
      exact ⟨nm, qn, ns, bs, bm, sn, sub, ab, col, dd, k0, k1, k2, k3, k5, ho, hr⟩
    · cases q
  · cases q
theorem exK_mark {K : PySem.W.Frag} (e : exK K = true) : He.tupB K "MARK" markD = true := (He.ba e).1
theorem exK_cls {K : PySem.W.Frag} (e : exK K = true) : clsB K "Refusal" "__init__" = true := (He.ba (He.ba e).2).1
theorem exK_ref {K : PySem.W.Frag} (e : exK K = true) (i : Nat) {x : Str} (hx : refN[i]? = some x) : oexB K (He.ga K x) = true ∧ xfB K (He.ga K x) = true ∧
    PySem.W.findIn K (.ref (He.ga K x)) "__init__" = some (some (.ref (He.ma K (He.ga K x) "__init__"))) ∧ PySem.W.typeIn K (.ref (He.ma K (He.ga K x) "__init__")) = some (.type "function") := by
  have e2 := (He.ba (He.ba (He.ba e).2).2).1
  have e3 := List.all_eq_true.mp e2 x (List.mem_of_getElem? hx)
  obtain ⟨a, e4⟩ := He.ba (show (oexB K (He.ga K x) && (xfB K (He.ga K x) && initB K x)) = true from e3)
  obtain ⟨b, e5⟩ := He.ba e4
  obtain ⟨c, d⟩ := He.ba (show (He.eqO _ _ && decide _) = true from e5)
  exact ⟨a, b, He.eqO_ok c, of_decide_eq_true d⟩
theorem exK_ne {K : PySem.W.Frag} (e : exK K = true) : (He.cT K ("code_lengths", none)).2 ≠ (He.cT K ("codewords", none)).2 := fun z => by
  have e2 := (He.ba (He.ba (He.ba e).2).2).2
  rw [z] at e2
  have e3 : (!((He.cT K ("codewords", none)).2 == (He.cT K ("codewords", none)).2)) = true := e2
  rw [beq_self_eq_true] at e3
  cases e3
/-- what's told of the heap behind the top -/
structure HH (w : World) (K : PySem.W.Frag) (mg : Str → Option Value) (h : Heap) : Prop where
  X : K.In h
  G : h.Ns mainGlobals mg
  c : He.SaysX fa fn [] tf exK w h K
structure HB (w : World) (K : PySem.W.Frag) (mg : Str → Option Value) (base h : Heap) : Prop extends HH w K mg h where
  bK : K.In base
  bN : base.Ns mainGlobals mg
  tb : ∀ p ∈ csK K, TabB base mg p.1 p.2
section
variable {w : World} {K : PySem.W.Frag} {mg : Str → Option Value} {base h0 : Heap}
theorem fn_of_def {x qual : Str} {st : Stmt} {f : Addr} (e : ∃ fd, FunD K x qual (defArgs st) (defBody st) (defScope st) [] [] f fd) : ∃ fd, Fun K x qual st f fd := by
  obtain ⟨fd, F⟩ := e
  obtain ⟨oc, od, dV, kV, doc, pm, an, cdv, ct, osl, e, lk, hcd, hd, _⟩ := F.ex
  have e0 : dV = .none := by
    rcases hd with h | h
    · exact h.2
    · exact absurd rfl h.1
  subst e0
  exact ⟨fd, ⟨oc, od, kV, doc, pm, an, cdv, ct, osl, e, lk, hcd⟩, F.kp⟩
theorem code_of {x qual : Str} {st : Stmt} {p : He.Defn} {fd : FuncData} (F : Fun K x qual st (He.fAd K p) fd) : fd.code = .ref (He.cT K p).1 := by
  obtain ⟨oc, od, kV, doc, pm, an, cdv, ct, osl, rfl, lk, hcd⟩ := F.ex
  obtain ⟨a, rfl⟩ := He.codeIn_ref hcd
  exact congrArg Value.ref (He.codeOf_eq lk rfl).symm
theorem txK (h : HH w K mg h0) : Tx K mg (caK K) where
  range := He.free_ok h.X h.G (h.c.t.d.fact 0 rfl)
  len := He.free_ok h.X h.G (h.c.t.d.fact 1 rfl)
  enumerate := He.free_ok h.X h.G (h.c.t.d.fact 2 rfl)
  sorted := He.free_ok h.X h.G (h.c.t.d.fact 3 rfl)
  reversed := He.free_ok h.X h.G (h.c.t.d.fact 4 rfl)
  zip := He.free_ok h.X h.G (h.c.t.d.fact 5 rfl)
  min := He.free_ok h.X h.G (h.c.t.d.fact 6 rfl)
  max := He.free_ok h.X h.G (h.c.t.d.fact 7 rfl)
  sum := He.free_ok h.X h.G (h.c.t.d.fact 8 rfl)
  any := He.free_ok h.X h.G (h.c.t.d.fact 9 rfl)
  list := He.free_ok h.X h.G (h.c.t.d.fact 10 rfl)
  tuple := He.free_ok h.X h.G (h.c.t.d.fact 11 rfl)
  dict := He.free_ok h.X h.G (h.c.t.d.fact 12 rfl)
  LONGEST_WORD := He.int_ok h.X h.G (h.c.t.d.fact 13 rfl)
  SHORTEST_MATCH := He.int_ok h.X h.G (h.c.t.d.fact 14 rfl)
  LONGEST_MATCH := He.int_ok h.X h.G (h.c.t.d.fact 15 rfl)
  LETTER_COST := He.int_ok h.X h.G (h.c.t.d.fact 16 rfl)
  MATCH_COST := He.int_ok h.X h.G (h.c.t.d.fact 17 rfl)
  COST_UNIT := He.int_ok h.X h.G (h.c.t.d.fact 18 rfl)
  LEVELS := He.int_ok h.X h.G (h.c.t.d.fact 19 rfl)
  LETTERS := He.int_ok h.X h.G (h.c.t.d.fact 20 rfl)
  SYMBOLS := He.int_ok h.X h.G (h.c.t.d.fact 21 rfl)
  DISTANCE_CLASSES := He.int_ok h.X h.G (h.c.t.d.fact 22 rfl)
  LONGEST_RUN := He.int_ok h.X h.G (h.c.t.d.fact 23 rfl)
  SIZE_WIDTH := He.int_ok h.X h.G (h.c.t.d.fact 24 rfl)
  LENGTH_WIDTH := He.int_ok h.X h.G (h.c.t.d.fact 25 rfl)
  RUN_WIDTH := He.int_ok h.X h.G (h.c.t.d.fact 26 rfl)
  BLOCK_SIZE := He.int_ok h.X h.G (h.c.t.d.fact 27 rfl)
  COUNT_OCTETS := He.int_ok h.X h.G (h.c.t.d.fact 28 rfl)
  SIZE_OCTETS := He.int_ok h.X h.G (h.c.t.d.fact 29 rfl)
  STORED := He.int_ok h.X h.G (h.c.t.d.fact 30 rfl)
  CODED := He.int_ok h.X h.G (h.c.t.d.fact 31 rfl)
  ENDS := He.int_ok h.X h.G (h.c.t.d.fact 32 rfl)
  NOT_SO := He.int_ok h.X h.G (h.c.t.d.fact 33 rfl)
  COUNT_OFF := He.int_ok h.X h.G (h.c.t.d.fact 34 rfl)
  LEFT_OVER := He.int_ok h.X h.G (h.c.t.d.fact 35 rfl)
  BITS_OFF := He.int_ok h.X h.G (h.c.t.d.fact 36 rfl)
  MOST_TEXT := He.int_ok h.X h.G (h.c.t.d.fact 37 rfl)
  MOST_ROW := He.int_ok h.X h.G (h.c.t.d.fact 38 rfl)
  PACK := He.int_ok h.X h.G (h.c.t.d.fact 39 rfl)
  UNPACK := He.int_ok h.X h.G (h.c.t.d.fact 40 rfl)
  AT := He.int_ok h.X h.G (h.c.t.d.fact 41 rfl)
  JUDGE := He.int_ok h.X h.G (h.c.t.d.fact 42 rfl)
  LENGTH := He.int_ok h.X h.G (h.c.t.d.fact 43 rfl)
  PARSE := He.int_ok h.X h.G (h.c.t.d.fact 44 rfl)
  LENGTHS := He.int_ok h.X h.G (h.c.t.d.fact 45 rfl)
  BEGIN := He.int_ok h.X h.G (h.c.t.d.fact 46 rfl)
  FEED := He.int_ok h.X h.G (h.c.t.d.fact 47 rfl)
  END := He.int_ok h.X h.G (h.c.t.d.fact 48 rfl)
  MOST_OFTEN := He.int_ok h.X h.G (h.c.t.d.fact 49 rfl)
  MOST_OFTEN_IN_SUM := He.int_ok h.X h.G (h.c.t.d.fact 50 rfl)
  HIGHEST_STATE := He.int_ok h.X h.G (h.c.t.d.fact 51 rfl)
  MARK := ⟨_, He.glo_ok h.X h.G (h.c.t.d.fact 52 rfl), fun H => He.tupB_ok (vs := markD) (exK_mark h.c.more) H⟩
  g_BitReader := He.glo_ok h.X h.G (h.c.t.d.fact 53 rfl)
  c_BitReader := He.cls_ok (h.c.t.d.fact 54 rfl)
  n_BitReader_bits := He.noat_ok (h.c.t.d.fact 55 rfl)
  n_BitReader_taken := He.noat_ok (h.c.t.d.fact 56 rfl)
  g_Tails := He.glo_ok h.X h.G (h.c.t.d.fact 57 rfl)
  c_Tails := He.cls_ok (h.c.t.d.fact 58 rfl)
  n_Tails_levels := He.noat_ok (h.c.t.d.fact 59 rfl)
  n_Tails_size := He.noat_ok (h.c.t.d.fact 60 rfl)
  g_RowReader := He.glo_ok h.X h.G (h.c.t.d.fact 61 rfl)
  c_RowReader := He.cls_ok (h.c.t.d.fact 62 rfl)
  n_RowReader_row := He.noat_ok (h.c.t.d.fact 63 rfl)
  n_RowReader_part_start := He.noat_ok (h.c.t.d.fact 64 rfl)
  n_RowReader_part_stop := He.noat_ok (h.c.t.d.fact 65 rfl)
  n_RowReader_reached := He.noat_ok (h.c.t.d.fact 66 rfl)
  n_RowReader_text_size := He.noat_ok (h.c.t.d.fact 67 rfl)
  n_RowReader_blocks := He.noat_ok (h.c.t.d.fact 68 rfl)
  n_RowReader_part := He.noat_ok (h.c.t.d.fact 69 rfl)
  g_Answer := He.glo_ok h.X h.G (h.c.t.d.fact 70 rfl)
  c_Answer := He.cls_ok (h.c.t.d.fact 71 rfl)
  n_Answer_number := He.noat_ok (h.c.t.d.fact 72 rfl)
  n_Answer_octets := He.noat_ok (h.c.t.d.fact 73 rfl)
  n_Answer_figures := He.noat_ok (h.c.t.d.fact 74 rfl)
  g_Handed := He.glo_ok h.X h.G (h.c.t.d.fact 75 rfl)
  c_Handed := He.cls_ok (h.c.t.d.fact 76 rfl)
  n_Handed_numbers := He.noat_ok (h.c.t.d.fact 77 rfl)
  n_Handed_reached := He.noat_ok (h.c.t.d.fact 78 rfl)
  g_Packing := He.glo_ok h.X h.G (h.c.t.d.fact 79 rfl)
  c_Packing := He.cls_ok (h.c.t.d.fact 80 rfl)
  n_Packing_size := He.noat_ok (h.c.t.d.fact 81 rfl)
  n_Packing_waiting := He.noat_ok (h.c.t.d.fact 82 rfl)
  n_Packing_upcoming := He.noat_ok (h.c.t.d.fact 83 rfl)
  n_Packing_known := He.noat_ok (h.c.t.d.fact 84 rfl)
  g_States := He.glo_ok h.X h.G (h.c.t.d.fact 85 rfl)
  c_States := He.cls_ok (h.c.t.d.fact 86 rfl)
  n_States_packings := He.noat_ok (h.c.t.d.fact 87 rfl)
  g_NoCodedBlock := He.glo_ok h.X h.G (h.c.t.d.fact 88 rfl)
  x_NoCodedBlock := (He.exc_ok (h.c.t.d.fact 89 rfl)).1
  k_NoCodedBlock := (He.exc_ok (h.c.t.d.fact 89 rfl)).2.1
  b_NoCodedBlock := (He.exc_ok (h.c.t.d.fact 89 rfl)).2.2.1
  t_NoCodedBlock := (He.exc_ok (h.c.t.d.fact 89 rfl)).2.2.2
  e_NoCodedBlock := He.exm_ok (h.c.t.d.fact 90 rfl)
  g_Refusal := He.glo_ok h.X h.G (h.c.t.d.fact 91 rfl)
  g_BeyondText := He.glo_ok h.X h.G (h.c.t.d.fact 92 rfl)
  o_BeyondText := oexB_ok (exK_ref h.c.more 0 rfl).1
  n_BeyondText_number := He.noat_ok (h.c.t.d.fact 93 rfl)
  n_BeyondText_kind := He.noat_ok (h.c.t.d.fact 94 rfl)
  n_BeyondText_place := He.noat_ok (h.c.t.d.fact 95 rfl)
  e_BeyondText := He.exm_ok (h.c.t.d.fact 96 rfl)
  x_BeyondText := xfB_ok (exK_ref h.c.more 0 rfl).2.1
  f_BeyondText := He.exm_ok (h.c.t.d.fact 97 rfl)
  g_TooLong := He.glo_ok h.X h.G (h.c.t.d.fact 98 rfl)
  o_TooLong := oexB_ok (exK_ref h.c.more 1 rfl).1
  n_TooLong_number := He.noat_ok (h.c.t.d.fact 99 rfl)
  n_TooLong_kind := He.noat_ok (h.c.t.d.fact 100 rfl)
  n_TooLong_place := He.noat_ok (h.c.t.d.fact 101 rfl)
  e_TooLong := He.exm_ok (h.c.t.d.fact 102 rfl)
  x_TooLong := xfB_ok (exK_ref h.c.more 1 rfl).2.1
  f_TooLong := He.exm_ok (h.c.t.d.fact 103 rfl)
  g_NoPackedRow := He.glo_ok h.X h.G (h.c.t.d.fact 104 rfl)
  o_NoPackedRow := oexB_ok (exK_ref h.c.more 2 rfl).1
  n_NoPackedRow_number := He.noat_ok (h.c.t.d.fact 105 rfl)
  n_NoPackedRow_kind := He.noat_ok (h.c.t.d.fact 106 rfl)
  n_NoPackedRow_place := He.noat_ok (h.c.t.d.fact 107 rfl)
  e_NoPackedRow := He.exm_ok (h.c.t.d.fact 108 rfl)
  x_NoPackedRow := xfB_ok (exK_ref h.c.more 2 rfl).2.1
  f_NoPackedRow := He.exm_ok (h.c.t.d.fact 109 rfl)
  g_TooOften := He.glo_ok h.X h.G (h.c.t.d.fact 110 rfl)
  o_TooOften := oexB_ok (exK_ref h.c.more 3 rfl).1
  n_TooOften_number := He.noat_ok (h.c.t.d.fact 111 rfl)
  n_TooOften_kind := He.noat_ok (h.c.t.d.fact 112 rfl)
  n_TooOften_place := He.noat_ok (h.c.t.d.fact 113 rfl)
  e_TooOften := He.exm_ok (h.c.t.d.fact 114 rfl)
  x_TooOften := xfB_ok (exK_ref h.c.more 3 rfl).2.1
  f_TooOften := He.exm_ok (h.c.t.d.fact 115 rfl)
  g_NoState := He.glo_ok h.X h.G (h.c.t.d.fact 116 rfl)
  o_NoState := oexB_ok (exK_ref h.c.more 4 rfl).1
  n_NoState_number := He.noat_ok (h.c.t.d.fact 117 rfl)
  n_NoState_kind := He.noat_ok (h.c.t.d.fact 118 rfl)
  n_NoState_place := He.noat_ok (h.c.t.d.fact 119 rfl)
  e_NoState := He.exm_ok (h.c.t.d.fact 120 rfl)
  x_NoState := xfB_ok (exK_ref h.c.more 4 rfl).2.1
  f_NoState := He.exm_ok (h.c.t.d.fact 121 rfl)
  g_NotBegun := He.glo_ok h.X h.G (h.c.t.d.fact 122 rfl)
  o_NotBegun := oexB_ok (exK_ref h.c.more 5 rfl).1
  n_NotBegun_number := He.noat_ok (h.c.t.d.fact 123 rfl)
  n_NotBegun_kind := He.noat_ok (h.c.t.d.fact 124 rfl)
  n_NotBegun_place := He.noat_ok (h.c.t.d.fact 125 rfl)
  e_NotBegun := He.exm_ok (h.c.t.d.fact 126 rfl)
  x_NotBegun := xfB_ok (exK_ref h.c.more 5 rfl).2.1
  f_NotBegun := He.exm_ok (h.c.t.d.fact 127 rfl)
  g_PackedOtherwise := He.glo_ok h.X h.G (h.c.t.d.fact 128 rfl)
  o_PackedOtherwise := oexB_ok (exK_ref h.c.more 6 rfl).1
  n_PackedOtherwise_number := He.noat_ok (h.c.t.d.fact 129 rfl)
  n_PackedOtherwise_kind := He.noat_ok (h.c.t.d.fact 130 rfl)
  n_PackedOtherwise_place := He.noat_ok (h.c.t.d.fact 131 rfl)
  e_PackedOtherwise := He.exm_ok (h.c.t.d.fact 132 rfl)
  x_PackedOtherwise := xfB_ok (exK_ref h.c.more 6 rfl).2.1
  f_PackedOtherwise := He.exm_ok (h.c.t.d.fact 133 rfl)
theorem clsM_ref (h : HH w K mg h0) : ClsM K (caK K).Refusal "__init__" (He.ma K (He.ga K "Refusal") "__init__") := by
  obtain ⟨e1, e⟩ := He.ba (exK_cls h.c.more)
  obtain ⟨e2, e⟩ := He.ba e
  obtain ⟨e3, e4⟩ := He.ba e
  refine ⟨He.eqO_ok e1, e2, ?_, rfl, e4⟩
  unfold isFound at e3
  split at e3
  · rename_i b q
    rw [beq_iff_eq.mp e3] at q
    exact q
  · cases e3
theorem tt_u0 (h : HH w K mg h0) : ∀ q ∈ ttK K, q.1 = (He.cT K ("code_lengths", none)).2 → q.2 = lamN "code_lengths" := fun q hq e => by
  have n := exK_ne h.c.more
  rcases List.mem_cons.mp hq with rfl | hq
  · rfl
  · rcases List.mem_cons.mp hq with rfl | hq
    · exact absurd e.symm n
    · cases hq
theorem tt_u1 (h : HH w K mg h0) : ∀ q ∈ ttK K, q.1 = (He.cT K ("codewords", none)).2 → q.2 = lamN "codewords" := fun q hq e => by
  have n := exK_ne h.c.more
  rcases List.mem_cons.mp hq with rfl | hq
  · exact absurd e n
  · rcases List.mem_cons.mp hq with rfl | hq
    · rfl
    · cases hq
theorem hc_Handed_init (b : HB w K mg base h0) : Hc theRow.prog w K mg base CX0 1 "Handed" (caK K).Handed ["self", "numbers"] (sp_hd_init (caK K).Handed) := by
  obtain ⟨fd, F⟩ := fn_of_def (x := "__init__") (qual := "Handed.__init__") (st := s_Handed_init) (f := He.fAd K ("Handed", some "__init__")) (b.c.t.d.def_ 82 (d := d_Handed_init) rfl)
  exact ⟨_, fd, He.glo_ok b.X b.G (b.c.t.d.fact 75 rfl), He.mkr_ok (b.c.t.d.fact 134 rfl), F.binds (ps := ["self", "numbers"]) (fun _ _ _ _ _ _ us hl => match us, hl with | [_, _], _ => rfl), ok_Handed_init (txK b.toHH) F⟩
theorem hc_States_init (b : HB w K mg base h0) : Hc theRow.prog w K mg base CX0 1 "States" (caK K).States ["self"] (sp_st_init (caK K).States) := by
  obtain ⟨fd, F⟩ := fn_of_def (x := "__init__") (qual := "States.__init__") (st := s_States_init) (f := He.fAd K ("States", some "__init__")) (b.c.t.d.def_ 77 (d := d_States_init) rfl)
  exact ⟨_, fd, He.glo_ok b.X b.G (b.c.t.d.fact 85 rfl), He.mkr_ok (b.c.t.d.fact 135 rfl), F.binds (ps := ["self"]) (fun _ _ _ _ _ _ us hl => match us, hl with | [_], _ => rfl), ok_States_init (txK b.toHH) F⟩
theorem hm_has_more (b : HB w K mg base h0) : Hm theRow.prog w K mg base CX0 1 (caK K).Handed "has_more" ["self"] (sp_hd_more K (caK K).Handed) := by
  obtain ⟨fd, F⟩ := fn_of_def (x := "has_more") (qual := "Handed.has_more") (st := s_Handed_has_more) (f := He.fAd K ("Handed", some "has_more")) (b.c.t.d.def_ 83 (d := d_has_more) rfl)
  exact ⟨_, fd, He.meth_ok (b.c.t.d.fact 136 rfl), F.binds (ps := ["self"]) (fun _ _ _ _ _ _ us hl => match us, hl with | [_], _ => rfl), ok_has_more (txK b.toHH) F⟩
theorem hm_take (b : HB w K mg base h0) : Hm theRow.prog w K mg base CX0 1 (caK K).Handed "take" ["self"] (sp_hd_take K (caK K).Handed) := by
  obtain ⟨fd, F⟩ := fn_of_def (x := "take") (qual := "Handed.take") (st := s_Handed_take) (f := He.fAd K ("Handed", some "take")) (b.c.t.d.def_ 84 (d := d_take) rfl)
  exact ⟨_, fd, He.meth_ok (b.c.t.d.fact 137 rfl), F.binds (ps := ["self"]) (fun _ _ _ _ _ _ us hl => match us, hl with | [_], _ => rfl), ok_take (txK b.toHH) F⟩
theorem hm_take_row (b : HB w K mg base h0) : Hm theRow.prog w K mg base CX0 2 (caK K).Handed "take_row" ["self"] (sp_hd_row K (caK K).Handed) := by
  obtain ⟨fd, F⟩ := fn_of_def (x := "take_row") (qual := "Handed.take_row") (st := s_Handed_take_row) (f := He.fAd K ("Handed", some "take_row")) (b.c.t.d.def_ 85 (d := d_take_row) rfl)
  exact ⟨_, fd, He.meth_ok (b.c.t.d.fact 138 rfl), F.binds (ps := ["self"]) (fun _ _ _ _ _ _ us hl => match us, hl with | [_], _ => rfl), ok_take_row (txK b.toHH) (hm_take b) F⟩
theorem he_TooLong_init (b : HB w K mg base h0) : He theRow.prog w K mg base CX0 2 "TooLong" (caK K).TooLong ["self"] (sp_fixed_init (caK K).TooLong (-2)) := by
  obtain ⟨fd, F⟩ := fn_of_def (x := "__init__") (qual := "TooLong.__init__") (st := s_TooLong_init) (f := He.fAd K ("TooLong", some "__init__")) (b.c.t.d.def_ 53 (d := d_TooLong_init) rfl)
  obtain ⟨fdr, FR⟩ := fn_of_def (x := "__init__") (qual := "Refusal.__init__") (st := s_Refusal_init) (f := He.fAd K ("Refusal", some "__init__")) (b.c.t.d.def_ 50 (d := d_Refusal_init) rfl)
  exact ⟨_, fd, He.glo_ok b.X b.G (b.c.t.d.fact 98 rfl), oexB_ok (exK_ref b.c.more 1 rfl).1, (exK_ref b.c.more 1 rfl).2.2.1, (exK_ref b.c.more 1 rfl).2.2.2, F.binds (ps := ["self"]) (fun _ _ _ _ _ _ us hl => match us, hl with | [_], _ => rfl), ok_TooLong_init (txK b.toHH) (clsM_ref b.toHH) (ok_Refusal_init FR) (FR.binds (ps := ["self", "number", "kind", "place"]) (fun _ _ _ _ _ _ us hl => match us, hl with | [_, _, _, _], _ => rfl)) F⟩
theorem hc_RowReader_init (b : HB w K mg base h0) : Hc theRow.prog w K mg base CX0 1 "RowReader" (caK K).RowReader ["self", "row", "part_start", "part_stop"] (sp_rr_init (caK K).RowReader) := by
  obtain ⟨fd, F⟩ := fn_of_def (x := "__init__") (qual := "RowReader.__init__") (st := s_RowReader_init) (f := He.fAd K ("RowReader", some "__init__")) (b.c.t.d.def_ 62 (d := d_RowReader_init) rfl)
  exact ⟨_, fd, He.glo_ok b.X b.G (b.c.t.d.fact 61 rfl), He.mkr_ok (b.c.t.d.fact 139 rfl), F.binds (ps := ["self", "row", "part_start", "part_stop"]) (fun _ _ _ _ _ _ us hl => match us, hl with | [_, _, _, _], _ => rfl), ok_RowReader_init (txK b.toHH) F⟩
theorem he_NoPackedRow_init (b : HB w K mg base h0) : He theRow.prog w K mg base CX0 2 "NoPackedRow" (caK K).NoPackedRow ["self", "kind", "place"] (sp_NoPackedRow_init (caK K)) := by
  obtain ⟨fd, F⟩ := fn_of_def (x := "__init__") (qual := "NoPackedRow.__init__") (st := s_NoPackedRow_init) (f := He.fAd K ("NoPackedRow", some "__init__")) (b.c.t.d.def_ 51 (d := d_NoPackedRow_init) rfl)
  obtain ⟨fdr, FR⟩ := fn_of_def (x := "__init__") (qual := "Refusal.__init__") (st := s_Refusal_init) (f := He.fAd K ("Refusal", some "__init__")) (b.c.t.d.def_ 50 (d := d_Refusal_init) rfl)
  exact ⟨_, fd, He.glo_ok b.X b.G (b.c.t.d.fact 104 rfl), oexB_ok (exK_ref b.c.more 2 rfl).1, (exK_ref b.c.more 2 rfl).2.2.1, (exK_ref b.c.more 2 rfl).2.2.2, F.binds (ps := ["self", "kind", "place"]) (fun _ _ _ _ _ _ us hl => match us, hl with | [_, _, _], _ => rfl), ok_NoPackedRow_init (txK b.toHH) (clsM_ref b.toHH) (ok_Refusal_init FR) (FR.binds (ps := ["self", "number", "kind", "place"]) (fun _ _ _ _ _ _ us hl => match us, hl with | [_, _, _, _], _ => rfl)) F⟩
theorem hm_RowReader_take (b : HB w K mg base h0) : Hm theRow.prog w K mg base (L2.CX theRow.prog w) 4 (caK K).RowReader "take" ["self", "count"] (sp_rr_take (caK K)) := by
  obtain ⟨fd, F⟩ := fn_of_def (x := "take") (qual := "RowReader.take") (st := s_RowReader_take) (f := He.fAd K ("RowReader", some "take")) (b.c.t.d.def_ 58 (d := d_RowReader_take) rfl)
  exact ⟨_, fd, He.meth_ok (b.c.t.d.fact 140 rfl), F.binds (ps := ["self", "count"]) (fun _ _ _ _ _ _ us hl => match us, hl with | [_, _], _ => rfl), ok_RowReader_take (txK b.toHH) (he_NoPackedRow_init b) F⟩
theorem hm_RowReader_take_number (b : HB w K mg base h0) : Hm theRow.prog w K mg base (L2.CX theRow.prog w) 5 (caK K).RowReader "take_number" ["self", "width"] (sp_rr_take_number (caK K)) := by
  obtain ⟨fd, F⟩ := fn_of_def (x := "take_number") (qual := "RowReader.take_number") (st := s_RowReader_take_number) (f := He.fAd K ("RowReader", some "take_number")) (b.c.t.d.def_ 59 (d := d_RowReader_take_number) rfl)
  exact ⟨_, fd, He.meth_ok (b.c.t.d.fact 141 rfl), F.binds (ps := ["self", "width"]) (fun _ _ _ _ _ _ us hl => match us, hl with | [_, _], _ => rfl), ok_RowReader_take_number (txK b.toHH) (hm_RowReader_take b) F⟩
theorem hm_RowReader_read_mark (b : HB w K mg base h0) : Hm theRow.prog w K mg base (L2.CX theRow.prog w) 6 (caK K).RowReader "read_mark" ["self"] (sp_rr_mark (caK K)) := by
  obtain ⟨fd, F⟩ := fn_of_def (x := "read_mark") (qual := "RowReader.read_mark") (st := s_RowReader_read_mark) (f := He.fAd K ("RowReader", some "read_mark")) (b.c.t.d.def_ 60 (d := d_RowReader_read_mark) rfl)
  exact ⟨_, fd, He.meth_ok (b.c.t.d.fact 142 rfl), F.binds (ps := ["self"]) (fun _ _ _ _ _ _ us hl => match us, hl with | [_], _ => rfl), ok_RowReader_read_mark (txK b.toHH) (hm_RowReader_take_number b) (he_NoPackedRow_init b) F⟩
theorem hd_low_first (b : HB w K mg base h0) : Hd theRow.prog w K mg base CX0 1 "low_first" ["number", "width"] sp_low_first := by
  obtain ⟨fd, F⟩ := fn_of_def (x := "low_first") (qual := "low_first") (st := s_low_first) (f := He.fAd K ("low_first", none)) (b.c.t.d.def_ 0 (d := d_low_first) rfl)
  exact ⟨_, fd, He.glo_ok b.X b.G (b.c.t.d.fact 143 rfl), F.kp, F.binds (ps := ["number", "width"]) (fun _ _ _ _ _ _ us hl => match us, hl with | [_, _], _ => rfl), ok_low_first (txK b.toHH) F⟩
theorem hc_BitReader_init (b : HB w K mg base h0) : Hc theRow.prog w K mg base CX0 2 "BitReader" (caK K).BitReader ["self", "octets"] (sp_BitReader_init K (caK K).BitReader) := by
  obtain ⟨fd, F⟩ := fn_of_def (x := "__init__") (qual := "BitReader.__init__") (st := s_BitReader_init) (f := He.fAd K ("BitReader", some "__init__")) (b.c.t.d.def_ 3 (d := d_BitReader_init) rfl)
  exact ⟨_, fd, He.glo_ok b.X b.G (b.c.t.d.fact 53 rfl), He.mkr_ok (b.c.t.d.fact 144 rfl), F.binds (ps := ["self", "octets"]) (fun _ _ _ _ _ _ us hl => match us, hl with | [_, _], _ => rfl), ok_BitReader_init (txK b.toHH) (hd_low_first b) F⟩
theorem hm_BitReader_take_bit (b : HB w K mg base h0) : Hm theRow.prog w K mg base (L2N.CX theRow.prog w) 1 (caK K).BitReader "take_bit" ["self"] (sp_take_bit (caK K)) := by
  obtain ⟨fd, F⟩ := fn_of_def (x := "take_bit") (qual := "BitReader.take_bit") (st := s_BitReader_take_bit) (f := He.fAd K ("BitReader", some "take_bit")) (b.c.t.d.def_ 4 (d := d_BitReader_take_bit) rfl)
  exact ⟨_, fd, He.meth_ok (b.c.t.d.fact 145 rfl), F.binds (ps := ["self"]) (fun _ _ _ _ _ _ us hl => match us, hl with | [_], _ => rfl), ok_BitReader_take_bit (txK b.toHH) F⟩
theorem hm_BitReader_take_number (b : HB w K mg base h0) : Hm theRow.prog w K mg base (L2N.CX theRow.prog w) 2 (caK K).BitReader "take_number" ["self", "width"] (sp_take_number (caK K)) := by
  obtain ⟨fd, F⟩ := fn_of_def (x := "take_number") (qual := "BitReader.take_number") (st := s_BitReader_take_number) (f := He.fAd K ("BitReader", some "take_number")) (b.c.t.d.def_ 5 (d := d_BitReader_take_number) rfl)
  exact ⟨_, fd, He.meth_ok (b.c.t.d.fact 146 rfl), F.binds (ps := ["self", "width"]) (fun _ _ _ _ _ _ us hl => match us, hl with | [_, _], _ => rfl), ok_BitReader_take_number (txK b.toHH) (hm_BitReader_take_bit b) F⟩
theorem hd_coded_size (b : HB w K mg base h0) : Hd theRow.prog w K mg base (L2N.CX theRow.prog w) 4 "coded_size" ["octets"] (sp_coded_size K) := by
  obtain ⟨fd, F⟩ := fn_of_def (x := "coded_size") (qual := "coded_size") (st := s_coded_size) (f := He.fAd K ("coded_size", none)) (b.c.t.d.def_ 48 (d := d_coded_size) rfl)
  exact ⟨_, fd, He.glo_ok b.X b.G (b.c.t.d.fact 147 rfl), F.kp, F.binds (ps := ["octets"]) (fun _ _ _ _ _ _ us hl => match us, hl with | [_], _ => rfl), ok_coded_size (txK b.toHH) (hc_BitReader_init b) (hm_BitReader_take_number b) F⟩
theorem hd_take_lengths (b : HB w K mg base h0) : Hd theRow.prog w K mg base (L2N.CX theRow.prog w) 3 "take_lengths" ["reader"] (sp_take_lengths (caK K)) := by
  obtain ⟨fd, F⟩ := fn_of_def (x := "take_lengths") (qual := "take_lengths") (st := s_take_lengths) (f := He.fAd K ("take_lengths", none)) (b.c.t.d.def_ 42 (d := d_take_lengths) rfl)
  exact ⟨_, fd, He.glo_ok b.X b.G (b.c.t.d.fact 148 rfl), F.kp, F.binds (ps := ["reader"]) (fun _ _ _ _ _ _ us hl => match us, hl with | [_], _ => rfl), ok_take_lengths (txK b.toHH) (hm_BitReader_take_number b) F⟩
theorem hd_is_whole (b : HB w K mg base h0) : Hd theRow.prog w K mg base CX0 1 "is_whole" ["lengths"] (sp_is_whole K) := by
  obtain ⟨fd, F⟩ := fn_of_def (x := "is_whole") (qual := "is_whole") (st := s_is_whole) (f := He.fAd K ("is_whole", none)) (b.c.t.d.def_ 14 (d := d_is_whole) rfl)
  exact ⟨_, fd, He.glo_ok b.X b.G (b.c.t.d.fact 149 rfl), F.kp, F.binds (ps := ["lengths"]) (fun _ _ _ _ _ _ us hl => match us, hl with | [_], _ => rfl), ok_is_whole (txK b.toHH) F⟩
theorem hd_check_codes (b : HB w K mg base h0) : Hd theRow.prog w K mg base (L2N.CX theRow.prog w) 2 "check_codes" ["lengths", "distance_lengths"] (sp_check_codes K (caK K)) := by
  obtain ⟨fd, F⟩ := fn_of_def (x := "check_codes") (qual := "check_codes") (st := s_check_codes) (f := He.fAd K ("check_codes", none)) (b.c.t.d.def_ 43 (d := d_check_codes) rfl)
  exact ⟨_, fd, He.glo_ok b.X b.G (b.c.t.d.fact 150 rfl), F.kp, F.binds (ps := ["lengths", "distance_lengths"]) (fun _ _ _ _ _ _ us hl => match us, hl with | [_, _], _ => rfl), ok_check_codes (txK b.toHH) (hd_is_whole b) F⟩
theorem hd_take_symbol (b : HB w K mg base h0) : Hd theRow.prog w K mg base (L2N.CX theRow.prog w) 2 "take_symbol" ["reader", "symbols"] (sp_take_symbol (caK K)) := by
  obtain ⟨fd, F⟩ := fn_of_def (x := "take_symbol") (qual := "take_symbol") (st := s_take_symbol) (f := He.fAd K ("take_symbol", none)) (b.c.t.d.def_ 46 (d := d_take_symbol) rfl)
  exact ⟨_, fd, He.glo_ok b.X b.G (b.c.t.d.fact 151 rfl), F.kp, F.binds (ps := ["reader", "symbols"]) (fun _ _ _ _ _ _ us hl => match us, hl with | [_, _], _ => rfl), ok_take_symbol (txK b.toHH) (hm_BitReader_take_bit b) F⟩
theorem hd_class_start (b : HB w K mg base h0) : Hd theRow.prog w K mg base CX0 1 "class_start" ["kind"] sp_class_start := by
  obtain ⟨fd, F⟩ := fn_of_def (x := "class_start") (qual := "class_start") (st := s_class_start) (f := He.fAd K ("class_start", none)) (b.c.t.d.def_ 9 (d := d_class_start) rfl)
  exact ⟨_, fd, He.glo_ok b.X b.G (b.c.t.d.fact 152 rfl), F.kp, F.binds (ps := ["kind"]) (fun _ _ _ _ _ _ us hl => match us, hl with | [_], _ => rfl), ok_class_start (txK b.toHH) F⟩
theorem hd_further_width (b : HB w K mg base h0) : Hd theRow.prog w K mg base CX0 1 "further_width" ["kind"] sp_further_width := by
  obtain ⟨fd, F⟩ := fn_of_def (x := "further_width") (qual := "further_width") (st := s_further_width) (f := He.fAd K ("further_width", none)) (b.c.t.d.def_ 8 (d := d_further_width) rfl)
  exact ⟨_, fd, He.glo_ok b.X b.G (b.c.t.d.fact 153 rfl), F.kp, F.binds (ps := ["kind"]) (fun _ _ _ _ _ _ us hl => match us, hl with | [_], _ => rfl), ok_further_width (txK b.toHH) F⟩
theorem hd_take_further (b : HB w K mg base h0) : Hd theRow.prog w K mg base (L2N.CX theRow.prog w) 3 "take_further" ["reader", "kind"] (sp_take_further (caK K)) := by
  obtain ⟨fd, F⟩ := fn_of_def (x := "take_further") (qual := "take_further") (st := s_take_further) (f := He.fAd K ("take_further", none)) (b.c.t.d.def_ 45 (d := d_take_further) rfl)
  exact ⟨_, fd, He.glo_ok b.X b.G (b.c.t.d.fact 154 rfl), F.kp, F.binds (ps := ["reader", "kind"]) (fun _ _ _ _ _ _ us hl => match us, hl with | [_, _], _ => rfl), ok_take_further (txK b.toHH) (hd_class_start b) (hd_further_width b) (hm_BitReader_take_number b) F⟩
theorem hd_take_text (b : HB w K mg base h0) : Hd theRow.prog w K mg base (L2N.CX theRow.prog w) 4 "take_text" ["reader", "size", "symbols", "distance_symbols"] (sp_take_text (caK K)) := by
  obtain ⟨fd, F⟩ := fn_of_def (x := "take_text") (qual := "take_text") (st := s_take_text) (f := He.fAd K ("take_text", none)) (b.c.t.d.def_ 47 (d := d_take_text) rfl)
  exact ⟨_, fd, He.glo_ok b.X b.G (b.c.t.d.fact 155 rfl), F.kp, F.binds (ps := ["reader", "size", "symbols", "distance_symbols"]) (fun _ _ _ _ _ _ us hl => match us, hl with | [_, _, _, _], _ => rfl), ok_take_text (txK b.toHH) (hd_take_symbol b) (hd_take_further b) F⟩
theorem hd_codewords (b : HB w K mg base h0) : Hd theRow.prog w K mg base CX0 1 "codewords" ["lengths"] (sp_codewords K (ttK K)) := by
  obtain ⟨fd, F⟩ := fn_of_def (x := "codewords") (qual := "codewords") (st := s_codewords) (f := He.fAd K ("codewords", none)) (b.c.t.d.def_ 16 (d := d_codewords) rfl)
  exact ⟨_, fd, He.glo_ok b.X b.G (b.c.t.d.fact 156 rfl), F.kp, F.binds (ps := ["lengths"]) (fun _ _ _ _ _ _ us hl => match us, hl with | [_], _ => rfl), ok_codewords (txK b.toHH) (code_of F) (b.tb _ (List.mem_cons_of_mem _ List.mem_cons_self)) (by unfold ttK; simp) (tt_u1 b.toHH) F⟩
theorem hd_symbols_by_word (b : HB w K mg base h0) : Hd theRow.prog w K mg base CX0 2 "symbols_by_word" ["lengths"] (sp_symbols_by_word K (ttK K)) := by
  obtain ⟨fd, F⟩ := fn_of_def (x := "symbols_by_word") (qual := "symbols_by_word") (st := s_symbols_by_word) (f := He.fAd K ("symbols_by_word", none)) (b.c.t.d.def_ 44 (d := d_symbols_by_word) rfl)
  exact ⟨_, fd, He.glo_ok b.X b.G (b.c.t.d.fact 157 rfl), F.kp, F.binds (ps := ["lengths"]) (fun _ _ _ _ _ _ us hl => match us, hl with | [_], _ => rfl), ok_symbols_by_word (txK b.toHH) (hd_codewords b) F⟩
theorem hm_BitReader_bits_left (b : HB w K mg base h0) : Hm theRow.prog w K mg base CX0 1 (caK K).BitReader "bits_left" ["self"] (sp_bits_left (caK K)) := by
  obtain ⟨fd, F⟩ := fn_of_def (x := "bits_left") (qual := "BitReader.bits_left") (st := s_BitReader_bits_left) (f := He.fAd K ("BitReader", some "bits_left")) (b.c.t.d.def_ 6 (d := d_BitReader_bits_left) rfl)
  exact ⟨_, fd, He.meth_ok (b.c.t.d.fact 158 rfl), F.binds (ps := ["self"]) (fun _ _ _ _ _ _ us hl => match us, hl with | [_], _ => rfl), ok_BitReader_bits_left (txK b.toHH) F⟩
theorem hd_decoded (b : HB w K mg base h0) : Hd theRow.prog w K mg base (L2N.CX theRow.prog w) 5 "decoded" ["octets"] (sp_decoded K (ttK K) (caK K)) := by
  obtain ⟨fd, F⟩ := fn_of_def (x := "decoded") (qual := "decoded") (st := s_decoded) (f := He.fAd K ("decoded", none)) (b.c.t.d.def_ 49 (d := d_decoded) rfl)
  exact ⟨_, fd, He.glo_ok b.X b.G (b.c.t.d.fact 159 rfl), F.kp, F.binds (ps := ["octets"]) (fun _ _ _ _ _ _ us hl => match us, hl with | [_], _ => rfl), ok_decoded (txK b.toHH) (hc_BitReader_init b) (hm_BitReader_take_number b) (hd_take_lengths b) (hd_check_codes b) (hd_take_text b) (hd_symbols_by_word b) (hm_BitReader_bits_left b) F⟩
theorem hm_RowReader_decoded_at (b : HB w K mg base h0) : Hm theRow.prog w K mg base (L2.CX theRow.prog w) 6 (caK K).RowReader "decoded_at" ["self", "behind", "kind_place"] (sp_decoded_at K (ttK K) (caK K)) := by
  obtain ⟨fd, F⟩ := fn_of_def (x := "decoded_at") (qual := "RowReader.decoded_at") (st := s_RowReader_decoded_at) (f := He.fAd K ("RowReader", some "decoded_at")) (b.c.t.d.def_ 63 (d := d_RowReader_decoded_at) rfl)
  obtain ⟨fdn, FN⟩ := fn_of_def (x := "__init__") (qual := "NoPackedRow.__init__") (st := s_NoPackedRow_init) (f := He.fAd K ("NoPackedRow", some "__init__")) (b.c.t.d.def_ 51 (d := d_NoPackedRow_init) rfl)
  obtain ⟨fdr, FR⟩ := fn_of_def (x := "__init__") (qual := "Refusal.__init__") (st := s_Refusal_init) (f := He.fAd K ("Refusal", some "__init__")) (b.c.t.d.def_ 50 (d := d_Refusal_init) rfl)
  exact ⟨_, fd, He.meth_ok (b.c.t.d.fact 160 rfl), F.binds (ps := ["self", "behind", "kind_place"]) (fun _ _ _ _ _ _ us hl => match us, hl with | [_, _, _], _ => rfl), ok_RowReader_decoded_at (txK b.toHH) (hd_decoded b) (exK_ref b.c.more 2 rfl).2.2.1 (exK_ref b.c.more 2 rfl).2.2.2 (ok_NoPackedRow_initH (txK b.toHH) (clsM_ref b.toHH) (ok_Refusal_initH FR) (FR.binds (ps := ["self", "number", "kind", "place"]) (fun _ _ _ _ _ _ us hl => match us, hl with | [_, _, _, _], _ => rfl)) FN) (FN.binds (ps := ["self", "kind", "place"]) (fun _ _ _ _ _ _ us hl => match us, hl with | [_, _, _], _ => rfl)) F⟩
theorem hm_RowReader_read_block (b : HB w K mg base h0) : Hm theRow.prog w K mg base (L2.CX theRow.prog w) 7 (caK K).RowReader "read_block" ["self", "octets"] (sp_rr_block (ttK K) (caK K)) := by
  obtain ⟨fd, F⟩ := fn_of_def (x := "read_block") (qual := "RowReader.read_block") (st := s_RowReader_read_block) (f := He.fAd K ("RowReader", some "read_block")) (b.c.t.d.def_ 64 (d := d_RowReader_read_block) rfl)
  exact ⟨_, fd, He.meth_ok (b.c.t.d.fact 161 rfl), F.binds (ps := ["self", "octets"]) (fun _ _ _ _ _ _ us hl => match us, hl with | [_, _], _ => rfl), ok_RowReader_read_block (txK b.toHH) (hd_coded_size b) (hm_RowReader_decoded_at b) (he_NoPackedRow_init b) F⟩
theorem hm_RowReader_read_end (b : HB w K mg base h0) : Hm theRow.prog w K mg base (L2.CX theRow.prog w) 6 (caK K).RowReader "read_end" ["self"] (sp_rr_end (caK K)) := by
  obtain ⟨fd, F⟩ := fn_of_def (x := "read_end") (qual := "RowReader.read_end") (st := s_RowReader_read_end) (f := He.fAd K ("RowReader", some "read_end")) (b.c.t.d.def_ 61 (d := d_RowReader_read_end) rfl)
  exact ⟨_, fd, He.meth_ok (b.c.t.d.fact 162 rfl), F.binds (ps := ["self"]) (fun _ _ _ _ _ _ us hl => match us, hl with | [_], _ => rfl), ok_RowReader_read_end (txK b.toHH) (hm_RowReader_take_number b) (he_NoPackedRow_init b) F⟩
theorem hm_RowReader_read (b : HB w K mg base h0) : Hm theRow.prog w K mg base (L2.CX theRow.prog w) 8 (caK K).RowReader "read" ["self"] (sp_rr_read (ttK K) (caK K)) := by
  obtain ⟨fd, F⟩ := fn_of_def (x := "read") (qual := "RowReader.read") (st := s_RowReader_read) (f := He.fAd K ("RowReader", some "read")) (b.c.t.d.def_ 65 (d := d_RowReader_read) rfl)
  exact ⟨_, fd, He.meth_ok (b.c.t.d.fact 163 rfl), F.binds (ps := ["self"]) (fun _ _ _ _ _ _ us hl => match us, hl with | [_], _ => rfl), ok_RowReader_read (txK b.toHH) (hm_RowReader_read_mark b) (hm_RowReader_take_number b) (hm_RowReader_take b) (hm_RowReader_read_block b) (hm_RowReader_read_end b) (he_NoPackedRow_init b) F⟩
theorem hd_read_part (b : HB w K mg base h0) : Hd theRow.prog w K mg base (L2.CX theRow.prog w) 9 "read_part" ["row", "start", "stop"] (sp_read_part (ttK K) (caK K)) := by
  obtain ⟨fd, F⟩ := fn_of_def (x := "read_part") (qual := "read_part") (st := s_read_part) (f := He.fAd K ("read_part", none)) (b.c.t.d.def_ 67 (d := d_read_part) rfl)
  exact ⟨_, fd, He.glo_ok b.X b.G (b.c.t.d.fact 164 rfl), F.kp, F.binds (ps := ["row", "start", "stop"]) (fun _ _ _ _ _ _ us hl => match us, hl with | [_, _, _], _ => rfl), ok_read_part (txK b.toHH) (he_TooLong_init b) (hc_RowReader_init b) (hm_RowReader_read b) F⟩
theorem hc_Answer_init (b : HB w K mg base h0) : Hc theRow.prog w K mg base CX0 1 "Answer" (caK K).Answer ["self", "number", "octets", "figures"] (sp_an_init (caK K).Answer) := by
  obtain ⟨fd, F⟩ := fn_of_def (x := "__init__") (qual := "Answer.__init__") (st := s_Answer_init) (f := He.fAd K ("Answer", some "__init__")) (b.c.t.d.def_ 66 (d := d_Answer_init) rfl)
  exact ⟨_, fd, He.glo_ok b.X b.G (b.c.t.d.fact 70 rfl), He.mkr_ok (b.c.t.d.fact 165 rfl), F.binds (ps := ["self", "number", "octets", "figures"]) (fun _ _ _ _ _ _ us hl => match us, hl with | [_, _, _, _], _ => rfl), ok_Answer_init (txK b.toHH) F⟩
theorem he_BeyondText_init (b : HB w K mg base h0) : He theRow.prog w K mg base CX0 2 "BeyondText" (caK K).BeyondText ["self"] (sp_fixed_init (caK K).BeyondText (-1)) := by
  obtain ⟨fd, F⟩ := fn_of_def (x := "__init__") (qual := "BeyondText.__init__") (st := s_BeyondText_init) (f := He.fAd K ("BeyondText", some "__init__")) (b.c.t.d.def_ 52 (d := d_BeyondText_init) rfl)
  obtain ⟨fdr, FR⟩ := fn_of_def (x := "__init__") (qual := "Refusal.__init__") (st := s_Refusal_init) (f := He.fAd K ("Refusal", some "__init__")) (b.c.t.d.def_ 50 (d := d_Refusal_init) rfl)
  exact ⟨_, fd, He.glo_ok b.X b.G (b.c.t.d.fact 92 rfl), oexB_ok (exK_ref b.c.more 0 rfl).1, (exK_ref b.c.more 0 rfl).2.2.1, (exK_ref b.c.more 0 rfl).2.2.2, F.binds (ps := ["self"]) (fun _ _ _ _ _ _ us hl => match us, hl with | [_], _ => rfl), ok_BeyondText_init (txK b.toHH) (clsM_ref b.toHH) (ok_Refusal_init FR) (FR.binds (ps := ["self", "number", "kind", "place"]) (fun _ _ _ _ _ _ us hl => match us, hl with | [_, _, _, _], _ => rfl)) F⟩
theorem hd_read_at (b : HB w K mg base h0) : Hd theRow.prog w K mg base (L2.CX theRow.prog w) 10 "read_at" ["row", "start", "n"] (sp_read_at (ttK K) K (caK K) ansAt) := by
  obtain ⟨fd, F⟩ := fn_of_def (x := "read_at") (qual := "read_at") (st := s_read_at) (f := He.fAd K ("read_at", none)) (b.c.t.d.def_ 71 (d := d_read_at) rfl)
  exact ⟨_, fd, He.glo_ok b.X b.G (b.c.t.d.fact 166 rfl), F.kp, F.binds (ps := ["row", "start", "n"]) (fun _ _ _ _ _ _ us hl => match us, hl with | [_, _, _], _ => rfl), ok_read_at (txK b.toHH) (hd_read_part b) (hc_Answer_init b) (he_BeyondText_init b) F⟩
theorem he_NoState_init (b : HB w K mg base h0) : He theRow.prog w K mg base CX0 2 "NoState" (caK K).NoState ["self"] (sp_fixed_init (caK K).NoState (-1)) := by
  obtain ⟨fd, F⟩ := fn_of_def (x := "__init__") (qual := "NoState.__init__") (st := s_NoState_init) (f := He.fAd K ("NoState", some "__init__")) (b.c.t.d.def_ 55 (d := d_NoState_init) rfl)
  obtain ⟨fdr, FR⟩ := fn_of_def (x := "__init__") (qual := "Refusal.__init__") (st := s_Refusal_init) (f := He.fAd K ("Refusal", some "__init__")) (b.c.t.d.def_ 50 (d := d_Refusal_init) rfl)
  exact ⟨_, fd, He.glo_ok b.X b.G (b.c.t.d.fact 116 rfl), oexB_ok (exK_ref b.c.more 4 rfl).1, (exK_ref b.c.more 4 rfl).2.2.1, (exK_ref b.c.more 4 rfl).2.2.2, F.binds (ps := ["self"]) (fun _ _ _ _ _ _ us hl => match us, hl with | [_], _ => rfl), ok_NoState_init (txK b.toHH) (clsM_ref b.toHH) (ok_Refusal_init FR) (FR.binds (ps := ["self", "number", "kind", "place"]) (fun _ _ _ _ _ _ us hl => match us, hl with | [_, _, _, _], _ => rfl)) F⟩
theorem hd_check_state (b : HB w K mg base h0) : Hd theRow.prog w K mg base (L2.CX theRow.prog w) 4 "check_state" ["state"] (sp_check_state (caK K)) := by
  obtain ⟨fd, F⟩ := fn_of_def (x := "check_state") (qual := "check_state") (st := s_check_state) (f := He.fAd K ("check_state", none)) (b.c.t.d.def_ 76 (d := d_check_state) rfl)
  exact ⟨_, fd, He.glo_ok b.X b.G (b.c.t.d.fact 167 rfl), F.kp, F.binds (ps := ["state"]) (fun _ _ _ _ _ _ us hl => match us, hl with | [_], _ => rfl), ok_check_state (txK b.toHH) (he_NoState_init b) F⟩
theorem hc_Packing_init (b : HB w K mg base h0) : Hc theRow.prog w K mg base CX0 1 "Packing" (caK K).Packing ["self"] (sp_pk_init (caK K).Packing) := by
  obtain ⟨fd, F⟩ := fn_of_def (x := "__init__") (qual := "Packing.__init__") (st := s_Packing_init) (f := He.fAd K ("Packing", some "__init__")) (b.c.t.d.def_ 38 (d := d_Packing_init) rfl)
  exact ⟨_, fd, He.glo_ok b.X b.G (b.c.t.d.fact 79 rfl), He.mkr_ok (b.c.t.d.fact 168 rfl), F.binds (ps := ["self"]) (fun _ _ _ _ _ _ us hl => match us, hl with | [_], _ => rfl), ok_Packing_init (txK b.toHH) F⟩
theorem hm_begin (b : HB w K mg base h0) : Hm theRow.prog w K mg base (L2.CX theRow.prog w) 5 (caK K).States "begin" ["self", "state"] (sp_st1 (ttK K) K (caK K) .begin_) := by
  obtain ⟨fd, F⟩ := fn_of_def (x := "begin") (qual := "States.begin") (st := s_States_begin) (f := He.fAd K ("States", some "begin")) (b.c.t.d.def_ 79 (d := d_begin) rfl)
  exact ⟨_, fd, He.meth_ok (b.c.t.d.fact 169 rfl), F.binds (ps := ["self", "state"]) (fun _ _ _ _ _ _ us hl => match us, hl with | [_, _], _ => rfl), ok_begin (txK b.toHH) (hd_check_state b) (hc_Packing_init b) (hc_Answer_init b) F⟩
theorem he_NotBegun_init (b : HB w K mg base h0) : He theRow.prog w K mg base CX0 2 "NotBegun" (caK K).NotBegun ["self"] (sp_fixed_init (caK K).NotBegun (-3)) := by
  obtain ⟨fd, F⟩ := fn_of_def (x := "__init__") (qual := "NotBegun.__init__") (st := s_NotBegun_init) (f := He.fAd K ("NotBegun", some "__init__")) (b.c.t.d.def_ 56 (d := d_NotBegun_init) rfl)
  obtain ⟨fdr, FR⟩ := fn_of_def (x := "__init__") (qual := "Refusal.__init__") (st := s_Refusal_init) (f := He.fAd K ("Refusal", some "__init__")) (b.c.t.d.def_ 50 (d := d_Refusal_init) rfl)
  exact ⟨_, fd, He.glo_ok b.X b.G (b.c.t.d.fact 122 rfl), oexB_ok (exK_ref b.c.more 5 rfl).1, (exK_ref b.c.more 5 rfl).2.2.1, (exK_ref b.c.more 5 rfl).2.2.2, F.binds (ps := ["self"]) (fun _ _ _ _ _ _ us hl => match us, hl with | [_], _ => rfl), ok_NotBegun_init (txK b.toHH) (clsM_ref b.toHH) (ok_Refusal_init FR) (FR.binds (ps := ["self", "number", "kind", "place"]) (fun _ _ _ _ _ _ us hl => match us, hl with | [_, _, _, _], _ => rfl)) F⟩
theorem hm_packing_of (b : HB w K mg base h0) : Hm theRow.prog w K mg base (L2.CX theRow.prog w) 5 (caK K).States "packing_of" ["self", "state"] (sp_packing_of (caK K)) := by
  obtain ⟨fd, F⟩ := fn_of_def (x := "packing_of") (qual := "States.packing_of") (st := s_States_packing_of) (f := He.fAd K ("States", some "packing_of")) (b.c.t.d.def_ 78 (d := d_packing_of) rfl)
  exact ⟨_, fd, He.meth_ok (b.c.t.d.fact 170 rfl), F.binds (ps := ["self", "state"]) (fun _ _ _ _ _ _ us hl => match us, hl with | [_, _], _ => rfl), ok_packing_of (txK b.toHH) (hd_check_state b) (he_NotBegun_init b) F⟩
theorem hd_octets_of (b : HB w K mg base h0) : Hd theRow.prog w K mg base CX0 1 "octets_of" ["bits"] (sp_octets_of K) := by
  obtain ⟨fd, F⟩ := fn_of_def (x := "octets_of") (qual := "octets_of") (st := s_octets_of) (f := He.fAd K ("octets_of", none)) (b.c.t.d.def_ 2 (d := d_octets_of) rfl)
  exact ⟨_, fd, He.glo_ok b.X b.G (b.c.t.d.fact 171 rfl), F.kp, F.binds (ps := ["bits"]) (fun _ _ _ _ _ _ us hl => match us, hl with | [_], _ => rfl), ok_octets_of (txK b.toHH) F⟩
theorem hd_octets_of_number (b : HB w K mg base h0) : Hd theRow.prog w K mg base CX0 2 "octets_of_number" ["number", "width"] sp_octets_of_number := by
  obtain ⟨fd, F⟩ := fn_of_def (x := "octets_of_number") (qual := "octets_of_number") (st := s_octets_of_number) (f := He.fAd K ("octets_of_number", none)) (b.c.t.d.def_ 33 (d := d_octets_of_number) rfl)
  exact ⟨_, fd, He.glo_ok b.X b.G (b.c.t.d.fact 172 rfl), F.kp, F.binds (ps := ["number", "width"]) (fun _ _ _ _ _ _ us hl => match us, hl with | [_, _], _ => rfl), ok_octets_of_number (txK b.toHH) (hd_octets_of b) (hd_low_first b) F⟩
theorem hd_alike_levels (b : HB w K mg base h0) : Hd theRow.prog w K mg base CX0 1 "alike_levels" ["text"] (sp_alike_levels K) := by
  obtain ⟨fd, F⟩ := fn_of_def (x := "alike_levels") (qual := "alike_levels") (st := s_alike_levels) (f := He.fAd K ("alike_levels", none)) (b.c.t.d.def_ 22 (d := d_alike_levels) rfl)
  exact ⟨_, fd, He.glo_ok b.X b.G (b.c.t.d.fact 173 rfl), F.kp, F.binds (ps := ["text"]) (fun _ _ _ _ _ _ us hl => match us, hl with | [_], _ => rfl), ok_alike_levels (txK b.toHH) F⟩
theorem hd_nearest_before (b : HB w K mg base h0) : Hd theRow.prog w K mg base CX0 1 "nearest_before" ["levels", "place", "length"] sp_nearest_before := by
  obtain ⟨fd, F⟩ := fn_of_def (x := "nearest_before") (qual := "nearest_before") (st := s_nearest_before) (f := He.fAd K ("nearest_before", none)) (b.c.t.d.def_ 23 (d := d_nearest_before) rfl)
  exact ⟨_, fd, He.glo_ok b.X b.G (b.c.t.d.fact 174 rfl), F.kp, F.binds (ps := ["levels", "place", "length"]) (fun _ _ _ _ _ _ us hl => match us, hl with | [_, _, _], _ => rfl), ok_nearest_before (txK b.toHH) F⟩
theorem hd_same_until (b : HB w K mg base h0) : Hd theRow.prog w K mg base CX0 1 "same_until" ["text", "place", "distance"] (sp_same_until K) := by
  obtain ⟨fd, F⟩ := fn_of_def (x := "same_until") (qual := "same_until") (st := s_same_until) (f := He.fAd K ("same_until", none)) (b.c.t.d.def_ 24 (d := d_same_until) rfl)
  exact ⟨_, fd, He.glo_ok b.X b.G (b.c.t.d.fact 175 rfl), F.kp, F.binds (ps := ["text", "place", "distance"]) (fun _ _ _ _ _ _ us hl => match us, hl with | [_, _, _], _ => rfl), ok_same_until (txK b.toHH) F⟩
theorem hd_matches_at (b : HB w K mg base h0) : Hd theRow.prog w K mg base CX0 2 "matches_at" ["text", "levels", "ends", "place"] (sp_matches_at K) := by
  obtain ⟨fd, F⟩ := fn_of_def (x := "matches_at") (qual := "matches_at") (st := s_matches_at) (f := He.fAd K ("matches_at", none)) (b.c.t.d.def_ 25 (d := d_matches_at) rfl)
  exact ⟨_, fd, He.glo_ok b.X b.G (b.c.t.d.fact 176 rfl), F.kp, F.binds (ps := ["text", "levels", "ends", "place"]) (fun _ _ _ _ _ _ us hl => match us, hl with | [_, _, _, _], _ => rfl), ok_matches_at (txK b.toHH) (hd_nearest_before b) (hd_same_until b) F⟩
theorem hd_block_matches (b : HB w K mg base h0) : Hd theRow.prog w K mg base CX0 3 "block_matches" ["text"] (sp_block_matches K) := by
  obtain ⟨fd, F⟩ := fn_of_def (x := "block_matches") (qual := "block_matches") (st := s_block_matches) (f := He.fAd K ("block_matches", none)) (b.c.t.d.def_ 26 (d := d_block_matches) rfl)
  exact ⟨_, fd, He.glo_ok b.X b.G (b.c.t.d.fact 177 rfl), F.kp, F.binds (ps := ["text"]) (fun _ _ _ _ _ _ us hl => match us, hl with | [_], _ => rfl), ok_block_matches (txK b.toHH) (hd_alike_levels b) (hd_matches_at b) F⟩
theorem hc_Tails_init (b : HB w K mg base h0) : Hc theRow.prog w K mg base CX0 1 "Tails" (caK K).Tails ["self", "size"] (sp_Tails_init (caK K).Tails) := by
  obtain ⟨fd, F⟩ := fn_of_def (x := "__init__") (qual := "Tails.__init__") (st := s_Tails_init) (f := He.fAd K ("Tails", some "__init__")) (b.c.t.d.def_ 27 (d := d_Tails_init) rfl)
  exact ⟨_, fd, He.glo_ok b.X b.G (b.c.t.d.fact 57 rfl), He.mkr_ok (b.c.t.d.fact 178 rfl), F.binds (ps := ["self", "size"]) (fun _ _ _ _ _ _ us hl => match us, hl with | [_, _], _ => rfl), ok_Tails_init (txK b.toHH) F⟩
theorem hm_Tails_tell (b : HB w K mg base h0) : Hm theRow.prog w K mg base CX0 1 (caK K).Tails "tell" ["self", "place", "cost"] (sp_Tails_tell (caK K).Tails) := by
  obtain ⟨fd, F⟩ := fn_of_def (x := "tell") (qual := "Tails.tell") (st := s_Tails_tell) (f := He.fAd K ("Tails", some "tell")) (b.c.t.d.def_ 29 (d := d_Tails_tell) rfl)
  exact ⟨_, fd, He.meth_ok (b.c.t.d.fact 179 rfl), F.binds (ps := ["self", "place", "cost"]) (fun _ _ _ _ _ _ us hl => match us, hl with | [_, _, _], _ => rfl), ok_Tails_tell (txK b.toHH) F⟩
theorem hm_Tails_least (b : HB w K mg base h0) : Hm theRow.prog w K mg base CX0 1 (caK K).Tails "least" ["self", "first", "last"] (sp_Tails_least (caK K).Tails) := by
  obtain ⟨fd, F⟩ := fn_of_def (x := "least") (qual := "Tails.least") (st := s_Tails_least) (f := He.fAd K ("Tails", some "least")) (b.c.t.d.def_ 28 (d := d_Tails_least) rfl)
  exact ⟨_, fd, He.meth_ok (b.c.t.d.fact 180 rfl), F.binds (ps := ["self", "first", "last"]) (fun _ _ _ _ _ _ us hl => match us, hl with | [_, _, _], _ => rfl), ok_Tails_least (txK b.toHH) F⟩
theorem hd_class_of (b : HB w K mg base h0) : Hd theRow.prog w K mg base CX0 1 "class_of" ["number"] sp_class_of := by
  obtain ⟨fd, F⟩ := fn_of_def (x := "class_of") (qual := "class_of") (st := s_class_of) (f := He.fAd K ("class_of", none)) (b.c.t.d.def_ 7 (d := d_class_of) rfl)
  exact ⟨_, fd, He.glo_ok b.X b.G (b.c.t.d.fact 181 rfl), F.kp, F.binds (ps := ["number"]) (fun _ _ _ _ _ _ us hl => match us, hl with | [_], _ => rfl), ok_class_of (txK b.toHH) F⟩
theorem hd_first_step (b : HB w K mg base h0) : Hd theRow.prog w K mg base CX0 2 "first_step" ["tails", "letter", "found", "place"] (sp_first_step (caK K).Tails) := by
  obtain ⟨fd, F⟩ := fn_of_def (x := "first_step") (qual := "first_step") (st := s_first_step) (f := He.fAd K ("first_step", none)) (b.c.t.d.def_ 30 (d := d_first_step) rfl)
  exact ⟨_, fd, He.glo_ok b.X b.G (b.c.t.d.fact 182 rfl), F.kp, F.binds (ps := ["tails", "letter", "found", "place"]) (fun _ _ _ _ _ _ us hl => match us, hl with | [_, _, _, _], _ => rfl), ok_first_step (txK b.toHH) (hm_Tails_least b) (hd_further_width b) (hd_class_of b) (hd_class_start b) F⟩
theorem hd_block_parse (b : HB w K mg base h0) : Hd theRow.prog w K mg base CX0 4 "block_parse" ["text"] (sp_block_parse K) := by
  obtain ⟨fd, F⟩ := fn_of_def (x := "block_parse") (qual := "block_parse") (st := s_block_parse) (f := He.fAd K ("block_parse", none)) (b.c.t.d.def_ 31 (d := d_block_parse) rfl)
  exact ⟨_, fd, He.glo_ok b.X b.G (b.c.t.d.fact 183 rfl), F.kp, F.binds (ps := ["text"]) (fun _ _ _ _ _ _ us hl => match us, hl with | [_], _ => rfl), ok_block_parse (txK b.toHH) (hd_block_matches b) (hc_Tails_init b) (hm_Tails_tell b) (hd_first_step b) F⟩
theorem hd_symbol_of (b : HB w K mg base h0) : Hd theRow.prog w K mg base CX0 2 "symbol_of" ["step"] sp_symbol_of := by
  obtain ⟨fd, F⟩ := fn_of_def (x := "symbol_of") (qual := "symbol_of") (st := s_symbol_of) (f := He.fAd K ("symbol_of", none)) (b.c.t.d.def_ 17 (d := d_symbol_of) rfl)
  exact ⟨_, fd, He.glo_ok b.X b.G (b.c.t.d.fact 184 rfl), F.kp, F.binds (ps := ["step"]) (fun _ _ _ _ _ _ us hl => match us, hl with | [_], _ => rfl), ok_symbol_of (txK b.toHH) (hd_class_of b) F⟩
theorem hd_weight_of (b : HB w K mg base h0) : Hd theRow.prog w K mg base CX0 1 "weight_of" ["item"] sp_weight_of := by
  obtain ⟨fd, F⟩ := fn_of_def (x := "weight_of") (qual := "weight_of") (st := s_weight_of) (f := He.fAd K ("weight_of", none)) (b.c.t.d.def_ 10 (d := d_weight_of) rfl)
  exact ⟨_, fd, He.glo_ok b.X b.G (b.c.t.d.fact 185 rfl), F.kp, F.binds (ps := ["item"]) (fun _ _ _ _ _ _ us hl => match us, hl with | [_], _ => rfl), ok_weight_of (txK b.toHH) F⟩
theorem hd_row_behind (b : HB w K mg base h0) : Hd theRow.prog w K mg base CX0 2 "row_behind" ["leaves", "row"] (sp_row_behind K) := by
  obtain ⟨fd, F⟩ := fn_of_def (x := "row_behind") (qual := "row_behind") (st := s_row_behind) (f := He.fAd K ("row_behind", none)) (b.c.t.d.def_ 12 (d := d_row_behind) rfl)
  obtain ⟨fdw, FW⟩ := fn_of_def (x := "weight_of") (qual := "weight_of") (st := s_weight_of) (f := He.fAd K ("weight_of", none)) (b.c.t.d.def_ 10 (d := d_weight_of) rfl)
  exact ⟨_, fd, He.glo_ok b.X b.G (b.c.t.d.fact 186 rfl), F.kp, F.binds (ps := ["leaves", "row"]) (fun _ _ _ _ _ _ us hl => match us, hl with | [_, _], _ => rfl), ok_row_behind (txK b.toHH) (hd_weight_of b) (He.glo_ok b.X b.G (b.c.t.d.fact 185 rfl)) FW F⟩
theorem hd_is_leaf (b : HB w K mg base h0) : Hd theRow.prog w K mg base CX0 1 "is_leaf" ["item"] sp_is_leaf := by
  obtain ⟨fd, F⟩ := fn_of_def (x := "is_leaf") (qual := "is_leaf") (st := s_is_leaf) (f := He.fAd K ("is_leaf", none)) (b.c.t.d.def_ 11 (d := d_is_leaf) rfl)
  exact ⟨_, fd, He.glo_ok b.X b.G (b.c.t.d.fact 187 rfl), F.kp, F.binds (ps := ["item"]) (fun _ _ _ _ _ _ us hl => match us, hl with | [_], _ => rfl), ok_is_leaf (txK b.toHH) F⟩
theorem hd_leaf_counts (b : HB w K mg base h0) : Hd theRow.prog w K mg base CX0 3 "leaf_counts" ["leaves"] sp_leaf_counts := by
  obtain ⟨fd, F⟩ := fn_of_def (x := "leaf_counts") (qual := "leaf_counts") (st := s_leaf_counts) (f := He.fAd K ("leaf_counts", none)) (b.c.t.d.def_ 13 (d := d_leaf_counts) rfl)
  exact ⟨_, fd, He.glo_ok b.X b.G (b.c.t.d.fact 188 rfl), F.kp, F.binds (ps := ["leaves"]) (fun _ _ _ _ _ _ us hl => match us, hl with | [_], _ => rfl), ok_leaf_counts (txK b.toHH) (hd_row_behind b) (hd_is_leaf b) F⟩
theorem hd_code_lengths (b : HB w K mg base h0) : Hd theRow.prog w K mg base CX0 4 "code_lengths" ["often"] (sp_code_lengths K (ttK K)) := by
  obtain ⟨fd, F⟩ := fn_of_def (x := "code_lengths") (qual := "code_lengths") (st := s_code_lengths) (f := He.fAd K ("code_lengths", none)) (b.c.t.d.def_ 15 (d := d_code_lengths) rfl)
  exact ⟨_, fd, He.glo_ok b.X b.G (b.c.t.d.fact 189 rfl), F.kp, F.binds (ps := ["often"]) (fun _ _ _ _ _ _ us hl => match us, hl with | [_], _ => rfl), ok_code_lengths (txK b.toHH) (hd_leaf_counts b) (code_of F) (b.tb _ (List.mem_cons_self)) (by unfold ttK; simp) (tt_u0 b.toHH) F⟩
theorem hd_run_of_noughts (b : HB w K mg base h0) : Hd theRow.prog w K mg base CX0 1 "run_of_noughts" ["lengths", "start"] (sp_run_of_noughts K) := by
  obtain ⟨fd, F⟩ := fn_of_def (x := "run_of_noughts") (qual := "run_of_noughts") (st := s_run_of_noughts) (f := He.fAd K ("run_of_noughts", none)) (b.c.t.d.def_ 19 (d := d_run_of_noughts) rfl)
  exact ⟨_, fd, He.glo_ok b.X b.G (b.c.t.d.fact 190 rfl), F.kp, F.binds (ps := ["lengths", "start"]) (fun _ _ _ _ _ _ us hl => match us, hl with | [_, _], _ => rfl), ok_run_of_noughts (txK b.toHH) F⟩
theorem hd_length_bits (b : HB w K mg base h0) : Hd theRow.prog w K mg base CX0 2 "length_bits" ["lengths"] (sp_length_bits K) := by
  obtain ⟨fd, F⟩ := fn_of_def (x := "length_bits") (qual := "length_bits") (st := s_length_bits) (f := He.fAd K ("length_bits", none)) (b.c.t.d.def_ 20 (d := d_length_bits) rfl)
  exact ⟨_, fd, He.glo_ok b.X b.G (b.c.t.d.fact 191 rfl), F.kp, F.binds (ps := ["lengths"]) (fun _ _ _ _ _ _ us hl => match us, hl with | [_], _ => rfl), ok_length_bits (txK b.toHH) (hd_low_first b) (hd_run_of_noughts b) F⟩
theorem hd_high_first (b : HB w K mg base h0) : Hd theRow.prog w K mg base CX0 1 "high_first" ["number", "width"] sp_high_first := by
  obtain ⟨fd, F⟩ := fn_of_def (x := "high_first") (qual := "high_first") (st := s_high_first) (f := He.fAd K ("high_first", none)) (b.c.t.d.def_ 1 (d := d_high_first) rfl)
  exact ⟨_, fd, He.glo_ok b.X b.G (b.c.t.d.fact 192 rfl), F.kp, F.binds (ps := ["number", "width"]) (fun _ _ _ _ _ _ us hl => match us, hl with | [_, _], _ => rfl), ok_high_first (txK b.toHH) F⟩
theorem hd_further_bits (b : HB w K mg base h0) : Hd theRow.prog w K mg base CX0 2 "further_bits" ["number"] sp_further_bits := by
  obtain ⟨fd, F⟩ := fn_of_def (x := "further_bits") (qual := "further_bits") (st := s_further_bits) (f := He.fAd K ("further_bits", none)) (b.c.t.d.def_ 18 (d := d_further_bits) rfl)
  exact ⟨_, fd, He.glo_ok b.X b.G (b.c.t.d.fact 193 rfl), F.kp, F.binds (ps := ["number"]) (fun _ _ _ _ _ _ us hl => match us, hl with | [_], _ => rfl), ok_further_bits (txK b.toHH) (hd_class_of b) (hd_further_width b) (hd_low_first b) F⟩
theorem hd_parse_bits (b : HB w K mg base h0) : Hd theRow.prog w K mg base CX0 3 "parse_bits" ["parse", "lengths", "distance_lengths"] (sp_parse_bits K (ttK K)) := by
  obtain ⟨fd, F⟩ := fn_of_def (x := "parse_bits") (qual := "parse_bits") (st := s_parse_bits) (f := He.fAd K ("parse_bits", none)) (b.c.t.d.def_ 21 (d := d_parse_bits) rfl)
  exact ⟨_, fd, He.glo_ok b.X b.G (b.c.t.d.fact 194 rfl), F.kp, F.binds (ps := ["parse", "lengths", "distance_lengths"]) (fun _ _ _ _ _ _ us hl => match us, hl with | [_, _, _], _ => rfl), ok_parse_bits (txK b.toHH) (hd_codewords b) (hd_symbol_of b) (hd_high_first b) (hd_class_of b) (hd_further_bits b) F⟩
theorem hd_coded (b : HB w K mg base h0) : Hd theRow.prog w K mg base CX0 5 "coded" ["text"] (sp_coded K (ttK K)) := by
  obtain ⟨fd, F⟩ := fn_of_def (x := "coded") (qual := "coded") (st := s_coded) (f := He.fAd K ("coded", none)) (b.c.t.d.def_ 32 (d := d_coded) rfl)
  exact ⟨_, fd, He.glo_ok b.X b.G (b.c.t.d.fact 195 rfl), F.kp, F.binds (ps := ["text"]) (fun _ _ _ _ _ _ us hl => match us, hl with | [_], _ => rfl), ok_coded (txK b.toHH) (hd_block_parse b) (hd_symbol_of b) (hd_class_of b) (hd_code_lengths b) (hd_low_first b) (hd_length_bits b) (hd_parse_bits b) (hd_octets_of b) F⟩
theorem hd_packed_block (b : HB w K mg base h0) : Hd theRow.prog w K mg base CX0 6 "packed_block" ["text"] (sp_packed_block (ttK K)) := by
  obtain ⟨fd, F⟩ := fn_of_def (x := "packed_block") (qual := "packed_block") (st := s_packed_block) (f := He.fAd K ("packed_block", none)) (b.c.t.d.def_ 35 (d := d_packed_block) rfl)
  exact ⟨_, fd, He.glo_ok b.X b.G (b.c.t.d.fact 196 rfl), F.kp, F.binds (ps := ["text"]) (fun _ _ _ _ _ _ us hl => match us, hl with | [_], _ => rfl), ok_packed_block (txK b.toHH) (hd_octets_of_number b) (hd_coded b) F⟩
theorem hm_Packing_add_block (b : HB w K mg base h0) : Hm theRow.prog w K mg base CX0 7 (caK K).Packing "add_block" ["self", "text"] (sp_add_block (ttK K) (caK K).Packing) := by
  obtain ⟨fd, F⟩ := fn_of_def (x := "add_block") (qual := "Packing.add_block") (st := s_Packing_add_block) (f := He.fAd K ("Packing", some "add_block")) (b.c.t.d.def_ 36 (d := d_Packing_add_block) rfl)
  exact ⟨_, fd, He.meth_ok (b.c.t.d.fact 197 rfl), F.binds (ps := ["self", "text"]) (fun _ _ _ _ _ _ us hl => match us, hl with | [_, _], _ => rfl), ok_Packing_add_block (txK b.toHH) (hd_packed_block b) F⟩
theorem hm_Packing_add_text (b : HB w K mg base h0) : Hm theRow.prog w K mg base CX0 8 (caK K).Packing "add_text" ["self", "octets"] (sp_add_text (ttK K) (caK K).Packing) := by
  obtain ⟨fd, F⟩ := fn_of_def (x := "add_text") (qual := "Packing.add_text") (st := s_Packing_add_text) (f := He.fAd K ("Packing", some "add_text")) (b.c.t.d.def_ 39 (d := d_Packing_add_text) rfl)
  exact ⟨_, fd, He.meth_ok (b.c.t.d.fact 198 rfl), F.binds (ps := ["self", "octets"]) (fun _ _ _ _ _ _ us hl => match us, hl with | [_, _], _ => rfl), ok_Packing_add_text (txK b.toHH) (hm_Packing_add_block b) F⟩
theorem hm_Packing_give (b : HB w K mg base h0) : Hm theRow.prog w K mg base CX0 1 (caK K).Packing "give" ["self"] (sp_give (ttK K) (caK K).Packing) := by
  obtain ⟨fd, F⟩ := fn_of_def (x := "give") (qual := "Packing.give") (st := s_Packing_give) (f := He.fAd K ("Packing", some "give")) (b.c.t.d.def_ 37 (d := d_Packing_give) rfl)
  exact ⟨_, fd, He.meth_ok (b.c.t.d.fact 199 rfl), F.binds (ps := ["self"]) (fun _ _ _ _ _ _ us hl => match us, hl with | [_], _ => rfl), ok_Packing_give (txK b.toHH) F⟩
theorem hm_feed (b : HB w K mg base h0) : Hm theRow.prog w K mg base (L2.CX theRow.prog w) 9 (caK K).States "feed" ["self", "state", "octets"] (sp_feed (ttK K) K (caK K)) := by
  obtain ⟨fd, F⟩ := fn_of_def (x := "feed") (qual := "States.feed") (st := s_States_feed) (f := He.fAd K ("States", some "feed")) (b.c.t.d.def_ 80 (d := d_feed) rfl)
  exact ⟨_, fd, He.meth_ok (b.c.t.d.fact 200 rfl), F.binds (ps := ["self", "state", "octets"]) (fun _ _ _ _ _ _ us hl => match us, hl with | [_, _, _], _ => rfl), ok_feed (txK b.toHH) (hm_packing_of b) (he_TooLong_init b) (hm_Packing_add_text b) (hm_Packing_give b) (hc_Answer_init b) F⟩
theorem hd_packed_end (b : HB w K mg base h0) : Hd theRow.prog w K mg base CX0 3 "packed_end" ["size"] sp_packed_end := by
  obtain ⟨fd, F⟩ := fn_of_def (x := "packed_end") (qual := "packed_end") (st := s_packed_end) (f := He.fAd K ("packed_end", none)) (b.c.t.d.def_ 34 (d := d_packed_end) rfl)
  exact ⟨_, fd, He.glo_ok b.X b.G (b.c.t.d.fact 201 rfl), F.kp, F.binds (ps := ["size"]) (fun _ _ _ _ _ _ us hl => match us, hl with | [_], _ => rfl), ok_packed_end (txK b.toHH) (hd_octets_of_number b) F⟩
theorem hm_Packing_add_end (b : HB w K mg base h0) : Hm theRow.prog w K mg base CX0 8 (caK K).Packing "add_end" ["self"] (sp_add_end (ttK K) (caK K).Packing) := by
  obtain ⟨fd, F⟩ := fn_of_def (x := "add_end") (qual := "Packing.add_end") (st := s_Packing_add_end) (f := He.fAd K ("Packing", some "add_end")) (b.c.t.d.def_ 40 (d := d_Packing_add_end) rfl)
  exact ⟨_, fd, He.meth_ok (b.c.t.d.fact 202 rfl), F.binds (ps := ["self"]) (fun _ _ _ _ _ _ us hl => match us, hl with | [_], _ => rfl), ok_Packing_add_end (txK b.toHH) (hm_Packing_add_block b) (hd_packed_end b) F⟩
theorem hm_end (b : HB w K mg base h0) : Hm theRow.prog w K mg base (L2.CX theRow.prog w) 9 (caK K).States "end" ["self", "state"] (sp_st1 (ttK K) K (caK K) .end_) := by
  obtain ⟨fd, F⟩ := fn_of_def (x := "end") (qual := "States.end") (st := s_States_end) (f := He.fAd K ("States", some "end")) (b.c.t.d.def_ 81 (d := d_end) rfl)
  exact ⟨_, fd, He.meth_ok (b.c.t.d.fact 203 rfl), F.binds (ps := ["self", "state"]) (fun _ _ _ _ _ _ us hl => match us, hl with | [_, _], _ => rfl), ok_end (txK b.toHH) (hm_packing_of b) (hm_Packing_add_end b) (hm_Packing_give b) (hc_Answer_init b) F⟩
theorem hd_packed (b : HB w K mg base h0) : Hd theRow.prog w K mg base CX0 9 "packed" ["text"] (sp_packed (ttK K)) := by
  obtain ⟨fd, F⟩ := fn_of_def (x := "packed") (qual := "packed") (st := s_packed) (f := He.fAd K ("packed", none)) (b.c.t.d.def_ 41 (d := d_packed) rfl)
  exact ⟨_, fd, He.glo_ok b.X b.G (b.c.t.d.fact 204 rfl), F.kp, F.binds (ps := ["text"]) (fun _ _ _ _ _ _ us hl => match us, hl with | [_], _ => rfl), ok_packed (txK b.toHH) (hc_Packing_init b) (hm_Packing_add_text b) (hm_Packing_add_end b) (hm_Packing_give b) F⟩
theorem hd_pack (b : HB w K mg base h0) : Hd theRow.prog w K mg base (L2.CX theRow.prog w) 10 "pack" ["text"] (sp_row (ttK K) K (caK K) ansPack) := by
  obtain ⟨fd, F⟩ := fn_of_def (x := "pack") (qual := "pack") (st := s_pack) (f := He.fAd K ("pack", none)) (b.c.t.d.def_ 69 (d := d_pack) rfl)
  exact ⟨_, fd, He.glo_ok b.X b.G (b.c.t.d.fact 205 rfl), F.kp, F.binds (ps := ["text"]) (fun _ _ _ _ _ _ us hl => match us, hl with | [_], _ => rfl), ok_pack (txK b.toHH) (he_TooLong_init b) (hd_packed b) (hc_Answer_init b) F⟩
theorem hd_read_text (b : HB w K mg base h0) : Hd theRow.prog w K mg base (L2.CX theRow.prog w) 10 "read_text" ["row"] (sp_read_text (ttK K) (caK K)) := by
  obtain ⟨fd, F⟩ := fn_of_def (x := "read_text") (qual := "read_text") (st := s_read_text) (f := He.fAd K ("read_text", none)) (b.c.t.d.def_ 68 (d := d_read_text) rfl)
  exact ⟨_, fd, He.glo_ok b.X b.G (b.c.t.d.fact 206 rfl), F.kp, F.binds (ps := ["row"]) (fun _ _ _ _ _ _ us hl => match us, hl with | [_], _ => rfl), ok_read_text (txK b.toHH) (hd_read_part b) F⟩
theorem hd_unpack (b : HB w K mg base h0) : Hd theRow.prog w K mg base (L2.CX theRow.prog w) 11 "unpack" ["row"] (sp_row (ttK K) K (caK K) ansUnpack) := by
  obtain ⟨fd, F⟩ := fn_of_def (x := "unpack") (qual := "unpack") (st := s_unpack) (f := He.fAd K ("unpack", none)) (b.c.t.d.def_ 70 (d := d_unpack) rfl)
  exact ⟨_, fd, He.glo_ok b.X b.G (b.c.t.d.fact 207 rfl), F.kp, F.binds (ps := ["row"]) (fun _ _ _ _ _ _ us hl => match us, hl with | [_], _ => rfl), ok_unpack (txK b.toHH) (hd_read_text b) (hc_Answer_init b) F⟩
theorem he_PackedOtherwise_init (b : HB w K mg base h0) : He theRow.prog w K mg base CX0 2 "PackedOtherwise" (caK K).PackedOtherwise ["self"] (sp_fixed_init (caK K).PackedOtherwise (-9)) := by
  obtain ⟨fd, F⟩ := fn_of_def (x := "__init__") (qual := "PackedOtherwise.__init__") (st := s_PackedOtherwise_init) (f := He.fAd K ("PackedOtherwise", some "__init__")) (b.c.t.d.def_ 57 (d := d_PackedOtherwise_init) rfl)
  obtain ⟨fdr, FR⟩ := fn_of_def (x := "__init__") (qual := "Refusal.__init__") (st := s_Refusal_init) (f := He.fAd K ("Refusal", some "__init__")) (b.c.t.d.def_ 50 (d := d_Refusal_init) rfl)
  exact ⟨_, fd, He.glo_ok b.X b.G (b.c.t.d.fact 128 rfl), oexB_ok (exK_ref b.c.more 6 rfl).1, (exK_ref b.c.more 6 rfl).2.2.1, (exK_ref b.c.more 6 rfl).2.2.2, F.binds (ps := ["self"]) (fun _ _ _ _ _ _ us hl => match us, hl with | [_], _ => rfl), ok_PackedOtherwise_init (txK b.toHH) (clsM_ref b.toHH) (ok_Refusal_init FR) (FR.binds (ps := ["self", "number", "kind", "place"]) (fun _ _ _ _ _ _ us hl => match us, hl with | [_, _, _, _], _ => rfl)) F⟩
theorem hd_judge (b : HB w K mg base h0) : Hd theRow.prog w K mg base (L2.CX theRow.prog w) 11 "judge" ["row"] (sp_row (ttK K) K (caK K) ansJudge) := by
  obtain ⟨fd, F⟩ := fn_of_def (x := "judge") (qual := "judge") (st := s_judge) (f := He.fAd K ("judge", none)) (b.c.t.d.def_ 72 (d := d_judge) rfl)
  exact ⟨_, fd, He.glo_ok b.X b.G (b.c.t.d.fact 208 rfl), F.kp, F.binds (ps := ["row"]) (fun _ _ _ _ _ _ us hl => match us, hl with | [_], _ => rfl), ok_judge (txK b.toHH) (hd_read_text b) (hd_packed b) (hc_Answer_init b) (he_PackedOtherwise_init b) F⟩
theorem hd_tell_length (b : HB w K mg base h0) : Hd theRow.prog w K mg base (L2.CX theRow.prog w) 10 "tell_length" ["row"] (sp_row (ttK K) K (caK K) ansLength) := by
  obtain ⟨fd, F⟩ := fn_of_def (x := "tell_length") (qual := "tell_length") (st := s_tell_length) (f := He.fAd K ("tell_length", none)) (b.c.t.d.def_ 73 (d := d_tell_length) rfl)
  exact ⟨_, fd, He.glo_ok b.X b.G (b.c.t.d.fact 209 rfl), F.kp, F.binds (ps := ["row"]) (fun _ _ _ _ _ _ us hl => match us, hl with | [_], _ => rfl), ok_tell_length (txK b.toHH) (hd_read_part b) (hc_Answer_init b) F⟩
theorem hd_tell_parse (b : HB w K mg base h0) : Hd theRow.prog w K mg base (L2.CX theRow.prog w) 5 "tell_parse" ["text"] (sp_row (ttK K) K (caK K) ansParse) := by
  obtain ⟨fd, F⟩ := fn_of_def (x := "tell_parse") (qual := "tell_parse") (st := s_tell_parse) (f := He.fAd K ("tell_parse", none)) (b.c.t.d.def_ 74 (d := d_tell_parse) rfl)
  exact ⟨_, fd, He.glo_ok b.X b.G (b.c.t.d.fact 210 rfl), F.kp, F.binds (ps := ["text"]) (fun _ _ _ _ _ _ us hl => match us, hl with | [_], _ => rfl), ok_tell_parse (txK b.toHH) (he_TooLong_init b) (hd_block_parse b) (hc_Answer_init b) F⟩
theorem he_TooOften_init (b : HB w K mg base h0) : He theRow.prog w K mg base CX0 2 "TooOften" (caK K).TooOften ["self"] (sp_fixed_init (caK K).TooOften (-1)) := by
  obtain ⟨fd, F⟩ := fn_of_def (x := "__init__") (qual := "TooOften.__init__") (st := s_TooOften_init) (f := He.fAd K ("TooOften", some "__init__")) (b.c.t.d.def_ 54 (d := d_TooOften_init) rfl)
  obtain ⟨fdr, FR⟩ := fn_of_def (x := "__init__") (qual := "Refusal.__init__") (st := s_Refusal_init) (f := He.fAd K ("Refusal", some "__init__")) (b.c.t.d.def_ 50 (d := d_Refusal_init) rfl)
  exact ⟨_, fd, He.glo_ok b.X b.G (b.c.t.d.fact 110 rfl), oexB_ok (exK_ref b.c.more 3 rfl).1, (exK_ref b.c.more 3 rfl).2.2.1, (exK_ref b.c.more 3 rfl).2.2.2, F.binds (ps := ["self"]) (fun _ _ _ _ _ _ us hl => match us, hl with | [_], _ => rfl), ok_TooOften_init (txK b.toHH) (clsM_ref b.toHH) (ok_Refusal_init FR) (FR.binds (ps := ["self", "number", "kind", "place"]) (fun _ _ _ _ _ _ us hl => match us, hl with | [_, _, _, _], _ => rfl)) F⟩
theorem hd_tell_code (b : HB w K mg base h0) : Hd theRow.prog w K mg base (L2.CX theRow.prog w) 5 "tell_code" ["often"] (sp_often (ttK K) K (caK K) ansCode) := by
  obtain ⟨fd, F⟩ := fn_of_def (x := "tell_code") (qual := "tell_code") (st := s_tell_code) (f := He.fAd K ("tell_code", none)) (b.c.t.d.def_ 75 (d := d_tell_code) rfl)
  exact ⟨_, fd, He.glo_ok b.X b.G (b.c.t.d.fact 211 rfl), F.kp, F.binds (ps := ["often"]) (fun _ _ _ _ _ _ us hl => match us, hl with | [_], _ => rfl), ok_tell_code (txK b.toHH) (he_TooLong_init b) (he_TooOften_init b) (hd_code_lengths b) (hc_Answer_init b) F⟩
theorem hd_answer_row (b : HB w K mg base h0) : Hd theRow.prog w K mg base (L2.CX theRow.prog w) 12 "answer_row" ["call", "row"] (sp_answer_row (ttK K) K (caK K)) := by
  obtain ⟨fd, F⟩ := fn_of_def (x := "answer_row") (qual := "answer_row") (st := s_answer_row) (f := He.fAd K ("answer_row", none)) (b.c.t.d.def_ 86 (d := d_answer_row) rfl)
  exact ⟨_, fd, He.glo_ok b.X b.G (b.c.t.d.fact 212 rfl), F.kp, F.binds (ps := ["call", "row"]) (fun _ _ _ _ _ _ us hl => match us, hl with | [_, _], _ => rfl), ok_answer_row (txK b.toHH) (hd_pack b) (hd_unpack b) (hd_judge b) (hd_tell_length b) (hd_tell_parse b) (hd_tell_code b) F⟩
theorem hd_answer_next (b : HB w K mg base h0) : Hd theRow.prog w K mg base (L2.CX theRow.prog w) 13 "answer_next" ["handed", "states"] (sp_answer_next (ttK K) K (caK K)) := by
  obtain ⟨fd, F⟩ := fn_of_def (x := "answer_next") (qual := "answer_next") (st := s_answer_next) (f := He.fAd K ("answer_next", none)) (b.c.t.d.def_ 87 (d := d_answer_next) rfl)
  exact ⟨_, fd, He.glo_ok b.X b.G (b.c.t.d.fact 213 rfl), F.kp, F.binds (ps := ["handed", "states"]) (fun _ _ _ _ _ _ us hl => match us, hl with | [_, _], _ => rfl), ok_answer_next (txK b.toHH) (hm_take b) (hm_take_row b) (hd_read_at b) (hm_begin b) (hm_feed b) (hm_end b) (hd_answer_row b) F⟩
theorem hd_next_numbers (b : HB w K mg base h0) : Hd theRow.prog w K mg base CX0 14 "next_numbers" ["handed", "states"] (sp_next_numbers (ttK K) K (caK K)) := by
  obtain ⟨fd, F⟩ := fn_of_def (x := "next_numbers") (qual := "next_numbers") (st := s_next_numbers) (f := He.fAd K ("next_numbers", none)) (b.c.t.d.def_ 88 (d := d_next_numbers) rfl)
  exact ⟨_, fd, He.glo_ok b.X b.G (b.c.t.d.fact 214 rfl), F.kp, F.binds (ps := ["handed", "states"]) (fun _ _ _ _ _ _ us hl => match us, hl with | [_, _], _ => rfl), ok_next_numbers (txK b.toHH) (hd_answer_next b) F⟩
theorem ans_fn (X : K.In h0) (G : h0.Ns mainGlobals mg) (c : He.SaysX fa fn [] tf exK w h0 K) : AtHead w K mg (He.ga K "answers") h0 := by
  obtain ⟨fd, F⟩ := fn_of_def (x := "answers") (qual := "answers") (st := s_answers) (f := He.fAd K ("answers", none)) (c.t.d.def_ 89 (d := d_answers) rfl)
  refine ⟨fd, csK K, ttK K, fun p hp => ?_, fun p hp => ?_, fun s u => ?_, fun p hp => ?_, fun base bK bN tb => ?_⟩
  · rcases List.mem_cons.mp hp with rfl | hp
    · exact ⟨PySem.W.codeHd_of_K X (c.hd ("code_lengths", none) List.mem_cons_self), c.empty ("code_lengths", none) List.mem_cons_self⟩
    · rcases List.mem_cons.mp hp with rfl | hp
      · exact ⟨PySem.W.codeHd_of_K X (c.hd ("codewords", none) (List.mem_cons_of_mem _ List.mem_cons_self)), c.empty ("codewords", none) (List.mem_cons_of_mem _ List.mem_cons_self)⟩
      · cases hp
  · rcases List.mem_cons.mp hp with rfl | hp
    · exact c.out ("code_lengths", none) List.mem_cons_self
    · rcases List.mem_cons.mp hp with rfl | hp
      · exact c.out ("codewords", none) (List.mem_cons_of_mem _ List.mem_cons_self)
      · cases hp
  · obtain ⟨oc, od, kV, doc, pm, an, cdv, ct, osl, rfl, lk, hcd⟩ := F.ex
    exact BindsTo.of_eq rfl
  · rcases List.mem_cons.mp hp with rfl | hp
    · exact ⟨_, List.mem_cons_self, rfl⟩
    · rcases List.mem_cons.mp hp with rfl | hp
      · exact ⟨_, List.mem_cons_of_mem _ List.mem_cons_self, rfl⟩
      · cases hp
  · have b : HB w K mg base h0 := ⟨⟨X, G, c⟩, bK, bN, tb⟩
    exact ok_answers (txK b.toHH) (hc_Handed_init b) (hc_States_init b) (hm_has_more b) (hd_next_numbers b) F
theorem ans_glo (X : K.In h0) (G : h0.Ns mainGlobals mg) (c : He.SaysX fa fn [] tf exK w h0 K) : mg "answers" = some (.ref (He.ga K "answers")) := He.glo_ok X G (c.t.d.fact 215 rfl)
end
end Sq
end
section
set_option Elab.async false
set_option maxRecDepth 100000
set_option maxHeartbeats 0
/-! the row. -/
namespace Sq
open PySem PySem.Spec PyProof.Rows L2 LamX
abbrev AlL : Type := (Bool × (Bool × List He.FnW)) × Bool
def obL (g : Addr → Option Obj) : AlL := ((factsL fa g, defsL fn g), moreL g)
def valL : AlL := ((true, (true, fn.map He.DefD.val)), true)
theorem saysL {w : World} {h : Heap} (e : obL h.get? = valL) : He.SaysX fa fn [] tf exK w h (KL h.get?) := by
  have e1 : factsL fa h.get? = true := congrArg (fun z : AlL => z.1.1) e
  have e2 : (fn.all fun d => d.ok (KL h.get?)) = true := congrArg (fun z : AlL => z.1.2.1) e
  have e3 : (fn.map fun d => He.fnW (KL h.get?) d.at_) = fn.map He.DefD.val := congrArg (fun z : AlL => z.1.2.2) e
  have e4 : moreL h.get? = true := congrArg (fun z : AlL => z.2) e
  obtain ⟨e5, e6⟩ := He.ba e4
  have e7 : ((fa.all fun f => f.ok (KL h.get?)) && fn.all fun d => d.ok (KL h.get?)) = true := by
    rw [e2, Bool.and_true]
    exact e1
  have look : ∀ p ∈ tf, PySem.W.codeHdIn (KL h.get?) (He.cT (KL h.get?) p).1 (He.cT (KL h.get?) p).2 = true ∧ (KL h.get?).lookup (He.cT (KL h.get?) p).2 = none ∧ h.get? (He.cT (KL h.get?) p).2 = some { cls := .none, data := .fields #[] } := by
    intro p hp
    obtain ⟨f1, f2⟩ := He.ba (List.all_eq_true.mp e6 p hp)
    obtain ⟨f3, f4⟩ := He.ba f2
    refine ⟨f1, Option.isNone_iff_eq_none.mp f3, ?_⟩
    cases q : h.get? (He.cT (KL h.get?) p).2 with
    | none =>
      rw [q] at f4
      cases f4
    | some o =>
      rw [q] at f4
      rw [He.emptyTab_eq f4]
  refine ⟨?_, e5, fun p hp => (look p hp).1, fun p hp => (look p hp).2.1, fun p hp => (look p hp).2.2⟩
  exact Prod.ext (Prod.ext e7 e3) rfl
def hkL : PySem.W.Hook where
  α := AlL
  obs := fun s => obL s.heap.get?
  val := fun _ => valL
  says := fun w h => ∃ K : PySem.W.Frag, K.In h ∧ He.SaysX fa fn [] tf exK w h K
  of := fun _ _ e => ⟨_, He.frG_in, saysL e⟩
  keeps := fun _ _ _ ⟨K, hK, c⟩ k => ⟨K, PySem.W.Frag.In.keeps hK k, ⟨c.t, c.more, c.hd, c.out, fun p hp => k _ _ (c.empty p hp)⟩⟩
def obS (s : PySem.W.SharedT) : AlL := obL (HandSHeadRun.getT s)
theorem obS_eq (s : PySem.W.SharedT) : obS s = hkL.obs s.abs := by
  have e : HandSHeadRun.getT s = s.abs.heap.get? := funext (HandSHeadRun.getT_eq s)
  unfold obS
  rw [e]
  rfl
theorem runS (w : World) : HandSHeadRun.RunEqS theRow qv hkL obS 7200 nms w := by
  intro os
  show (endS w os).map _ = _
  obtain ⟨s, hs, e0⟩ := Option.map_eq_some_iff.mp (show (endS w os).map _ = _ from run0 w os)
  have e1 := runF w os
  have e2 := runD w os
  have e3 := runM w os
  rw [hs] at e1 e2 e3 ⊢
  have f1 : factsL fa (HandSHeadRun.getT s) = true := Option.some.inj e1
  have f2 : defsL fn (HandSHeadRun.getT s) = (true, fn.map He.DefD.val) := Option.some.inj e2
  have f3 : moreL (HandSHeadRun.getT s) = true := Option.some.inj e3
  have g1 := congrArg (fun z => z.1) e0
  have g2 := congrArg (fun z => z.2.1) e0
  have f4 : obS s = valL := Prod.ext (Prod.ext f1 f2) f3
  exact congrArg some (Prod.ext g1 (Prod.ext g2 f4))
end Sq
open PySem PySem.W PySem.Calls PyProof.Rows
theorem PySem.Challenge.cw_onepacking_s01_answers_holds : PySem.Challenge.rw_onepacking_s01_answers.Holds := by
  refine HandSHeadRun.head_spec (r := Sq.theRow) (q := Sq.qv) (H := Sq.hkL) (ob := Sq.obS) (M := 7200) (loose := Sq.nms) (d := Sq.theDefR) (kwd := []) Sq.obS_eq Sq.wOpening Sq.wFence Sq.runS Sq.wDefOf Sq.wTheDef Sq.wKw os_shapes Sq.wSaid Sq.wChains Sq.wBare Sq.wWit ?_
  refine Sq.walkT Sq.wPlain fun w mg fa h Y G hmg0 => ?_
  obtain ⟨K, KX, c⟩ := Y
  have hmg : mg ("answers" : PySem.Str) = some (.ref fa) := by
    rw [← Sq.wDefName]
    exact hmg0
  have e := hmg.symm.trans (Sq.ans_glo KX G c)
  cases e
  exact ⟨K, KX, Sq.ans_fn KX G c⟩
end
