import PyProof.Rows.All
import Wide.All
import OpenK.AllK
import Wide.FinOn
import PyProof.EqAt
import PyProof.EqKinds
import PyProof.TupleCall
import HandS.Base
import HandS.Call
import HandS.List
import HandS.Comp
import HandS.Dict
import HandS.Iter
import HandS.Text
import HandS.Exc
import HandS.ExcOwn
import HandS.ExcCtx
import HandS.ExcIs
import HandS.HotCalls
import HandS.More
import HandS.SortInts
import HandS.Conv
import HandS.Star
import HandS.IsInst
import HandS.CallSlots
import HandS.FStr
import HandS.Flow
import HandS.TupAny
import HandS.Small
import HandS.Words
import HandS.WordsList
import HandS.WordsDict
import HandS.WordsExc
import PySem.Challenge.RW_lastwill_k01_new_boxes
set_option Elab.async false
set_option linter.all false
set_option maxRecDepth 100000
set_option maxHeartbeats 4000000
/-! # Own rules beside the layer's: defs that raise, methods called within a try, defs that get the caught error -/
namespace LW
open PySem PySem.Spec PyProof.Rows L2

section
variable {P : Program} {w : World} {K : PySem.W.Frag} {mg : Str → Option Value} {base : Heap}
abbrev CN (P : Program) (w : World) : CXT := L2N.CX P w
/-- a def of the text keeps its promise, errors let out with no context -/
theorem okN {x qual : Str} {st : Stmt} {f : Addr} {fd : FuncData} {N ps : List Str} {k : Nat} {sp : Sp}
    (F : Fun K x qual st f fd) (S : FnScope N ps (defScope st))
    (len : ∀ vs H Q E, sp vs H Q E → vs.length = ps.length)
    (hbody : ∀ (cdv : Value) (A : Around) (outer : List Env) (s : Shared) (H : Hp) (vs : List V) (Q : VK) (E : XK),
      Room k (A.deeper (envOfC qual (defScope st) s.heap.objs.size f cdv)) → sp vs H Q E →
      ∃ t, PSs (cxOf (CN P w) P w K mg base N qual (defScope st) f cdv A outer s H E) (defBody st) t ∧
        t { nx := fun _ H' => Q .non H', rt := Q } (start N vs) H) :
    FnOk P w K mg base (CN P w) (k + 1) f fd ps sp := by
  obtain ⟨oc, od, kV, doc, pm, an, cdv, ct, osl, rfl, lk, hcd⟩ := F.ex
  exact fn_of lk hcd S len fun A outer s H vs Q E hr hsp => hbody cdv A outer s H vs Q E hr hsp
/-- where nothing is let out -/
theorem pass0N {X : Cx} : Passes (CN X.prog X.w) X E0 := by
  intro pins σ H s e s' I h
  obtain ⟨a, B, H', cls, d, h1, h2, h3, h4, h5, h6, h7, z⟩ := h
  exact z.elim
theorem takes0N {X : Cx} : L2N.Takes X (fun _ _ _ _ => False) := by
  intro u s' x
  obtain ⟨a, B, sI, pins, σ, H, cls, d, h1, h2, h3, h4, h5, h6, h7, h8, z⟩ := x
  exact z.elim
end

/-! ### a method called where what it raises is wished for at the slots -/
def tMethP (C : Addr) (m : Str) (sp : Sp) (E : L2.St → XK) (ta : TE) (t : TA) : TE := fun σ H Q =>
  ta σ H fun x H1 => ∃ a dx fs, x = .ref a ∧ H1 a = some (.ins C dx fs) ∧ fs.lookup m = none ∧
    t σ H1 fun vs H2 => sp (x :: vs) H2 Q (E σ)
section
variable {X : Cx} {CX : CXT} {k : Nat} {f C : Addr} {fd : FuncData} {ps : List Str} {sp : Sp} {E : L2.St → XK} {x m : Str}
  {p pos apos : Pos} {e o : Expr} {es : List Expr} {ta : TE} {t : TA}
theorem pe_methP {pl : Sem Bool} (he : PE X o ta) (c : Cls X.K C) (hm : Meth X.K C m f)
    (F : FnOk X.prog X.w X.K X.mg X.base CX k f fd ps sp) (hr : Room k X.A) (hb : Binds X.K fd ps [])
    (hx : ∀ σ, PassesAt CX X σ (E σ)) (ha : PA X (e :: es) t)
    (hst : starEach (e :: es) X.env = (false, eval e X.env) :: starEach es X.env := by rfl)
    (hpl : (backTo pos (starEach es X.env)).any (·.1) = false := by rfl)
    (ht : eval (.Call (.Attribute o m apos) (e :: es) [] pos) X.env = (do
      let ov ← eval o X.env
      standAt apos.atName
      let (f, first) ← holding [ov] (getMethod ov m pl)
      callWith pos f first (backTo pos (starEach (e :: es) X.env)) (backToKw pos (keywordEach [] X.env))) := by rfl) :
    PE X (.Call (.Attribute o m apos) (e :: es) [] pos) (tMethP C m sp E ta t) := by
  constructor
  intro pins s σ H Q I h
  refine PySem.W.methodCall_KW (pl := pl) (thn (he.run pins s σ H _ I h) fun u s1 hu => ?_) ht
  obtain ⟨x, H1, I1, rx, a, dx, fs, ex, ea, l, q⟩ := hu
  subst ex
  cases (show u = Value.ref a from rx)
  refine getmeth_ok I1 ea c hm l ?_
  refine PySem.W.callWith_K (first := [.ref a]) (h₀ := X.base) I.ok.mod.kin hm.kp
    (thn (ha.run pos pins s1 σ H1 _ I1 q) fun us s2 hv => ?_) hst hpl
  obtain ⟨vs, H2, I2, r, q2⟩ := hv
  exact ⟨I2.kIn, run_fnS (us := .ref a :: us) (vs := .ref a :: vs) F hr hb (hx σ) I2 (.cons rfl r) q2⟩
theorem pe_methP0 {pl : Sem Bool} (he : PE X o ta) (c : Cls X.K C) (hm : Meth X.K C m f)
    (F : FnOk X.prog X.w X.K X.mg X.base CX k f fd ps sp) (hr : Room k X.A) (hb : Binds X.K fd ps [])
    (hx : ∀ σ, PassesAt CX X σ (E σ))
    (ht : eval (.Call (.Attribute o m apos) [] [] pos) X.env = (do
      let ov ← eval o X.env
      standAt apos.atName
      let (f, first) ← holding [ov] (getMethod ov m pl)
      callWith pos f first (backTo pos (starEach [] X.env)) (backToKw pos (keywordEach [] X.env))) := by rfl) :
    PE X (.Call (.Attribute o m apos) [] [] pos) (tMethP C m sp E ta tNil) := by
  constructor
  intro pins s σ H Q I h
  refine PySem.W.methodCall_KW (pl := pl) (thn (he.run pins s σ H _ I h) fun u s1 hu => ?_) ht
  obtain ⟨x, H1, I1, rx, a, dx, fs, ex, ea, l, q⟩ := hu
  subst ex
  cases (show u = Value.ref a from rx)
  refine getmeth_ok I1 ea c hm l ?_
  exact PySem.W.callWith_K0 (first := [.ref a]) I1.kIn hm.kp
    (run_fnS (us := [.ref a]) (vs := [.ref a]) F hr hb (hx σ) I1 (.cons rfl .nil) q)
end

/-! ### a def called in an except suite with the error itself: its promise may speak of the error's object -/
structure FnE (P : Program) (w : World) (K : PySem.W.Frag) (mg : Str → Option Value) (base : Heap) (CX : CXT) (k : Nat)
    (f : Addr) (fd : FuncData) (ps : List Str) (sp : Addr × Obj → Sp) : Prop where
  len : ∀ p vs H Q E, sp p vs H Q E → vs.length = ps.length
  run : ∀ (A : Around) (outer : List Env) (s : Shared) (H : Hp) (args : Args) (us : List Value) (vs : List V) (Q : VK)
    (E : XK) (p : Addr × Obj), L2H.RoomH k A → L2H.Hot1 A p → L2H.PinOk outer H s p →
    Env0 P w K mg base A outer s H → BindsTo s fd args (ps.zip us) → Vals vs us → sp p vs H Q E →
    codeAny (model P w) A (.call (.ref f) args) (CR CX outer P w H s Q E) s
theorem fn_ofE {CX : CXT} {P : Program} {w : World} {K : PySem.W.Frag} {mg : Str → Option Value} {base : Heap} {k : Nat}
    {f : Addr} {name qual : Str} {st : Stmt} {fd : FuncData} {N ps : List Str} {sp : Addr × Obj → Sp}
    (F : Fun K name qual st f fd) (S : FnScope N ps (defScope st))
    (len : ∀ p vs H Q E, sp p vs H Q E → vs.length = ps.length)
    (hbody : ∀ (cdv : Value) (A : Around) (outer : List Env) (s : Shared) (H : Hp) (vs : List V) (Q : VK) (E : XK)
      (p : Addr × Obj), L2H.Hot1 A p → L2H.RoomH k (A.deeper (envOfC qual (defScope st) s.heap.objs.size f cdv)) →
      sp p vs H Q E →
      ∃ t, PSs (L2H.cxH CX P w K mg base N qual (defScope st) f cdv A outer s H E p) (defBody st) t ∧
        t { nx := fun _ H' => Q .non H', rt := Q } (L2.start N vs) H) :
    FnE P w K mg base CX (k + 1) f fd ps sp := by
  obtain ⟨oc, od, kV, doc, pm, an, cdv, ct, osl, rfl, lk, hcd⟩ := F.ex
  refine ⟨len, ?_⟩
  intro A outer s H args us vs Q E p room hot pin e0 binds rel prom
  have hlen := len _ _ _ _ _ prom
  have KX : K.In s.heap := e0.mod.kin.keeps fun b o hb => (e0.bs b o hb).1
  have noLim : s.heap.NoLimit := e0.mod.nolimit.keeps fun b o hb => (e0.bs b o hb).1
  have kinds : ∀ y ∈ ps.zip us, (defScope st).names.lookup y.1 = some .local ∨
      ((defScope st).names.lookup y.1 = some .cell ∧
        ((cellsFrom (s.heap.objs.size + 1) (defScope st).names []).lookup y.1).isSome = true) := by
    rintro ⟨n, v⟩ hy
    rcases S.par n (List.of_mem_zip hy).1 with q | q
    · exact .inl q
    · exact .inr ⟨q, PySem.W.cellsFrom_some _ _ _ (.inl q)⟩
  refine codeAny_call_function room.depth (KX _ _ lk) rfl S.co S.gen rfl (PySem.W.codeRec_of KX hcd)
    (binds _ _ _ _ ?_)
  refine wpAny_newFunctionEnv_cells S.kind kinds ?_
  intro env henv s1 made
  subst henv
  refine ⟨noLim.keeps made.toInCall.keep, codeAny_func ?_⟩
  obtain ⟨t, ht, hq⟩ := hbody cdv A outer s H vs Q E p hot (room.deeper _) prom
  have I := L2H.inv_startH (CX := CX) (base := base) (E := E) S pin e0 hlen rel made
  refine wpAny_mono (ht.run [] s1 (L2.start N vs) H _ I hq) ?_ (fun e s' he => he)
  intro fl s' hs
  cases fl with
  | ret u => obtain ⟨v, σ', H', J, rv, q⟩ := hs; exact ⟨v, H', J.os, J.bare, J.base, J.hok, rv, q⟩
  | next => obtain ⟨σ', H', J, q⟩ := hs; exact ⟨V.non, H', J.os, J.bare, J.base, J.hok, rfl, q⟩
  | brk => obtain ⟨_, _, _, q⟩ := hs; exact q.elim
  | cont => obtain ⟨_, _, _, q⟩ := hs; exact q.elim
section
variable {X : Cx} {CX : CXT} {k : Nat} {f C : Addr} {fd : FuncData} {ps : List Str} {sp : Addr × Obj → Sp} {x m : Str}
  {q pos apos : Pos} {e o : Expr} {es : List Expr} {ta : TE} {t : TA}
def tCallE (sp : Sp) (t : TA) : TE := fun σ H Q => t σ H fun vs H1 => sp vs H1 Q E0
/-- f(e, ..) in the suite that handles p's object -/
theorem pe_callE {p : Addr × Obj} {sp' : Sp} (hsp : ∀ vs H Q, sp' vs H Q E0 → sp p vs H Q E0) (F : FnE X.prog X.w X.K X.mg X.base CX k f fd ps sp) (hr : L2H.RoomH k X.A)
    (hot : L2H.Hot1 X.A p) (hp : p ∈ X.pn) (hg : Gl X x) (hm : X.mg x = some (.ref f))
    (hk : PySem.W.keepIn X.K (.ref f) = true) (hb : Binds X.K fd ps []) (hx : Passes CX X E0)
    (ha : PA X (e :: es) t) (hdb : (x == ("__debug__" : Str)) = false := by decide)
    (he : starEach (e :: es) X.env = (false, eval e X.env) :: starEach es X.env := by rfl)
    (hpl : (backTo pos (starEach es X.env)).any (·.1) = false := by rfl) :
    PE X (.Call (.Name x q) (e :: es) [] pos) (tCallE sp' t) := by
  constructor
  intro pins s σ H Q I h
  refine wpAny_Call_Name_kw (ld_glob I hg hm ?_ hdb)
  refine PySem.W.callWith_K (h₀ := X.base) I.ok.mod.kin hk (thn (ha.run pos pins s σ H _ I h) ?_) he hpl
  intro us s1 hh
  obtain ⟨vs, H1, I1, r, hs⟩ := hh
  have hs := hsp _ _ _ hs
  refine ⟨I1.kIn, ?_⟩
  have hl : us.length = ps.length := by rw [← r.length]; exact F.len _ _ _ _ _ hs
  have b := hb s1 us I1.kIn (by rw [List.append_nil]; exact hl)
  rw [List.append_nil] at b
  have P1 := I1.pin p (List.mem_append_left _ hp)
  have pok : L2H.PinOk X.stack H1 s1 p :=
    ⟨P1.1, P1.2.1, fun z => (List.mem_cons.mp (I1.stkSub p.1 z)).elim P1.2.2.1 P1.2.2.2.1, P1.2.2.2.2⟩
  refine wpAny_call (codeAny_mono (F.run X.A X.stack s1 H1 ⟨us, []⟩ us vs Q E0 p hr hot pok I1.env0 b r hs) ?_)
  intro res s2 hq
  cases res with
  | error e2 => exact hx pins σ H1 s1 e2 s2 I1 hq
  | ok fl =>
    cases fl with
    | ret u => exact I1.after hq
    | next => exact hq.elim
    | brk => exact hq.elim
    | cont => exact hq.elim
end

/-! ### isinstance of the error that is pinned -/
theorem call_isP {X : Cx} {D : Addr} {p : Addr × Obj} (C : ExcC X.K D) (hz : Zc (.ref D) none p.2)
    (hf : ∃ vs, p.2.data = .fields vs) (hp : p ∈ X.pn) : CallR X (.builtin "isinstance") (rIsE X.K D p.1) := by
  intro pins s σ H xs us Q I r h
  obtain ⟨c, cv, b, rfl, hcv, e, q⟩ := h
  obtain ⟨u1, u2, rfl, rx, rt⟩ := vals2 r
  cases (show u1 = Value.ref p.1 from rx)
  cases hcv _ rt
  have hget := (I.pin p (List.mem_append_left _ hp)).1
  obtain ⟨vs, hv⟩ := hf
  have J : PySem.W.InstAt s.heap p.1 p.2 D none := by
    obtain ⟨a, ⟨oc, od, oda, osl⟩⟩ := p
    obtain ⟨h1, h2⟩ := hz
    dsimp only at h1 h2 hv hget
    subst h1 h2 hv
    exact ⟨hget, rfl, rfl, trivial⟩
  refine PySem.W.kia_one (PySem.W.handS_kitx_exc C.hg C.hk C.hs C.hd C.ha C.hn C.ht C.hm) I.kIn J e (fun z => nomatch z) ?_
  intro tk
  exact ⟨.bl b, H, I.kept (t' := tk) fun _ _ z => z, rfl, q⟩

/-! ### an own error class, raised with one argument of any form -/
structure XC (K : PySem.W.Frag) (mg : Str → Option Value) (x : Str) (C : Addr) : Prop where
  gC : mg x = some (.ref C)
  q : PySem.W.excIn K C [.type "ValueError", .type "Exception", .type "BaseException", .type "object"] "ValueError.__new__" = true
  kC : PySem.W.keepIn K (.ref C) = true
  bP : PySem.W.subIn K (.ref C) (.type "BaseException") = some true
  tP : PySem.W.typeIn K (.ref C) = some (.type "type")
theorem pmk_N {X : Cx} {x : Str} {C : Addr} {e : Expr} {ta : TE} {p pos : Pos} (T : XC X.K X.mg x C) (hg : Gl X x)
    (he : PE X e ta) (hs : starEach [e] X.env = (false, eval e X.env) :: starEach [] X.env := by rfl)
    (hdb : (x == ("__debug__" : Str)) = false := by decide) :
    L2N.PMk X (.Call (.Name x p) [e] [] pos) (fun σ H Q => ta σ H fun _ H1 => Q (.ref C) none H1) := by
  intro pins s σ H Q I h
  refine wpAny_Call_Name_kw (ld_glob I hg T.gC ?_ hdb)
  refine PySem.W.callWith_K (h₀ := X.base) I.ok.mod.kin T.kC ?_ hs (by rfl)
  rw [hs]
  show wpAny _ _ (spliced ((false, eval e X.env) :: backTo pos (starEach [] X.env))) _ _ s
  refine Calls.spliced_cons (thn (he.run pins s σ H _ I h) ?_)
  intro u s1 hu
  obtain ⟨v, H1, I1, r1, q1⟩ := hu
  refine Calls.spliced_nil ⟨I1.kIn, ?_⟩
  show wpAny _ _ (call (.ref C) [u]) _ _ _
  obtain ⟨bm, N, nm, qn, bs, hdct, sn, sub, ab, col, dd, k0, k1, k2, k3, k5, mN, hC, hN, hni, TT⟩ := exc_obj I1.kIn T.q
  refine wpAny_call_exc_subT PySem.F.excBase_ValueError TT hC hN hni ?_ (by show 1 ≤ sizeLine; rw [sizeLine_eq]; omega)
  intro h' e' hm
  exact L2N.mk_of I1 hm (raises_own T.bP T.tP) q1 (I1.hok.gone hm.new)
end LW
/-! # Going through a reading step by step: one lemma a word of the layer, and the tactic that tries them -/
namespace LW
open PySem PySem.Spec PyProof.Rows L2

/-! ### named readings of built-ins -/
section
variable {X : Cx}
def rLen (K : PySem.W.Frag) : List V → Hp → VK → Prop := fun xs H Q => ∃ p ys, xs = [.ref p] ∧ (SqL K H p ys ∨ SqT K H p ys) ∧ Q (.int ys.length) H
theorem call_lenS : CallR X (.builtin "len") (rLen X.K) := call_len_seq
def rLenD : List V → Hp → VK → Prop := fun xs H Q => ∃ a kvs, xs = [V.ref a] ∧ H a = some (.dK kvs) ∧ Q (.int kvs.length) H
theorem call_lenD' : CallR X (.builtin "len") rLenD := call_lenD
def rList (K : PySem.W.Frag) : List V → Hp → VK → Prop := fun xs H Q => ∃ p ys, xs = [.ref p] ∧ (SqL K H p ys ∨ SqT K H p ys) ∧ ∀ l, H l = none → Q (.ref l) (upd H l (.lst ys))
theorem call_listS : CallR X (.type "list") (rList X.K) := call_list_of
def rSortD : List V → Hp → VK → Prop := fun xs H Q => ∃ (a : Addr) (kvs : List (Key × V)) (ks : List Int), xs = [.ref a] ∧ Rd H a (.dK kvs) ∧ kvs.map (·.1) = ks.map Sum.inl ∧ ks.length < 64 ∧
  ∀ (ys : List Int) (p : Addr), ys.Perm ks → ys.Pairwise (· ≤ ·) → H p = none → Q (.ref p) (upd H p (.lst (ys.map V.int)))
theorem call_sortedDI' (hc : X.calm = true) : CallR X (.builtin "sorted") rSortD := call_sortedDI hc
def rIsN : R2 := fun x y H Q => y = .non ∧ Q (.bl (decide (x = .non))) H
theorem op_isN' : OpR X (compareOp .Is) rIsN := op_isN
def rNotN : R2 := fun x y H Q => y = .non ∧ Q (.bl (!decide (x = .non))) H
theorem op_notN' : OpR X (compareOp .IsNot) rNotN := op_notN
def rMax2 : List V → Hp → VK → Prop := fun xs H Q => ∃ i j, xs = [.int i, .int j] ∧ Q (.int (if j > i then j else i)) H
theorem call_max2' (hc : X.calm = true) : CallR X (.builtin "max") rMax2 := call_max2 hc
def rMin2 : List V → Hp → VK → Prop := fun xs H Q => ∃ i j, xs = [.int i, .int j] ∧ Q (.int (if j < i then j else i)) H
theorem call_min2' (hc : X.calm = true) : CallR X (.builtin "min") rMin2 := call_min2 hc
def rInt1 : List V → Hp → VK → Prop := fun xs H Q => (∃ i, xs = [.int i] ∧ Q (.int i) H) ∨ ∃ k, xs = [.bl k] ∧ Q (.int (if k then 1 else 0)) H
theorem call_int_bool' : CallR X (.type "int") rInt1 := call_int1
end

/-! ### one lemma a word -/
section
variable {σ : L2.St} {H : Hp} {Q : VK} {D : Ends} {te ta tb : TE} {t u : TS} {c tt uu : TT} {K : PySem.W.Frag} {i j n : Int} {v x y : V} {B : Bool → Hp → Prop}
theorem g_seq (h : t { D with nx := u D } σ H) : tSeq t u D σ H := h
theorem g_next (h : D.nx σ H) : tNext D σ H := h
theorem g_asg {g : TG} (h : te σ H fun v H1 => g v σ H1 D.nx) : tAsg te g D σ H := h
theorem g_name {k : Nat} {R : L2.St → Hp → Prop} (h : R (σ.set k (some v)) H) : gName k v σ H R := h
theorem g_ret (h : te σ H D.rt) : tRet te D σ H := h
theorem g_drop (h : te σ H fun _ H1 => D.nx σ H1) : tDrop te D σ H := h
theorem g_ifs (h : c σ H fun b H1 => if b = true then t D σ H1 else u D σ H1) : tIfS c t u D σ H := h
theorem g_var {k : Nat} (e : σ[k]? = some (some v)) (h : Q v H) : tVar k σ H Q := ⟨v, e, h⟩
theorem g_c (h : Q v H) : tC v σ H Q := h
theorem g_op {r : R2} (h : ta σ H fun x H1 => tb σ H1 fun y H2 => r x y H2 Q) : tOp r ta tb σ H Q := h
theorem g_un {r : V → Hp → VK → Prop} (h : ta σ H fun x H1 => r x H1 Q) : tUn r ta σ H Q := h
theorem g_test (h : te σ H fun x H1 => ∃ k, x = .bl k ∧ B k H1) : tTest te σ H B := h
theorem g_tb (h : te σ H fun x H1 => ∃ k, x = .bl k ∧ B k H1) : tB te σ H B := h
theorem g_isbl {b : Bool} (h : B b H) : ∃ k, V.bl b = .bl k ∧ B k H := ⟨b, rfl, h⟩
theorem g_or (h : tt σ H fun c H1 => if c = true then B true H1 else uu σ H1 B) : tOr tt uu σ H B := h
theorem g_and (h : tt σ H fun c H1 => if c = true then uu σ H1 B else B false H1) : tAnd tt uu σ H B := h
theorem g_not (h : tt σ H fun c H1 => B (!c) H1) : tNot tt σ H B := h
theorem g_orV (h : ta σ H fun x H1 => ∃ c, x = .bl c ∧ if c = true then Q (.bl true) H1 else tb σ H1 Q) : tOrV ta tb σ H Q := h
theorem g_andV (h : ta σ H fun x H1 => ∃ c, x = .bl c ∧ if c = true then tb σ H1 Q else Q (.bl false) H1) : tAndV ta tb σ H Q := h
theorem g_notV (h : ta σ H fun x H1 => ∃ c, x = .bl c ∧ Q (.bl (!c)) H1) : tNotV ta σ H Q := h
theorem g_isblA {b : Bool} {P : Bool → Prop} (h : P b) : ∃ c, V.bl b = .bl c ∧ P c := ⟨b, rfl, h⟩
theorem g_ifE (h : tt σ H fun c H1 => if c = true then ta σ H1 Q else tb σ H1 Q) : tIf tt ta tb σ H Q := h
theorem g_rI0 {g : Int → Int → V} (h : Q (g i j) H) : rI0 g (.int i) (.int j) H Q := ⟨i, j, rfl, rfl, h⟩
theorem g_rI {C : Int → Int → Prop} {g : Int → Int → V} (hc : C i j) (h : Q (g i j) H) : rI C g (.int i) (.int j) H Q := ⟨i, j, rfl, rfl, hc, h⟩
theorem g_rU {g : Int → V} (h : Q (g i) H) : rU g (.int i) H Q := ⟨i, rfl, h⟩
theorem dec_int : decide (V.int i = V.int j) = decide (i = j) := by
  by_cases h : i = j
  · subst h; simp
  · rw [decide_eq_false h, decide_eq_false (fun e => h (V.int.inj e))]
theorem dec_str {a b : Str} : decide (V.str a = V.str b) = decide (a = b) := by
  by_cases h : a = b
  · subst h; simp
  · rw [decide_eq_false h, decide_eq_false (fun e => h (V.str.inj e))]
theorem g_eqI (h : Q (.bl (decide (i = j))) H) : rEq (.int i) (.int j) H Q := ⟨rfl, by rw [dec_int]; exact h⟩
theorem g_neI (h : Q (.bl (!decide (i = j))) H) : rNe (.int i) (.int j) H Q := ⟨rfl, by rw [dec_int]; exact h⟩
theorem g_eqS {a b : Str} (h : Q (.bl (decide (a = b))) H) : rEq (.str a) (.str b) H Q := ⟨rfl, by rw [dec_str]; exact h⟩
theorem g_neS {a b : Str} (h : Q (.bl (!decide (a = b))) H) : rNe (.str a) (.str b) H Q := ⟨rfl, by rw [dec_str]; exact h⟩
theorem g_isN (h : Q (.bl (decide (x = .non))) H) : rIsN x .non H Q := ⟨rfl, h⟩
theorem g_notN (h : Q (.bl (!decide (x = .non))) H) : rNotN x .non H Q := ⟨rfl, h⟩
theorem g_nil {QA : List V → Hp → Prop} (h : QA [] H) : tNil σ H QA := h
theorem g_cons {tr : TA} {QA : List V → Hp → Prop} (h : ta σ H fun x H1 => tr σ H1 fun xs H2 => QA (x :: xs) H2) : tCons ta tr σ H QA := h
theorem g_cb {r : List V → Hp → VK → Prop} {t : TA} (h : t σ H fun vs H1 => r vs H1 Q) : tCB r t σ H Q := h
theorem g_fld {f : Str} (h : ta σ H fun x H1 => ∃ a C dx fs v, x = .ref a ∧ H1 a = some (.ins C dx fs) ∧ Cls K C ∧ NoAttr K C f ∧ fs.lookup f = some v ∧ Q v H1) : tFld K ta f σ H Q := h
theorem g_call {sp : Sp} {dvs : List V} {E : XK} {t : TA} (h : t σ H fun vs H1 => sp (vs ++ dvs) H1 Q E) : tCall sp dvs E t σ H Q := h
theorem g_tup {t : TA} (h : t σ H fun xs H1 => xs.length ≤ sizeLine ∧ ∀ p, H1 p = none → Q (.ref p) (upd H1 p (.tup xs))) : tTup t σ H Q := h
theorem g_lst {t : TA} (h : t σ H fun xs H1 => xs.length ≤ sizeLine ∧ ∀ p, H1 p = none → Q (.ref p) (upd H1 p (.lst xs))) : tLst t σ H Q := h
theorem g_lenL {p : Addr} {ys : List V} (e : SqL K H p ys) (h : Q (.int ys.length) H) : rLen K [.ref p] H Q := ⟨p, ys, rfl, .inl e, h⟩
theorem g_lenT {p : Addr} {ys : List V} (e : SqT K H p ys) (h : Q (.int ys.length) H) : rLen K [.ref p] H Q := ⟨p, ys, rfl, .inr e, h⟩
theorem g_lenD {p : Addr} {kvs : List (Key × V)} (e : H p = some (.dK kvs)) (h : Q (.int kvs.length) H) : rLenD [.ref p] H Q := ⟨p, kvs, rfl, e, h⟩
theorem g_ixL {p : Addr} {xs : List V} (e : SqL K H p xs) (a : atI xs i = some v) (h : Q v H) : rIxL K (.ref p) (.int i) H Q := ⟨p, xs, i, v, rfl, rfl, e, a, h⟩
theorem g_ixT {p : Addr} {xs : List V} (e : SqT K H p xs) (a : atI xs i = some v) (h : Q v H) : rIxT K (.ref p) (.int i) H Q := ⟨p, xs, i, v, rfl, rfl, e, a, h⟩
theorem g_max2 (h : Q (.int (if j > i then j else i)) H) : rMax2 [.int i, .int j] H Q := ⟨i, j, rfl, h⟩
theorem g_min2 (h : Q (.int (if j < i then j else i)) H) : rMin2 [.int i, .int j] H Q := ⟨i, j, rfl, h⟩
theorem g_intb {k : Bool} (h : Q (.int (if k then 1 else 0)) H) : rInt1 [.bl k] H Q := .inr ⟨k, rfl, h⟩
theorem g_dnotin {ty td : TE} (h : ty σ H fun y H1 => td σ H1 fun x H2 => ∃ a o, x = .ref a ∧ DGet H2 a y o ∧ Q (.bl (!o.isSome)) H2) : tDNotIn ty td σ H Q := h
theorem g_din {ty td : TE} (h : ty σ H fun y H1 => td σ H1 fun x H2 => ∃ a o, x = .ref a ∧ DGet H2 a y o ∧ Q (.bl o.isSome) H2) : tDIn ty td σ H Q := h
theorem g_dget {ty td : TE} (h : td σ H fun x H1 => ty σ H1 fun y H2 => ∃ a v, x = .ref a ∧ DGet H2 a y (some v) ∧ Q v H2) : tDGet td ty σ H Q := h
theorem g_dput {td ty tv : TE} (h : tv σ H fun v H1 => td σ H1 fun x H2 => ty σ H2 fun y H3 => ∃ a H4, x = .ref a ∧ DPut H3 a y v H4 ∧ D.nx σ H4) : sDPut td ty tv D σ H := h
theorem g_sfld {f : Str} {tv : TE} (h : tv σ H fun y H1 => ta σ H1 fun x H2 => ∃ a C dx fs, x = .ref a ∧ H2 a = some (.ins C dx fs) ∧ Cls K C ∧ NoAttr K C f ∧ fs.length < 1000 ∧ D.nx σ (upd H2 a (.ins C dx (putF f y fs)))) : sFld K ta tv f D σ H := h
theorem g_meth {C : Addr} {m : Str} {sp : Sp} {dvs : List V} {E : XK} {t : TA} (h : ta σ H fun x H1 => ∃ a dx fs, x = .ref a ∧ H1 a = some (.ins C dx fs) ∧ fs.lookup m = none ∧ t σ H1 fun vs H2 => sp (x :: (vs ++ dvs)) H2 Q E) : tMeth C m sp dvs E ta t σ H Q := h
theorem g_methP {C : Addr} {m : Str} {sp : Sp} {E : L2.St → XK} {t : TA} (h : ta σ H fun x H1 => ∃ a dx fs, x = .ref a ∧ H1 a = some (.ins C dx fs) ∧ fs.lookup m = none ∧ t σ H1 fun vs H2 => sp (x :: vs) H2 Q (E σ)) : tMethP C m sp E ta t σ H Q := h
theorem g_dnew (h : ∀ p, H p = none → Q (.ref p) (upd H p (.dK []))) : tDNewK σ H Q := h
theorem g_lenDI {d : Addr} {kvs : List (Key × V)} (e : H d = some (.dK kvs)) (h : Q (.int kvs.length) H) : rLenD [.ref d] H Q := ⟨d, kvs, rfl, e, h⟩
theorem g_listL {p : Addr} {ys : List V} (e : SqL K H p ys) (h : ∀ l, H l = none → Q (.ref l) (upd H l (.lst ys))) : rList K [.ref p] H Q := ⟨p, ys, rfl, .inl e, h⟩
theorem g_bm {T : String} {r : V → List V → Hp → VK → Prop} {t : TA} (h : ta σ H fun x H1 => tyV K T x H1 ∧ t σ H1 fun xs H2 => r x xs H2 Q) : tBM K T r ta t σ H Q := h
theorem g_append {l : Addr} {xs : List V} (e : H l = some (.lst xs)) (z : xs.length ≤ 1000) (h : Q .non (upd H l (.lst (xs ++ [v])))) : rAppend (.ref l) [v] H Q := ⟨l, xs, v, rfl, rfl, e, small1000 z, h⟩
theorem g_gsub {to ti : TE} {t : TSet} {R : L2.St → Hp → Prop} (h : to σ H fun o H1 => ti σ H1 fun i H2 => t o i v H2 fun H3 => R σ H3) : gSub to ti t v σ H R := h
theorem g_setL {p : Addr} {xs : List V} {k : Int} {jj : Nat} {R : Hp → Prop} (e : H p = some (.lst xs)) (hj : ixN xs.length k = some jj) (h : R (upd H p (.lst (xs.set jj v)))) : rSetL (.ref p) (.int k) v H R := ⟨p, xs, k, jj, rfl, rfl, e, hj, h⟩
theorem g_rep {l : Addr} {xs : List V} {k : Int} (e : H l = some (.lst xs)) (h0 : 0 ≤ k) (h1 : k ≤ 1000) (h2 : xs.length ≤ 1000) (h : ∀ p, H p = none → Q (.ref p) (upd H p (.lst (List.replicate k.toNat xs).flatten))) : rRep (.ref l) (.int k) H Q :=
  ⟨l, k, xs, rfl, rfl, e, by omega, by omega, by
    have : k.toNat ≤ 1000 := by omega
    have := Nat.mul_le_mul h2 this
    exact Nat.le_trans this (by decide), h⟩
theorem putF_lt {f : Str} {v : V} : ∀ {fs : List (Str × V)} {n : Nat}, fs.length < n → (putF f v fs).length < n + 1
  | [], n, h => by show 1 < n + 1; have : 0 < n := h; omega
  | (g, x) :: r, n, h => by
    show (if g = f then (g, v) :: r else (g, x) :: putF f v r).length < n + 1
    have h' : r.length + 1 < n := h
    split
    · show r.length + 1 < n + 1; omega
    · have := putF_lt (f := f) (v := v) (fs := r) (n := n - 1) (by omega)
      show (putF f v r).length + 1 < n + 1; omega
/-- a test whose outcome is open -/
theorem g_ite {p A B : Prop} [Decidable p] (h1 : p → A) (h2 : ¬ p → B) : if decide p = true then A else B := by
  by_cases h : p
  · rw [if_pos (decide_eq_true h)]; exact h1 h
  · rw [if_neg (by simpa using h)]; exact h2 h
theorem g_iteN {p A B : Prop} [Decidable p] (h1 : ¬ p → A) (h2 : p → B) : if (!decide p) = true then A else B := by
  by_cases h : p
  · rw [if_neg (by simpa using h)]; exact h2 h
  · rw [if_pos (by simpa using h)]; exact h1 h
theorem g_iteNN {b : Bool} {A B : Prop} (h : if b = true then A else B) : if (!!b) = true then A else B := by rw [Bool.not_not]; exact h
theorem g_iteB {b : Bool} {A B : Prop} (h1 : b = true → A) (h2 : b = false → B) : if b = true then A else B := by
  cases b with
  | true => rw [if_pos rfl]; exact h1 rfl
  | false => rw [if_neg (by decide)]; exact h2 rfl
theorem g_iteNB {b : Bool} {A B : Prop} (h1 : b = false → A) (h2 : b = true → B) : if (!b) = true then A else B := by
  cases b with
  | true => rw [if_neg (by decide)]; exact h2 rfl
  | false => rw [if_pos (by decide)]; exact h1 rfl
theorem g_iteT {A B : Prop} (h : A) : if true = true then A else B := by rw [if_pos rfl]; exact h
theorem g_iteF {A B : Prop} (h : B) : if false = true then A else B := by rw [if_neg (by decide)]; exact h
theorem g_iteNF {A B : Prop} (h : A) : if (!false) = true then A else B := by rw [if_pos (by decide)]; exact h
theorem g_iteNT {A B : Prop} (h : B) : if (!true) = true then A else B := by rw [if_neg (by decide)]; exact h
end
theorem g_lc {σ : L2.St} {H : Hp} {Q : VK} {wi : TI} {g : TG} {tt : TT} {te : TE} {vs : List Nat}
    (h : wi σ H fun J H1 => ∀ D, H1 D = none → ∃ W : Nat → Nat → Hp → Prop, (∃ m, W 0 m (upd H1 D (.lst []))) ∧ ∀ i m H, W i m H →
      (J.stop i H ∧ Q (.ref D) H) ∨ (J.go i H ∧ ∃ Nx : Hp → Prop, (∀ H', Nx H' → ∃ m', m' < m ∧ W (i + 1) m' H') ∧ ∀ x H', J.yld i H x H' → g x (wipe σ vs) H' fun σ2 H2 => wipe σ2 vs = wipe σ vs ∧ tt σ2 H2 fun b H3 =>
        if b = true then te σ2 H3 fun y H4 => ∃ acc, H4 D = some (.lst acc) ∧ acc.length < sizeLine ∧ Nx (upd H4 D (.lst (acc ++ [y]))) else Nx H3)) : tLc wi g tt te vs σ H Q := h
theorem g_iList {σ : L2.St} {H : Hp} {K : PySem.W.Frag} {tl : TE} {R : It → Hp → Prop} (h : tl σ H fun x H1 => ∃ a, x = .ref a ∧ (∃ xs, SqL K H1 a xs) ∧ R (Itl K a) H1) : iList K tl σ H R := h
theorem g_iTup {σ : L2.St} {H : Hp} {K : PySem.W.Frag} {tl : TE} {R : It → Hp → Prop} (h : tl σ H fun x H1 => ∃ a, x = .ref a ∧ (∃ xs, SqT K H1 a xs) ∧ R (Itt K a) H1) : iTup K tl σ H R := h
theorem g_iRng1 {σ : L2.St} {H : Hp} {ta : TA} {R : It → Hp → Prop} (h : ta σ H fun vs H1 => ∃ j : Int, vs = [.int j] ∧ -(2 ^ 62) ≤ j ∧ j < 2 ^ 62 ∧ R (Itr 0 j.toNat) H1) : iRng1 ta σ H R := h
theorem g_for {σ : L2.St} {H : Hp} {D : Ends} {wi : TI} {g : TG} {tb : TS} (h : wi σ H fun J H1 => ∃ W : Nat → Nat → L2.St → Hp → Prop, (∃ m, W 0 m σ H1) ∧ ∀ i m σ H, W i m σ H →
  (J.stop i H ∧ D.nx σ H) ∨ (J.go i H ∧ ∃ N : L2.St → Hp → Prop, (∀ σ' H', N σ' H' → ∃ m', m' < m ∧ W (i + 1) m' σ' H') ∧ ∀ x H', J.yld i H x H' → g x σ H' fun σ2 H2 => tb { D with nx := N, ct := N, bk := D.nx } σ2 H2)) : tFor wi g tb D σ H := h
theorem g_sl {σ : L2.St} {H : Hp} {Q : VK} {r : V → Option Int → Option Int → Hp → VK → Prop} {te : TE} {tl th : TO} (h : te σ H fun x H1 => tl σ H1 fun l H2 => th σ H2 fun u H3 => r x l u H3 Q) : tSl r te tl th σ H Q := h
theorem g_part {σ : L2.St} {H : Hp} {te : TE} {R : Option Int → Hp → Prop} (h : te σ H fun x H1 => ∃ i, x = .int i ∧ R (some i) H1) : tPart te σ H R := h
theorem g_nopart {σ : L2.St} {H : Hp} {R : Option Int → Hp → Prop} (h : R none H) : tNoPart σ H R := h
theorem g_partI {H : Hp} {i : Int} {R : Option Int → Hp → Prop} (h : R (some i) H) : ∃ j, V.int i = .int j ∧ R (some j) H := ⟨i, rfl, h⟩
theorem g_isiI {K : PySem.W.Frag} {H : Hp} {Q : VK} {x : V} {t : Value} {T : String} {b : Bool} (ty : TyOf K H x t) (e : PySem.W.kitOne K t (.type T) = some b) (h : Q (.bl b) H) : rIsi K [x, .ty T] H Q :=
  ⟨x, .ty T, t, .type T, b, rfl, .ty T, .base ty, e, h⟩
theorem g_callE {σ : L2.St} {H : Hp} {Q : VK} {sp : Sp} {t : TA} (h : t σ H fun vs H1 => sp vs H1 Q E0) : tCallE sp t σ H Q := h
theorem g_lstRg {σ : L2.St} {H : Hp} {Q : VK} {te : L2.St → Hp → (Int → Int → Hp → Prop) → Prop} (h : te σ H fun a b H1 => RgOk a b ∧ ∀ q, H1 q = none → Q (.ref q) (upd H1 q (.lst (rgV a b)))) : tLstRg te σ H Q := h
theorem g_rg1 {σ : L2.St} {H : Hp} {ta : TE} {R : Int → Int → Hp → Prop} (h : ta σ H fun x H1 => ∃ n, x = .int n ∧ R 0 n H1) : tRg1 ta σ H R := h
theorem g_rg1I {H : Hp} {i : Int} {R : Int → Hp → Prop} (h : R i H) : ∃ n, V.int i = .int n ∧ R n H := ⟨i, rfl, h⟩
theorem g_isE {K : PySem.W.Frag} {H : Hp} {Q : VK} {D p c : Addr} {b : Bool} (e : PySem.W.kitOne K (.ref D) (.ref c) = some b) (h : Q (.bl b) H) : rIsE K D p [.ref p, .ref c] H Q :=
  ⟨.ref c, .ref c, b, rfl, fun _ r => r, e, h⟩
theorem g_isET {K : PySem.W.Frag} {H : Hp} {Q : VK} {D p : Addr} {T : String} {b : Bool} (e : PySem.W.kitOne K (.ref D) (.type T) = some b) (h : Q (.bl b) H) : rIsE K D p [.ref p, .ty T] H Q :=
  ⟨.ty T, .type T, b, rfl, fun _ r => r, e, h⟩
theorem g_neD {K : PySem.W.Frag} {H : Hp} {Q : VK} {x y : V} {d e : PyData} (hx : Dp K H x d) (hy : Dp K H y e) (sd : SeqAt.shaped d = true) (se : SeqAt.shaped e = true) (h : Q (.bl (!PyData.eqv d e)) H) : rNeD K x y H Q := ⟨d, e, hx, hy, sd, se, h⟩
theorem g_eqD {K : PySem.W.Frag} {H : Hp} {Q : VK} {x y : V} {d e : PyData} (hx : Dp K H x d) (hy : Dp K H y e) (sd : SeqAt.shaped d = true) (se : SeqAt.shaped e = true) (h : Q (.bl (PyData.eqv d e)) H) : rEqD K x y H Q := ⟨d, e, hx, hy, sd, se, h⟩
theorem eqv_same {d : PyData} (s : SeqAt.shaped d = true) : PyData.eqv d d = true := by
  unfold SeqAt.shaped at s
  exact SeqAt.eqv_refl d (Bool.and_eq_true _ _ ▸ s).1
/-- equal data: the same answer -/
theorem g_neDS {K : PySem.W.Frag} {H : Hp} {Q : VK} {x y : V} {d : PyData} (hx : Dp K H x d) (hy : Dp K H y d) (sd : SeqAt.shaped d = true) (h : Q (.bl false) H) : rNeD K x y H Q := ⟨d, d, hx, hy, sd, sd, by rw [eqv_same sd]; exact h⟩
theorem g_eqDS {K : PySem.W.Frag} {H : Hp} {Q : VK} {x y : V} {d : PyData} (hx : Dp K H x d) (hy : Dp K H y d) (sd : SeqAt.shaped d = true) (h : Q (.bl true) H) : rEqD K x y H Q := ⟨d, d, hx, hy, sd, sd, by rw [eqv_same sd]; exact h⟩
theorem g_all {K : PySem.W.Frag} {H : Hp} {Q : VK} {p : Addr} {bs : List Bool} (e : SqL K H p (bs.map V.bl)) (hb : ∀ b ∈ bs, b = true) (h : Q (.bl true) H) : rAll K [.ref p] H Q :=
  ⟨p, bs, rfl, e, by rw [show bs.all id = true from List.all_eq_true.mpr fun b m => hb b m]; exact h⟩
theorem g_yes {σ : L2.St} {H : Hp} {B : Bool → Hp → Prop} (h : B true H) : tYes σ H B := h
/-- what follows a statement, kept closed: J is what is to be reached -/
theorem g_cut {σ : L2.St} {H : Hp} {t : TS} {D : Ends} (J : L2.St → Hp → Prop) (h : ∀ D' : Ends, D'.rt = D.rt → (∀ σ' H', J σ' H' → D'.nx σ' H') → t D' σ H) (k : ∀ σ' H', J σ' H' → D.nx σ' H') : t D σ H := h D rfl k
theorem g_make {σ : L2.St} {H : Hp} {Q : VK} {C : Addr} {sp : Sp} {dvs : List V} {E : XK} {t : TA} (h : t σ H fun vs H1 => ∀ x dx, H1 x = none → H1 dx = none → dx ≠ x → sp (.ref x :: (vs ++ dvs)) (upd (upd H1 dx (.own x)) x (.ins C dx [])) (fun v H2 => v = .non ∧ Q (.ref x) H2) E) : tMake C sp dvs E t σ H Q := h
theorem g_ddel {σ : L2.St} {H : Hp} {D : Ends} {td ty : TE} (h : td σ H fun x H1 => ty σ H1 fun y H2 => ∃ a kvs k, x = .ref a ∧ H2 a = some (.dK kvs) ∧ y = kV k ∧ (valV kvs k).isSome = true ∧ D.nx σ (upd H2 a (.dK (dropK kvs k)))) : sDDel td ty D σ H := h
theorem g_star {σ : L2.St} {H : Hp} {K : PySem.W.Frag} {te : TE} {t : TA} {R : List V → Hp → Prop} (h : te σ H fun x H1 => ∃ p xs, x = V.ref p ∧ (SqT K H1 p xs ∨ SqL K H1 p xs) ∧ t σ H1 fun ys H2 => R (xs ++ ys) H2) : StX.tStar K te t σ H R := h
theorem g_dpop1 {σ : L2.St} {H : Hp} {Q : VK} {td ty : TE} (h : td σ H fun x H1 => ∃ a, x = .ref a ∧ IsD H1 a ∧ ty σ H1 fun y H2 => ∃ kvs k v, H2 a = some (.dK kvs) ∧ y = kV k ∧ valV kvs k = some v ∧ Q v (upd H2 a (.dK (dropK kvs k)))) : tDPop1 td ty σ H Q := h
theorem g_dget2 {σ : L2.St} {H : Hp} {Q : VK} {td ty tx : TE} (h : td σ H fun x H1 => ∃ a, x = .ref a ∧ IsD H1 a ∧ ty σ H1 fun y H2 => tx σ H2 fun z H3 => ∃ o, DGet H3 a y o ∧ Q (o.getD z) H3) : tDGet2 td ty tx σ H Q := h
theorem g_iteNS {α : Type} {x : α} {A B : Prop} (h : B) : if (!(some x).isSome) = true then A else B := by rw [if_neg (by simp)]; exact h
theorem g_iteNO {α : Type} {A B : Prop} (h : A) : if (!(none : Option α).isSome) = true then A else B := by rw [if_pos (by simp)]; exact h
theorem g_iteS {α : Type} {x : α} {A B : Prop} (h : A) : if (some x).isSome = true then A else B := by rw [if_pos (by simp)]; exact h
theorem g_iteO {α : Type} {A B : Prop} (h : B) : if (none : Option α).isSome = true then A else B := by rw [if_neg (by simp)]; exact h
/-- free behind a store: free ahead of it -/
theorem none_upd {H : Hp} {b c : Addr} {o : HO} (h : upd H c o b = none) : b ≠ c ∧ H b = none := by
  have n : b ≠ c := fun z => by rw [z, upd_same] at h; cases h
  exact ⟨n, by rw [upd_ne n] at h; exact h⟩
/-- a written list fits -/
theorem sz1 {n : Nat} (h : n ≤ 100000) : n ≤ sizeLine := Nat.le_trans h (by decide)

/-- a message of three parts -/
theorem g_msg {σ : L2.St} {H : Hp} {R : Str → Hp → Prop} {s1 s2 : Str} {i : Int} (h1 : (Str.empty ++ s1).length ≤ sizeLine) (hi : i.natAbs.log2 < 1920) (h2 : (Str.empty ++ s1 ++ Str.ofString (toString i)).length ≤ sizeLine) (h3 : (Str.empty ++ s1 ++ Str.ofString (toString i) ++ s2).length ≤ sizeLine)
    (h : R (Str.empty ++ s1 ++ Str.ofString (toString i) ++ s2) H) : tJs [tC (.str s1), tFmt (tC (.int i)), tC (.str s2)] Str.empty σ H R :=
  ⟨s1, rfl, h1, .inr ⟨i, rfl, hi, _, rfl, h2, s2, rfl, h3, h⟩⟩
theorem sl_tupK {X : Cx} {K : PySem.W.Frag} (h : X.K = K) : SlR X (rSlT K) := by
  subst h
  exact sl_tup

/-! ### the tactics. "hl": what stands at an address; "ne": two addresses differ; "go": on, as far as nothing is to be decided -/
end LW
/-! # min of a tuple of numbers -/
namespace LW
open PySem PySem.Spec PyProof.Rows L2
section
variable {prog : Program} {w : World} {A : Around} {E : Value → Shared → Prop} {s : Shared} {l : Addr}
theorem min_intTup {xs : Array (Int × Tok)} {Q : Value → Shared → Prop} (hh : A.handled = none) (hl : s.heap.IsTuple l (intItems xs)) (hne : 0 < xs.size)
    (h : ∀ v h' tk, (intItems xs)[argBest (fun i j => decide (numAt xs i < numAt xs j)) (xs.size - 1)]? = some v → (∀ b o, s.heap.get? b = some o → h'.get? b = some o) → Q v { s with heap := h', toks := tk }) :
    wpAny (model prog w) A (call (.builtin "min") [.ref l]) Q E s := by
  have hlt : l < s.heap.objs.size := by obtain ⟨_, e, _⟩ := hl; exact Heap.lt_size e
  refine call_min_walk (wpAny_pyIter_tuple hl ?_)
  refine ⟨_, _, _, _, _, _, _, rfl, Walks.tuple (A := A.in1) hh _ l (Nat.ne_of_lt hlt) (intItems xs), ⟨⟨_, Heap.get?_push_size _ rfl, rfl, rfl⟩, hl.push _⟩, fun b hb => ?_, by simpa [intItems] using hne, CmpOf.ints_lt (numAt xs) (fun _ _ => intItems_at), fun v h' tk hP hk => ?_⟩
  · show b < (s.heap.push _).objs.size
    rw [Heap.size_push]
    rcases List.mem_cons.mp hb with rfl | hb
    · exact Nat.lt_succ_self _
    · rcases List.mem_cons.mp hb with rfl | hb
      · exact Nat.lt_succ_of_lt hlt
      · cases hb
  · refine h v h' tk (by simpa [intItems] using hP) fun b o e => hk b o (fun hm => ?_) (Heap.get?_push_of_some _ e)
    rcases List.mem_cons.mp hm with e1 | hm
    · exact absurd (e1 ▸ Heap.lt_size e) (Nat.lt_irrefl _)
    · cases hm
theorem min_tup_raw {its : List Value} {ns : List Int} {Q : Value → Shared → Prop} (hh : A.handled = none) (hl : s.heap.IsTuple l its.toArray) (hi : IntsAre its ns) (hne : 0 < ns.length)
    (h : ∀ h' tk M t', (∀ b o, s.heap.get? b = some o → h'.get? b = some o) → M ∈ ns → (∀ a, a ∈ ns → M ≤ a) → Q (.int M t') { s with heap := h', toks := tk }) : wpAny (model prog w) A (call (.builtin "min") [.ref l]) Q E s := by
  obtain ⟨xs, e⟩ := hi.allInts.items
  have hn : numsOf (intItems xs).toList = ns := by rw [← e]; exact hi.numsOf
  rw [nums_intItems] at hn
  subst hn
  rw [e] at hl
  have hsz : 0 < xs.size := by simpa using hne
  refine min_intTup hh hl hsz fun v h' tk hv hk => ?_
  obtain ⟨t, rfl⟩ := intItems_at hv
  obtain ⟨h1, h2⟩ := argBest_lt (numAt xs) (xs.size - 1)
  refine h h' tk _ t hk ?_ fun a ha => ?_
  · rw [numAt_eq]; exact PySem.getD_mem (by rw [List.length_map, Array.length_toList]; omega)
  · obtain ⟨j, hj, rfl⟩ := mem_getD ha
    rw [List.length_map, Array.length_toList] at hj
    rw [← numAt_eq]; exact h2 j (by omega)
end
section
variable {X : Cx}
/-- min(t) of a tuple of numbers -/
def rMinT (K : PySem.W.Frag) : List V → Hp → VK → Prop := fun vs H Q => ∃ (a : Addr) (ns : List Int), vs = [V.ref a] ∧ SqT K H a (ns.map V.int) ∧ 0 < ns.length ∧ ∀ m, m ∈ ns → (∀ y, y ∈ ns → m ≤ y) → Q (.int m) H
theorem call_minT (hc : X.calm = true) : CallR X (.builtin "min") (rMinT X.K) := by
  intro pins s σ H vs us Q I r h
  obtain ⟨a, ns, rfl, hs, hne, q⟩ := h
  obtain ⟨its, rv, hl, _⟩ := I.tuple hs
  rw [Vals.ref1 r]
  exact min_tup_raw (I.ok.hd hc) hl rv.ints hne fun h' tk m t' hk h1 h2 => ⟨.int _, H, I.kept hk, ⟨_, rfl⟩, q m h1 h2⟩
end
end LW
/-! # How a chest stands in the heap -/
namespace LW
open PySem PySem.Spec PyProof.Rows L2

/-! ### frames -/
/-- all that stood outside of O stands -/
def Fr (O : List Addr) (H H' : Hp) : Prop := ∀ b o, H b = some o → b ∉ O → H' b = some o
/-- what is owned behind was owned, or is new -/
def Gr (O O' : List Addr) (H : Hp) : Prop := ∀ b, b ∈ O' → b ∈ O ∨ H b = none
theorem Fr.refl (O : List Addr) (H : Hp) : Fr O H H := fun _ _ h _ => h
theorem Fr.trans {O : List Addr} {H H1 H2 : Hp} (f : Fr O H H1) (g : Fr O H1 H2) : Fr O H H2 := fun b o h n => g b o (f b o h n) n
theorem Fr.same {O : List Addr} {H H' : Hp} (f : Same H H') : Fr O H H' := fun b o h _ => f b o h
theorem Fr.sub {O O' : List Addr} {H H' : Hp} (f : Fr O H H') (s : ∀ b, b ∈ O → b ∈ O') : Fr O' H H' := fun b o h n => f b o h fun m => n (s b m)
theorem Fr.free {O : List Addr} {H H' : Hp} (f : Fr O H H') {b : Addr} (h : H' b = none) (n : b ∉ O) : H b = none := by
  cases e : H b with
  | none => rfl
  | some o => rw [f b o e n] at h; cases h
theorem Fr.upd {O : List Addr} {H : Hp} {b : Addr} {o : HO} (h : b ∈ O) : Fr O H (upd H b o) := fun c u e n => by
  rw [upd_ne (fun z => n (by rw [z]; exact h))]; exact e
theorem Same.new {H : Hp} {b : Addr} {o : HO} (h : H b = none) : Same H (upd H b o) := fun c u e => by
  rw [upd_ne (ne_of_none e h)]; exact e

/-! ### attributes -/
def fBox (l : Addr) (h : Bool) (w : Addr) : List (Str × V) := [("slots", .ref l), ("in_hands", .bl h), ("deeds", .ref w)]
def fChest (nb np : Int) (d1 d2 : Addr) : List (Str × V) := [("next_box", .int nb), ("next_pair", .int np), ("kept_boxes", .ref d1), ("kept_pairs", .ref d2)]
section
variable {l w d1 d2 : Addr} {h : Bool} {nb np z : Int} {m : Str}
theorem fBox_slots : (fBox l h w).lookup ("slots" : Str) = some (.ref l) := by rfl
theorem fBox_hand : (fBox l h w).lookup ("in_hands" : Str) = some (.bl h) := by rfl
theorem fBox_deeds : (fBox l h w).lookup ("deeds" : Str) = some (.ref w) := by rfl
theorem fBox_putHand {b : Bool} : putF "in_hands" (.bl b) (fBox l h w) = fBox l b w := by rfl
theorem fBox_putDeeds {v : Addr} : putF "deeds" (.ref v) (fBox l h w) = fBox l h v := by rfl
theorem fBox_init : putF "deeds" (.ref w) (putF "in_hands" (.bl h) (putF "slots" (.ref l) [])) = fBox l h w := by rfl
theorem fChest_nb : (fChest nb np d1 d2).lookup ("next_box" : Str) = some (.int nb) := by rfl
theorem fChest_np : (fChest nb np d1 d2).lookup ("next_pair" : Str) = some (.int np) := by rfl
theorem fChest_kb : (fChest nb np d1 d2).lookup ("kept_boxes" : Str) = some (.ref d1) := by rfl
theorem fChest_kp : (fChest nb np d1 d2).lookup ("kept_pairs" : Str) = some (.ref d2) := by rfl
theorem fChest_putNb : putF "next_box" (.int z) (fChest nb np d1 d2) = fChest z np d1 d2 := by rfl
theorem fChest_putNp : putF "next_pair" (.int z) (fChest nb np d1 d2) = fChest nb z d1 d2 := by rfl
theorem fChest_init : putF "kept_pairs" (.ref d2) (putF "kept_boxes" (.ref d1) (putF "next_pair" (.int np) (putF "next_box" (.int nb) []))) = fChest nb np d1 d2 := by rfl
theorem fChest_no (h1 : (m == ("next_box" : Str)) = false) (h2 : (m == ("next_pair" : Str)) = false) (h3 : (m == ("kept_boxes" : Str)) = false) (h4 : (m == ("kept_pairs" : Str)) = false) : (fChest nb np d1 d2).lookup m = none := by
  unfold fChest
  simp only [List.lookup_cons, h1, h2, h3, h4, List.lookup_nil]
end

/-! ### what is said of it -/
inductive Deed where
  | up
  | down (o : Int)
  | hang (o s : Int) (h : Bool)
  deriving DecidableEq
inductive DeedV (H : Hp) : V → Deed → Prop where
  | up {t : Addr} (e : H t = some (.tup [.str "up"])) : DeedV H (.ref t) .up
  | down {t : Addr} {o : Int} (e : H t = some (.tup [.str "down", .int o])) : DeedV H (.ref t) (.down o)
  | hang {t : Addr} {o s : Int} {h : Bool} (e : H t = some (.tup [.str "hang", .int o, .int s, .bl h])) : DeedV H (.ref t) (.hang o s h)
inductive SlotV (H : Hp) : V → Option (Int × Bool) → Prop where
  | non : SlotV H .non none
  | tup {t : Addr} {o : Int} {h : Bool} (e : H t = some (.tup [.int o, .bl h])) : SlotV H (.ref t) (some (o, h))
def PairV (H : Hp) (t : Addr) (p : Int × Int × Int) : Prop := H t = some (.tup [.int p.1, .int p.2.1, .int p.2.2])
structure Bx where
  sl : List (Option (Int × Bool))
  hand : Bool
  will : List Deed
structure Ch where
  nb : Int
  np : Int
  bs : List (Int × Bx)
  ps : List (Int × (Int × Int × Int))

/-! ### where it stands -/
structure LBx where
  a : Addr
  dx : Addr
  l : Addr
  w : Addr
  vs : List V
  hand : Bool
  ds : List V
structure LCh where
  dx : Addr
  d1 : Addr
  d2 : Addr
  nb : Int
  np : Int
  B : List (Int × LBx)
  R : List (Int × Addr)
def ownB (b : LBx) : List Addr := [b.a, b.l, b.w]
def ownBs (B : List (Int × LBx)) : List Addr := B.flatMap fun e => ownB e.2
def own (p : Addr) (C : LCh) : List Addr := p :: C.d1 :: C.d2 :: ownBs C.B
def kvB (B : List (Int × LBx)) : List (Key × V) := B.map fun e => ((Sum.inl e.1 : Key), V.ref e.2.a)
def kvR (R : List (Int × Addr)) : List (Key × V) := R.map fun e => ((Sum.inl e.1 : Key), V.ref e.2)
structure BxAt (cB : Addr) (H : Hp) (b : LBx) : Prop where
  ob : H b.a = some (.ins cB b.dx (fBox b.l b.hand b.w))
  sl : H b.l = some (.lst b.vs)
  wl : H b.w = some (.lst b.ds)
  sz : b.vs.length ≤ 9 ∧ b.ds.length ≤ 9
structure CAt (cC cB : Addr) (H : Hp) (p : Addr) (C : LCh) : Prop where
  ob : H p = some (.ins cC C.dx (fChest C.nb C.np C.d1 C.d2))
  d1 : H C.d1 = some (.dK (kvB C.B))
  d2 : H C.d2 = some (.dK (kvR C.R))
  bx : ∀ e ∈ C.B, BxAt cB H e.2
  nd : (own p C).Nodup
  kB : (C.B.map (·.1)).Pairwise (· < ·)
  lB : ∀ e ∈ C.B, 0 ≤ e.1 ∧ e.1 < C.nb
  kR : (C.R.map (·.1)).Pairwise (· < ·)
  lR : ∀ e ∈ C.R, 0 ≤ e.1 ∧ e.1 < C.np
  sB : C.B.length ≤ 60
  sR : C.R.length ≤ 60
  nn : 0 ≤ C.nb ∧ 0 ≤ C.np
def BxS (H : Hp) (b : LBx) (x : Bx) : Prop := Paired (SlotV H) b.vs x.sl ∧ b.hand = x.hand ∧ Paired (DeedV H) b.ds x.will
structure CS (H : Hp) (C : LCh) (S : Ch) : Prop where
  nb : C.nb = S.nb
  np : C.np = S.np
  bs : Paired (fun e f => e.1 = f.1 ∧ BxS H e.2 f.2) C.B S.bs
  ps : Paired (fun e f => e.1 = f.1 ∧ PairV H e.2 f.2) C.R S.ps
/-- tuples stand -/
def Tups (H H' : Hp) : Prop := ∀ t xs, H t = some (.tup xs) → H' t = some (.tup xs)
theorem DeedV.keep {H H' : Hp} (f : Tups H H') {v : V} {d : Deed} : DeedV H v d → DeedV H' v d
  | .up e => .up (f _ _ e)
  | .down e => .down (f _ _ e)
  | .hang e => .hang (f _ _ e)
theorem SlotV.keep {H H' : Hp} (f : Tups H H') {v : V} {d : Option (Int × Bool)} : SlotV H v d → SlotV H' v d
  | .non => .non
  | .tup e => .tup (f _ _ e)
theorem BxS.keep {H H' : Hp} (f : Tups H H') {b : LBx} {x : Bx} (h : BxS H b x) : BxS H' b x := ⟨L2.Paired.mapP h.1 fun _ _ => SlotV.keep f, h.2.1, L2.Paired.mapP h.2.2 fun _ _ => DeedV.keep f⟩
theorem CS.keep {H H' : Hp} (f : Tups H H') {C : LCh} {S : Ch} (h : CS H C S) : CS H' C S :=
  ⟨h.nb, h.np, L2.Paired.mapP h.bs fun _ _ k => ⟨k.1, k.2.keep f⟩, L2.Paired.mapP h.ps fun _ _ k => ⟨k.1, f _ _ k.2⟩⟩

section
variable {cC cB : Addr} {H H' : Hp} {p : Addr} {C : LCh}
theorem ownBs_mem {B : List (Int × LBx)} {b : Addr} : b ∈ ownBs B ↔ ∃ e ∈ B, b = e.2.a ∨ b = e.2.l ∨ b = e.2.w := by
  unfold ownBs ownB
  simp only [List.mem_flatMap, List.mem_cons, List.not_mem_nil, or_false]
theorem own_mem {b : Addr} : b ∈ own p C ↔ b = p ∨ b = C.d1 ∨ b = C.d2 ∨ b ∈ ownBs C.B := by
  unfold own
  simp only [List.mem_cons]
/-- what is owned stands, and is no tuple -/
theorem CAt.dom (A : CAt cC cB H p C) {b : Addr} (h : b ∈ own p C) : ∃ o, H b = some o ∧ ∀ xs, o ≠ .tup xs := by
  rcases own_mem.mp h with rfl | rfl | rfl | h
  · exact ⟨_, A.ob, fun _ z => by cases z⟩
  · exact ⟨_, A.d1, fun _ z => by cases z⟩
  · exact ⟨_, A.d2, fun _ z => by cases z⟩
  · obtain ⟨e, he, rfl | rfl | rfl⟩ := ownBs_mem.mp h
    · exact ⟨_, (A.bx e he).ob, fun _ z => by cases z⟩
    · exact ⟨_, (A.bx e he).sl, fun _ z => by cases z⟩
    · exact ⟨_, (A.bx e he).wl, fun _ z => by cases z⟩
theorem CAt.tups (A : CAt cC cB H p C) (f : Fr (own p C) H H') : Tups H H' := fun t xs e => f t _ e fun m => by
  obtain ⟨o, h, n⟩ := A.dom m
  rw [e] at h
  exact n xs (Option.some.inj h).symm
theorem BxAt.keep {b : LBx} (f : ∀ c o, c ∈ ownB b → H c = some o → H' c = some o) (A : BxAt cB H b) : BxAt cB H' b :=
  ⟨f _ _ (by simp [ownB]) A.ob, f _ _ (by simp [ownB]) A.sl, f _ _ (by simp [ownB]) A.wl, A.sz⟩
/-- a chest stands while what it owns stands -/
theorem CAt.keep (f : ∀ c o, c ∈ own p C → H c = some o → H' c = some o) (A : CAt cC cB H p C) : CAt cC cB H' p C :=
  ⟨f _ _ (own_mem.mpr (.inl rfl)) A.ob, f _ _ (own_mem.mpr (.inr (.inl rfl))) A.d1, f _ _ (own_mem.mpr (.inr (.inr (.inl rfl)))) A.d2,
    fun e he => (A.bx e he).keep fun c o hc => f c o (own_mem.mpr (.inr (.inr (.inr (ownBs_mem.mpr ⟨e, he, by simpa [ownB] using hc⟩))))), A.nd, A.kB, A.lB, A.kR, A.lR, A.sB, A.sR, A.nn⟩
theorem CAt.same (A : CAt cC cB H p C) (f : Same H H') : CAt cC cB H' p C := A.keep fun c o _ => f c o
end

/-! ### look-ups -/
theorem lk_pos {α : Type} {x : α} {r : List (Int × α)} {n : Int} : ((n, x) :: r).lookup n = some x := by simp
theorem lk_neg {α : Type} {e : Int × α} {r : List (Int × α)} {n : Int} (h : ¬ n = e.1) : (e :: r).lookup n = r.lookup n := by
  obtain ⟨k, x⟩ := e
  have h : ¬ n = k := h
  have hb : (n == k) = false := by simpa using h
  rw [List.lookup_cons, hb]
theorem lk_mem {α : Type} {n : Int} {x : α} : ∀ {l : List (Int × α)}, l.lookup n = some x → (n, x) ∈ l
  | [], h => by simp at h
  | (k, y) :: r, h => by
    by_cases e : n = k
    · subst e; rw [lk_pos] at h; cases h; exact List.mem_cons_self
    · rw [lk_neg (by simpa using e)] at h; exact List.mem_cons_of_mem _ (lk_mem h)
theorem lk_none {α : Type} {n : Int} : ∀ {l : List (Int × α)}, l.lookup n = none ↔ n ∉ l.map (·.1)
  | [] => by simp
  | (k, y) :: r => by
    by_cases e : n = k
    · subst e; simp
    · rw [lk_neg (by simpa using e), lk_none]; simp [e]
theorem valV_kvB {n : Int} : ∀ (B : List (Int × LBx)), valV (kvB B) (Sum.inl n : Key) = (B.lookup n).map fun b => V.ref b.a
  | [] => rfl
  | (k, b) :: r => by
    show valV (((Sum.inl k : Key), V.ref b.a) :: kvB r) (Sum.inl n : Key) = _
    by_cases e : n = k
    · subst e; rw [valV_pos rfl, lk_pos]; rfl
    · rw [valV_neg (fun z => e (Sum.inl.inj z).symm), valV_kvB r, lk_neg (by simpa using e)]
theorem valV_kvR {n : Int} : ∀ (B : List (Int × Addr)), valV (kvR B) (Sum.inl n : Key) = (B.lookup n).map fun b => V.ref b
  | [] => rfl
  | (k, b) :: r => by
    show valV (((Sum.inl k : Key), V.ref b) :: kvR r) (Sum.inl n : Key) = _
    by_cases e : n = k
    · subst e; rw [valV_pos rfl, lk_pos]; rfl
    · rw [valV_neg (fun z => e (Sum.inl.inj z).symm), valV_kvR r, lk_neg (by simpa using e)]
theorem kvB_some {n : Int} {B : List (Int × LBx)} {b : LBx} (h : B.lookup n = some b) : valV (kvB B) (Sum.inl n : Key) = some (V.ref b.a) := by rw [valV_kvB, h]; rfl
theorem kvB_none {n : Int} {B : List (Int × LBx)} (h : B.lookup n = none) : valV (kvB B) (Sum.inl n : Key) = none := by rw [valV_kvB, h]; rfl
theorem kvR_some {n : Int} {B : List (Int × Addr)} {b : Addr} (h : B.lookup n = some b) : valV (kvR B) (Sum.inl n : Key) = some (V.ref b) := by rw [valV_kvR, h]; rfl
theorem kvR_none {n : Int} {B : List (Int × Addr)} (h : B.lookup n = none) : valV (kvR B) (Sum.inl n : Key) = none := by rw [valV_kvR, h]; rfl
theorem kvB_keys (B : List (Int × LBx)) : (kvB B).map (·.1) = (B.map (·.1)).map Sum.inl := by
  unfold kvB; simp [List.map_map]
theorem kvR_keys (B : List (Int × Addr)) : (kvR B).map (·.1) = (B.map (·.1)).map Sum.inl := by
  unfold kvR; simp [List.map_map]
theorem kvB_len (B : List (Int × LBx)) : (kvB B).length = B.length := by unfold kvB; simp
theorem kvR_len (B : List (Int × Addr)) : (kvR B).length = B.length := by unfold kvR; simp
theorem kvB_snoc (B : List (Int × LBx)) (n : Int) (b : LBx) : kvB (B ++ [(n, b)]) = kvB B ++ [((Sum.inl n : Key), V.ref b.a)] := by unfold kvB; simp
/-- a new key -/
theorem kvB_put {B : List (Int × LBx)} {n : Int} {b : LBx} (h : ∀ e ∈ B, e.1 < n) : putK (kvB B) (Sum.inl n : Key) (V.ref b.a) = kvB (B ++ [(n, b)]) := by
  have e : valV (kvB B) (Sum.inl n : Key) = none := by
    rw [valV_kvB, (lk_none (l := B) (n := n)).mpr]
    · rfl
    · intro m
      obtain ⟨x, hx, e⟩ := List.mem_map.mp m
      have := h x hx
      omega
  rw [putK_new _ e, kvB_snoc]
theorem kvR_put {B : List (Int × Addr)} {n : Int} {b : Addr} (h : ∀ e ∈ B, e.1 < n) : putK (kvR B) (Sum.inl n : Key) (V.ref b) = kvR (B ++ [(n, b)]) := by
  have e : valV (kvR B) (Sum.inl n : Key) = none := by
    rw [valV_kvR, (lk_none (l := B) (n := n)).mpr]
    · rfl
    · intro m
      obtain ⟨x, hx, e⟩ := List.mem_map.mp m
      have := h x hx
      omega
  rw [putK_new _ e]
  unfold kvR; simp
/-- sorted keys are the keys -/
theorem perm_sorted : ∀ {xs ys : List Int}, xs.Perm ys → xs.Pairwise (· ≤ ·) → ys.Pairwise (· < ·) → xs = ys
  | [], ys, p, _, _ => by simpa using p.symm.eq_nil
  | x :: xs, [], p, _, _ => by simpa using p.eq_nil
  | x :: xs, y :: ys, p, h1, h2 => by
    obtain ⟨a1, a2⟩ := List.pairwise_cons.mp h1
    obtain ⟨b1, b2⟩ := List.pairwise_cons.mp h2
    have hx : x ∈ y :: ys := p.subset List.mem_cons_self
    have hy : y ∈ x :: xs := p.symm.subset List.mem_cons_self
    have e : x = y := by
      rcases List.mem_cons.mp hx with e | hx
      · exact e
      · rcases List.mem_cons.mp hy with e | hy
        · exact e.symm
        · have := b1 x hx; have := a1 y hy; omega
    subst e
    rw [perm_sorted ((List.perm_cons x).mp p) a2 b2]
/-- one element by another at a key -/
def setB {α : Type} (l : List (Int × α)) (n : Int) (f : α → α) : List (Int × α) := l.map fun e => if e.1 = n then (e.1, f e.2) else e
theorem setB_keys {α : Type} (l : List (Int × α)) (n : Int) (f : α → α) : (setB l n f).map (·.1) = l.map (·.1) := by
  unfold setB
  rw [List.map_map]
  refine List.map_congr_left fun e _ => ?_
  show (if e.1 = n then (e.1, f e.2) else e).1 = e.1
  split <;> rfl

theorem ownBs_snoc {B : List (Int × LBx)} {n : Int} {b : LBx} : ownBs (B ++ [(n, b)]) = ownBs B ++ ownB b := by
  unfold ownBs; simp
theorem nd_app {α : Type} {xs ys : List α} (h1 : xs.Nodup) (h2 : ys.Nodup) (h : ∀ c, c ∈ ys → c ∉ xs) : (xs ++ ys).Nodup := by
  rw [List.nodup_append]
  exact ⟨h1, h2, fun x hx y hy e => h y hy (e ▸ hx)⟩
theorem pw_snoc {xs : List Int} {n : Int} (h : xs.Pairwise (· < ·)) (k : ∀ x ∈ xs, x < n) : (xs ++ [n]).Pairwise (· < ·) := by
  rw [List.pairwise_append]
  exact ⟨h, List.pairwise_singleton _ _, fun x hx y hy => by rw [List.mem_singleton.mp hy]; exact k x hx⟩
theorem CAt.fresh {cC cB : Addr} {H : Hp} {p c : Addr} {C : LCh} (A : CAt cC cB H p C) (h : H c = none) : c ∉ own p C := fun m => by
  obtain ⟨o, e, _⟩ := A.dom m
  rw [h] at e; cases e

theorem lk_of_mem {α : Type} {n : Int} {x : α} : ∀ {l : List (Int × α)}, (l.map (·.1)).Pairwise (· < ·) → (n, x) ∈ l → l.lookup n = some x
  | [], _, h => by simp at h
  | (k, y) :: r, pw, h => by
    have pw : (k :: r.map (·.1)).Pairwise (· < ·) := pw
    obtain ⟨h1, h2⟩ := List.pairwise_cons.mp pw
    rcases List.mem_cons.mp h with e | h
    · cases e; exact lk_pos
    · have := h1 n (List.mem_map.mpr ⟨_, h, rfl⟩)
      rw [lk_neg (by show ¬ n = k; omega)]
      exact lk_of_mem h2 h
theorem take_snoc {α : Type} : ∀ {l : List α} {i : Nat} {x : α}, l[i]? = some x → l.take (i + 1) = l.take i ++ [x]
  | [], i, x, h => by simp at h
  | b :: l, 0, x, h => by cases (Option.some.inj h : b = x); rfl
  | b :: l, i + 1, x, h => by
    have ih := take_snoc (l := l) (i := i) (x := x) h
    show b :: l.take (i + 1) = b :: l.take i ++ [x]
    rw [ih]; rfl

/-- isinstance's answer for a class over another one -/
theorem kit_cls {K : PySem.W.Frag} {D C : Addr} {b : Bool} (hc : PySem.W.isClsIn K C = true) (ht : PySem.W.typeIn K (.ref C) = some (.type "type")) (hs : PySem.W.subIn K (.ref D) (.ref C) = some b) (hr : PySem.W.subIn K (.ref C) (.ref C) = some true) : PySem.W.kitOne K (.ref D) (.ref C) = some b := by
  unfold PySem.W.kitOne
  by_cases e : D = C
  · rw [e, hr] at hs
    rw [if_pos (by rw [e]; exact beq_self_eq_true _), ← hs]
  · rw [if_neg (by simpa using e)]
    have hc' : (PySem.W.clsIn K C).isSome = true := hc
    show (if ((PySem.W.clsIn K C).isSome && PySem.W.typeIn K (.ref C) == some (.type "type")) = true then PySem.W.subIn K (.ref D) (.ref C) else none) = some b
    rw [if_pos (by rw [hc', ht]; rfl), hs]
theorem kit_ve {K : PySem.W.Frag} {D : Addr} (hs : PySem.W.subIn K (.ref D) (.type "ValueError") = some true) : PySem.W.kitOne K (.ref D) (.type "ValueError") = some true := by
  unfold PySem.W.kitOne
  rw [if_neg (show ¬ (Value.ref D == Value.type "ValueError") = true from fun z => nomatch (show false = true from z))]
  show (if PySem.W.kitMeta "ValueError" = true then PySem.W.subIn K (.ref D) (.type "ValueError") else none) = some true
  rw [if_pos (by decide +kernel), hs]

/-! ### one box changed -/
theorem lk_split {α : Type} {n : Int} {b : α} : ∀ {l : List (Int × α)}, (l.map (·.1)).Pairwise (· < ·) → l.lookup n = some b → ∃ l1 l2, l = l1 ++ (n, b) :: l2 ∧ (∀ e ∈ l1, e.1 ≠ n) ∧ ∀ e ∈ l2, e.1 ≠ n
  | [], _, h => by simp at h
  | (k, y) :: r, pw, h => by
    have pw : (k :: r.map (·.1)).Pairwise (· < ·) := pw
    obtain ⟨h1, h2⟩ := List.pairwise_cons.mp pw
    by_cases e : n = k
    · subst e
      rw [lk_pos] at h; cases h
      exact ⟨[], r, rfl, fun e he => (by cases he), fun e he z => by have := h1 e.1 (List.mem_map.mpr ⟨e, he, rfl⟩); omega⟩
    · rw [lk_neg (by simpa using e)] at h
      obtain ⟨l1, l2, e1, e2, e3⟩ := lk_split h2 h
      refine ⟨(k, y) :: l1, l2, by rw [e1]; rfl, fun x hx => ?_, e3⟩
      rcases List.mem_cons.mp hx with rfl | hx
      · exact fun z => e z.symm
      · exact e2 x hx
theorem setB_no {α : Type} {n : Int} {f : α → α} : ∀ {l : List (Int × α)}, (∀ e ∈ l, e.1 ≠ n) → setB l n f = l
  | [], _ => rfl
  | e :: r, h => by
    show (if e.1 = n then (e.1, f e.2) else e) :: setB r n f = e :: r
    rw [if_neg (h e List.mem_cons_self), setB_no fun x hx => h x (List.mem_cons_of_mem _ hx)]
theorem setB_app {α : Type} {n : Int} {f : α → α} {l1 l2 : List (Int × α)} {b : α} (h1 : ∀ e ∈ l1, e.1 ≠ n) (h2 : ∀ e ∈ l2, e.1 ≠ n) : setB (l1 ++ (n, b) :: l2) n f = l1 ++ (n, f b) :: l2 := by
  have e : setB (l1 ++ (n, b) :: l2) n f = setB l1 n f ++ (if n = n then (n, f b) else (n, b)) :: setB l2 n f := by
    unfold setB; simp
  rw [e, setB_no h1, setB_no h2, if_pos rfl]
theorem setB_len {α : Type} {n : Int} {f : α → α} {l : List (Int × α)} : (setB l n f).length = l.length := by unfold setB; simp
theorem setB_mem {α : Type} {n : Int} {f : α → α} {l : List (Int × α)} {e : Int × α} (h : e ∈ setB l n f) : ∃ x, (e.1, x) ∈ l ∧ ((e.1 = n ∧ e.2 = f x) ∨ (e.1 ≠ n ∧ e.2 = x)) := by
  obtain ⟨y, hy, rfl⟩ := List.mem_map.mp h
  by_cases q : y.1 = n
  · rw [if_pos q]; exact ⟨y.2, hy, .inl ⟨q, rfl⟩⟩
  · rw [if_neg q]; exact ⟨y.2, hy, .inr ⟨q, rfl⟩⟩
theorem setB_lk {α : Type} {n m : Int} {f : α → α} : ∀ {l : List (Int × α)}, (setB l n f).lookup m = (l.lookup m).map fun x => if m = n then f x else x
  | [] => rfl
  | (k, y) :: r => by
    have e : setB ((k, y) :: r) n f = (k, if k = n then f y else y) :: setB r n f := by
      show (if k = n then (k, f y) else (k, y)) :: setB r n f = _
      split <;> rfl
    rw [e]
    by_cases q : m = k
    · subst q; rw [lk_pos, lk_pos]; rfl
    · rw [lk_neg (by simpa using q), lk_neg (by simpa using q), setB_lk]
theorem kvB_set {B : List (Int × LBx)} {n : Int} {b b' : LBx} (pw : (B.map (·.1)).Pairwise (· < ·)) (h : B.lookup n = some b) (ea : b'.a = b.a) : kvB (setB B n fun _ => b') = kvB B := by
  obtain ⟨l1, l2, e, h1, h2⟩ := lk_split pw h
  rw [e, setB_app h1 h2]
  unfold kvB
  simp [ea]
theorem own_disj {p : Addr} {C : LCh} (nd : (own p C).Nodup) : ∀ e ∈ C.B, ∀ c ∈ ownB e.2, c ≠ p ∧ c ≠ C.d1 ∧ c ≠ C.d2 := by
  intro e he c hc
  unfold own at nd
  simp only [List.nodup_cons, List.mem_cons, not_or] at nd
  have m : c ∈ ownBs C.B := ownBs_mem.mpr ⟨e, he, by simpa [ownB] using hc⟩
  exact ⟨fun z => nd.1.2.2 (z ▸ m), fun z => nd.2.1.2 (z ▸ m), fun z => nd.2.2.1 (z ▸ m)⟩
/-- the box n stands otherwise behind, all else as it stood -/
theorem CAt.upd {cC cB : Addr} {H H' : Hp} {p : Addr} {C : LCh} {n : Int} {b b' : LBx} (hC : CAt cC cB H p C) (hb : C.B.lookup n = some b) (ea : b'.a = b.a) (el : b'.l = b.l)
    (ew : b'.w = b.w ∨ H b'.w = none) (hx : BxAt cB H' b') (fr : ∀ c o, H c = some o → c ∉ ownB b → H' c = some o) : CAt cC cB H' p { C with B := setB C.B n fun _ => b' } := by
  obtain ⟨l1, l2, eB, h1, h2⟩ := lk_split hC.kB hb
  have hm := lk_mem hb
  have dj := own_disj hC.nd _ hm
  have nin : ∀ c, c ∈ ownB b → c ≠ p ∧ c ≠ C.d1 ∧ c ≠ C.d2 := dj
  have nd := hC.nd
  have eo : own p C = (p :: C.d1 :: C.d2 :: ownBs l1) ++ ([b.a, b.l] ++ b.w :: ownBs l2) := by
    unfold own; rw [eB]; unfold ownBs; simp [ownB]
  have eo' : own p { C with B := setB C.B n fun _ => b' } = (p :: C.d1 :: C.d2 :: ownBs l1) ++ ([b.a, b.l] ++ b'.w :: ownBs l2) := by
    unfold own; show p :: C.d1 :: C.d2 :: ownBs (setB C.B n fun _ => b') = _
    rw [eB, setB_app h1 h2]; unfold ownBs; simp [ownB, ea, el]
  have nd' : (own p { C with B := setB C.B n fun _ => b' }).Nodup := by
    rw [eo']
    rcases ew with ew | ew
    · rw [ew, ← eo]; exact nd
    · have f := hC.fresh ew
      rw [eo] at nd f
      obtain ⟨n1, n23, n6⟩ := List.nodup_append.mp nd
      obtain ⟨n2, n34, n5⟩ := List.nodup_append.mp n23
      obtain ⟨n3, n4⟩ := List.nodup_cons.mp n34
      simp only [List.mem_append, List.mem_cons, List.not_mem_nil, or_false, not_or] at f
      refine List.nodup_append.mpr ⟨n1, List.nodup_append.mpr ⟨n2, List.nodup_cons.mpr ⟨f.2.2.2, n4⟩, ?_⟩, ?_⟩
      · intro x hx y hy
        rcases List.mem_cons.mp hy with rfl | hy
        · simp only [List.mem_cons, List.not_mem_nil, or_false] at hx
          rcases hx with rfl | rfl
          · exact fun z => f.2.1.1 z.symm
          · exact fun z => f.2.1.2 z.symm
        · exact n5 x hx y (List.mem_cons_of_mem _ hy)
      · intro x hx y hy
        rcases List.mem_append.mp hy with hy | hy
        · exact n6 x hx y (List.mem_append_left _ hy)
        · rcases List.mem_cons.mp hy with rfl | hy
          · intro z
            simp only [List.mem_cons] at hx
            rcases hx with rfl | rfl | rfl | hx
            · exact f.1.1 z.symm
            · exact f.1.2.1 z.symm
            · exact f.1.2.2.1 z.symm
            · exact f.1.2.2.2 (z ▸ hx)
          · exact n6 x hx y (List.mem_append_right _ (List.mem_cons_of_mem _ hy))
  have dis : ∀ e ∈ C.B, e.1 ≠ n → ∀ c ∈ ownB e.2, c ∉ ownB b := by
    intro e he en c hc hcb
    have nd2 := nd
    rw [eo] at nd2
    rw [eB] at he
    obtain ⟨n1, n23, n6⟩ := List.nodup_append.mp nd2
    obtain ⟨n2, n34, n5⟩ := List.nodup_append.mp n23
    obtain ⟨n3, n4⟩ := List.nodup_cons.mp n34
    simp only [ownB, List.mem_cons, List.not_mem_nil, or_false] at hcb
    rcases List.mem_append.mp he with he | he
    · have m : c ∈ ownBs l1 := ownBs_mem.mpr ⟨e, he, by simpa [ownB] using hc⟩
      refine n6 c (by simp [m]) c ?_ rfl
      simp only [List.mem_append, List.mem_cons, List.not_mem_nil, or_false]
      rcases hcb with h | h | h
      · exact .inl (.inl h)
      · exact .inl (.inr h)
      · exact .inr (.inl h)
    · rcases List.mem_cons.mp he with he | he
      · exact en (congrArg Prod.fst he)
      · have m : c ∈ ownBs l2 := ownBs_mem.mpr ⟨e, he, by simpa [ownB] using hc⟩
        rcases hcb with h | h | h
        · exact n5 c (by simp [h]) c (by simp [m]) rfl
        · exact n5 c (by simp [h]) c (by simp [m]) rfl
        · exact n3 (h ▸ m)
  refine ⟨fr _ _ hC.ob fun m => (nin _ m).1 rfl, ?_, fr _ _ hC.d2 fun m => (nin _ m).2.2 rfl, ?_, nd', by rw [show ({ C with B := setB C.B n fun _ => b' } : LCh).B = setB C.B n fun _ => b' from rfl, setB_keys]; exact hC.kB, ?_, hC.kR, hC.lR, by rw [show ({ C with B := setB C.B n fun _ => b' } : LCh).B = setB C.B n fun _ => b' from rfl, setB_len]; exact hC.sB, hC.sR, hC.nn⟩
  · show H' C.d1 = some (.dK (kvB (setB C.B n fun _ => b')))
    rw [kvB_set hC.kB hb ea]
    exact fr _ _ hC.d1 fun m => (nin _ m).2.1 rfl
  · intro e he
    have he : e ∈ setB C.B n fun _ => b' := he
    obtain ⟨x, hx2, ⟨q1, q2⟩ | ⟨q1, q2⟩⟩ := setB_mem he
    · rw [q2]; exact hx
    · rw [q2]
      exact (hC.bx _ hx2).keep fun c o hc e => fr c o e (dis _ hx2 q1 c hc)
  · intro e he
    have he : e ∈ setB C.B n fun _ => b' := he
    obtain ⟨x, hx2, _⟩ := setB_mem he
    exact hC.lB (e.1, x) hx2

theorem Gr.same {O O' : List Addr} {H : Hp} (e : O' = O) : Gr O O' H := fun b hb => .inl (e ▸ hb)
theorem own_setB {cC cB : Addr} {H : Hp} {p : Addr} {C : LCh} {n : Int} {b b' : LBx} (hC : CAt cC cB H p C) (e : C.B.lookup n = some b) (ea : b'.a = b.a) (el : b'.l = b.l) (ew : b'.w = b.w) : own p { C with B := setB C.B n fun _ => b' } = own p C := by
  obtain ⟨l1, l2, eB, h1, h2⟩ := lk_split hC.kB e
  show p :: C.d1 :: C.d2 :: ownBs (setB C.B n fun _ => b') = p :: C.d1 :: C.d2 :: ownBs C.B
  rw [eB, setB_app h1 h2]
  unfold ownBs
  simp [ownB, ea, el, ew]
theorem own_setW {cC cB : Addr} {H : Hp} {p w : Addr} {C : LCh} {n : Int} {b : LBx} {ds : List V} (hC : CAt cC cB H p C) (e : C.B.lookup n = some b) {c : Addr} (h : c ∈ own p { C with B := setB C.B n fun _ => { b with w := w, ds := ds } }) : c ∈ own p C ∨ c = w := by
  rcases own_mem.mp h with h | h | h | h
  · exact .inl (own_mem.mpr (.inl h))
  · exact .inl (own_mem.mpr (.inr (.inl h)))
  · exact .inl (own_mem.mpr (.inr (.inr (.inl h))))
  · obtain ⟨x, hx, hc⟩ := ownBs_mem.mp h
    have hx : x ∈ setB C.B n fun _ => { b with w := w, ds := ds } := hx
    obtain ⟨y, hy, ⟨q1, q2⟩ | ⟨q1, q2⟩⟩ := setB_mem hx
    · rw [q2] at hc
      rcases hc with hc | hc | hc
      · exact .inl (own_mem.mpr (.inr (.inr (.inr (ownBs_mem.mpr ⟨_, lk_mem e, .inl hc⟩)))))
      · exact .inl (own_mem.mpr (.inr (.inr (.inr (ownBs_mem.mpr ⟨_, lk_mem e, .inr (.inl hc)⟩)))))
      · exact .inr hc
    · rw [q2] at hc
      exact .inl (own_mem.mpr (.inr (.inr (.inr (ownBs_mem.mpr ⟨_, hy, hc⟩)))))
end LW
/-! # What a deed does, said of a chest as such -/
namespace LW
open PySem PySem.Spec PyProof.Rows L2

def Deed.isNeg : Deed → Bool
  | .up => false
  | .down o => decide (o < 0)
  | .hang o s _ => decide (o < 0) || decide (s < 0)
inductive LD where
  | make (n : Int)
  | put (b s o : Int) (h : Bool)
  | empty (b s : Int)
  | take (b : Int)
  | drop (b : Int)
  | pair (h k o : Int)
  | unpair (n : Int)
  | will (b : Int) (ds : List Deed)
def Ch.get (S : Ch) (n : Int) : Option Bx := S.bs.lookup n
def Ch.box (S : Ch) (n : Int) (x : Bx) : Ch := { S with bs := setB S.bs n fun _ => x }
def Ch.made (S : Ch) (n : Int) : Ch := { S with nb := S.nb + 1, bs := S.bs ++ [(S.nb, ⟨List.replicate n.toNat none, true, []⟩)] }
def Ch.tied (S : Ch) (h k o : Int) : Ch := { S with np := S.np + 1, ps := S.ps ++ [(S.np, (h, k, o))] }
def Ch.loose (S : Ch) (n : Int) : Ch := { S with ps := S.ps.filter fun e => decide (e.1 ≠ n) }
/-- the word of a refusal, the number that is given, the chest behind -/
def Ch.step (S : Ch) : LD → Str × Option Int × Ch
  | .make n => if n < 0 ∨ 9 < n then ("slot", none, S) else if S.bs.length = 60 then ("many", none, S) else ("", some S.nb, S.made n)
  | .put b s o h => match S.get b with
    | none => ("box", none, S)
    | some x => if s < 0 ∨ (x.sl.length : Int) ≤ s then ("slot", none, S) else match S.get o with
      | none => ("box", none, S)
      | some _ => ("", none, S.box b { x with sl := x.sl.set s.toNat (some (o, h)) })
  | .empty b s => match S.get b with
    | none => ("box", none, S)
    | some x => if s < 0 ∨ (x.sl.length : Int) ≤ s then ("slot", none, S) else ("", none, S.box b { x with sl := x.sl.set s.toNat none })
  | .take b => match S.get b with
    | none => ("box", none, S)
    | some x => ("", none, S.box b { x with hand := true })
  | .drop b => match S.get b with
    | none => ("box", none, S)
    | some x => if x.hand = false then ("hand", none, S) else ("", none, S.box b { x with hand := false })
  | .pair h k o => if S.get h = none ∨ S.get k = none ∨ S.get o = none then ("box", none, S) else if S.ps.length = 60 then ("many", none, S) else ("", some S.np, S.tied h k o)
  | .unpair n => match S.ps.lookup n with
    | none => ("pair", none, S)
    | some _ => ("", none, S.loose n)
  | .will b ds => match S.get b with
    | none => ("box", none, S)
    | some x => if 9 < ds.length ∨ ds.any Deed.isNeg = true then ("will", none, S) else ("", none, S.box b { x with will := ds })

section
variable {S : Ch} {n b s o h k : Int} {g : Bool} {ds : List Deed}
theorem st_make : S.step (.make n) = if n < 0 ∨ 9 < n then (("slot" : Str), none, S) else if S.bs.length = 60 then (("many" : Str), none, S) else (("" : Str), some S.nb, S.made n) := rfl
theorem st_put0 (e : S.get b = none) : S.step (.put b s o g) = (("box" : Str), none, S) := by simp only [Ch.step, e]
theorem st_put1 {x : Bx} (e : S.get b = some x) (c : s < 0 ∨ (x.sl.length : Int) ≤ s) : S.step (.put b s o g) = (("slot" : Str), none, S) := by simp only [Ch.step, e]; exact if_pos c
theorem st_put2 {x : Bx} (e : S.get b = some x) (c : ¬ (s < 0 ∨ (x.sl.length : Int) ≤ s)) (eo : S.get o = none) : S.step (.put b s o g) = (("box" : Str), none, S) := by
  simp only [Ch.step, e]; rw [if_neg c]; simp only [eo]
theorem st_put3 {x y : Bx} (e : S.get b = some x) (c : ¬ (s < 0 ∨ (x.sl.length : Int) ≤ s)) (eo : S.get o = some y) : S.step (.put b s o g) = (("" : Str), none, S.box b { x with sl := x.sl.set s.toNat (some (o, g)) }) := by
  simp only [Ch.step, e]; rw [if_neg c]; simp only [eo]
theorem st_empty0 (e : S.get b = none) : S.step (.empty b s) = (("box" : Str), none, S) := by simp only [Ch.step, e]
theorem st_empty1 {x : Bx} (e : S.get b = some x) (c : s < 0 ∨ (x.sl.length : Int) ≤ s) : S.step (.empty b s) = (("slot" : Str), none, S) := by simp only [Ch.step, e]; exact if_pos c
theorem st_empty2 {x : Bx} (e : S.get b = some x) (c : ¬ (s < 0 ∨ (x.sl.length : Int) ≤ s)) : S.step (.empty b s) = (("" : Str), none, S.box b { x with sl := x.sl.set s.toNat none }) := by
  simp only [Ch.step, e]; exact if_neg c
theorem st_take0 (e : S.get b = none) : S.step (.take b) = (("box" : Str), none, S) := by simp only [Ch.step, e]
theorem st_take1 {x : Bx} (e : S.get b = some x) : S.step (.take b) = (("" : Str), none, S.box b { x with hand := true }) := by simp only [Ch.step, e]
theorem st_drop0 (e : S.get b = none) : S.step (.drop b) = (("box" : Str), none, S) := by simp only [Ch.step, e]
theorem st_drop1 {x : Bx} (e : S.get b = some x) (c : x.hand = false) : S.step (.drop b) = (("hand" : Str), none, S) := by simp only [Ch.step, e]; exact if_pos c
theorem st_drop2 {x : Bx} (e : S.get b = some x) (c : ¬ x.hand = false) : S.step (.drop b) = (("" : Str), none, S.box b { x with hand := false }) := by simp only [Ch.step, e]; exact if_neg c
theorem st_pair : S.step (.pair h k o) = if S.get h = none ∨ S.get k = none ∨ S.get o = none then (("box" : Str), none, S) else if S.ps.length = 60 then (("many" : Str), none, S) else (("" : Str), some S.np, S.tied h k o) := rfl
theorem st_unpair0 (e : S.ps.lookup n = none) : S.step (.unpair n) = (("pair" : Str), none, S) := by simp only [Ch.step, e]
theorem st_unpair1 {x : Int × Int × Int} (e : S.ps.lookup n = some x) : S.step (.unpair n) = (("" : Str), none, S.loose n) := by simp only [Ch.step, e]
theorem st_will0 (e : S.get b = none) : S.step (.will b ds) = (("box" : Str), none, S) := by simp only [Ch.step, e]
theorem st_will1 {x : Bx} (e : S.get b = some x) (c : 9 < ds.length ∨ ds.any Deed.isNeg = true) : S.step (.will b ds) = (("will" : Str), none, S) := by simp only [Ch.step, e]; exact if_pos c
theorem st_will2 {x : Bx} (e : S.get b = some x) (c : ¬ (9 < ds.length ∨ ds.any Deed.isNeg = true)) : S.step (.will b ds) = (("" : Str), none, S.box b { x with will := ds }) := by simp only [Ch.step, e]; exact if_neg c
end
section
variable {H H' : Hp} {C : LCh} {S : Ch} {n : Int}
theorem paired_lk {α β : Type} {G : α → β → Prop} : ∀ {l : List (Int × α)} {m : List (Int × β)}, Paired (fun e f => e.1 = f.1 ∧ G e.2 f.2) l m →
    (l.lookup n = none ↔ m.lookup n = none) ∧ (∀ x, l.lookup n = some x → ∃ y, m.lookup n = some y ∧ G x y)
  | _, _, .nil => ⟨by simp, fun x h => by simp at h⟩
  | (k, x) :: l, (k', y) :: m, .cons h r => by
    obtain ⟨e, g⟩ := h
    have e : k = k' := e
    subst e
    by_cases q : n = k
    · subst q
      rw [lk_pos, lk_pos]
      exact ⟨by simp, fun z hz => ⟨y, rfl, by cases hz; exact g⟩⟩
    · rw [lk_neg (by simpa using q), lk_neg (by simpa using q)]
      exact paired_lk r
theorem CS.nn (h : CS H C S) : C.B.lookup n = none ↔ S.get n = none := (paired_lk h.bs).1
theorem CS.ss (h : CS H C S) {b : LBx} (e : C.B.lookup n = some b) : ∃ x, S.get n = some x ∧ BxS H b x := (paired_lk h.bs).2 b e
theorem CS.pnone (h : CS H C S) : C.R.lookup n = none ↔ S.ps.lookup n = none := (paired_lk h.ps).1
theorem CS.blen (h : CS H C S) : C.B.length = S.bs.length := h.bs.length
theorem CS.plen (h : CS H C S) : C.R.length = S.ps.length := h.ps.length
theorem paired_set {α β : Type} {G G' : α → β → Prop} {x : α} {y : β} (hg : ∀ a b, G a b → G' a b) (hx : G' x y) : ∀ {l : List (Int × α)} {m : List (Int × β)}, Paired (fun e f => e.1 = f.1 ∧ G e.2 f.2) l m →
    Paired (fun e f => e.1 = f.1 ∧ G' e.2 f.2) (setB l n fun _ => x) (setB m n fun _ => y)
  | _, _, .nil => .nil
  | (k, u) :: l, (k', v) :: m, .cons h r => by
    obtain ⟨e, g⟩ := h
    have e : k = k' := e
    subst e
    show Paired _ ((if k = n then (k, x) else (k, u)) :: setB l n fun _ => x) ((if k = n then (k, y) else (k, v)) :: setB m n fun _ => y)
    by_cases q : k = n
    · rw [if_pos q, if_pos q]; exact .cons ⟨rfl, hx⟩ (paired_set hg hx r)
    · rw [if_neg q, if_neg q]; exact .cons ⟨rfl, hg _ _ g⟩ (paired_set hg hx r)
theorem paired_filter {α β : Type} {G : α → β → Prop} : ∀ {l : List (Int × α)} {m : List (Int × β)}, Paired (fun e f => e.1 = f.1 ∧ G e.2 f.2) l m →
    Paired (fun e f => e.1 = f.1 ∧ G e.2 f.2) (l.filter fun e => decide (e.1 ≠ n)) (m.filter fun e => decide (e.1 ≠ n))
  | _, _, .nil => .nil
  | (k, u) :: l, (k', v) :: m, .cons h r => by
    obtain ⟨e, g⟩ := h
    have e : k = k' := e
    subst e
    by_cases q : k = n
    · rw [List.filter_cons, List.filter_cons, if_neg (by simp [q]), if_neg (by simp [q])]; exact paired_filter r
    · rw [List.filter_cons, List.filter_cons, if_pos (by simp [q]), if_pos (by simp [q])]; exact .cons ⟨rfl, g⟩ (paired_filter r)
theorem CS.bset (f : Tups H H') (h : CS H C S) {b : LBx} {x : Bx} (hb : BxS H' b x) : CS H' { C with B := setB C.B n fun _ => b } (S.box n x) :=
  ⟨h.nb, h.np, paired_set (fun _ _ g => g.keep f) hb h.bs, L2.Paired.mapP h.ps fun _ _ k => ⟨k.1, f _ _ k.2⟩⟩
theorem slots_nil (k : Nat) : Paired (SlotV H) (List.replicate k V.non) (List.replicate k Option.none) := by
  induction k with
  | zero => exact .nil
  | succ k ih => exact .cons .non ih
theorem CS.made (f : Tups H H') (h : CS H C S) {b : LBx} (hv : b.vs = List.replicate n.toNat .non) (hh : b.hand = true) (hd : b.ds = []) : CS H' { C with nb := C.nb + 1, B := C.B ++ [(C.nb, b)] } (S.made n) := by
  have h2 := h.keep f
  refine ⟨?_, h.np, ?_, h2.ps⟩
  · show C.nb + 1 = S.nb + 1; rw [h.nb]
  · refine Paired.snoc h2.bs ⟨h.nb, ?_, hh, ?_⟩
    · rw [hv]; exact slots_nil _
    · rw [hd]; exact .nil
theorem CS.tied (f : Tups H H') (h : CS H C S) {t : Addr} {p k o : Int} (ht : H' t = some (.tup [.int p, .int k, .int o])) : CS H' { C with np := C.np + 1, R := C.R ++ [(C.np, t)] } (S.tied p k o) := by
  have h2 := h.keep f
  refine ⟨h.nb, ?_, h2.bs, ?_⟩
  · show C.np + 1 = S.np + 1; rw [h.np]
  · exact Paired.snoc h2.ps ⟨h.np, ht⟩
theorem CS.loose (f : Tups H H') (h : CS H C S) : CS H' { C with R := C.R.filter fun e => decide (e.1 ≠ n) } (S.loose n) := by
  have h2 := h.keep f
  exact ⟨h.nb, h.np, h2.bs, paired_filter h2.ps⟩
theorem slots_set {vs : List V} {sl : List (Option (Int × Bool))} {v : V} {s : Option (Int × Bool)} (h : Paired (SlotV H) vs sl) (hv : SlotV H v s) : ∀ (i : Nat), Paired (SlotV H) (vs.set i v) (sl.set i s) := by
  induction h with
  | nil => intro i; exact .nil
  | cons f r ih =>
    intro i
    cases i with
    | zero => exact .cons hv r
    | succ i => exact .cons f (ih i)
end

/-! ### a chest, as such -/
def ChestAt (cC cB : Addr) (H : Hp) (p : Addr) (S : Ch) (O : List Addr) : Prop := ∃ C, CAt cC cB H p C ∧ CS H C S ∧ O = own p C
theorem ChestAt.dom {cC cB : Addr} {H : Hp} {p : Addr} {S : Ch} {O : List Addr} (h : ChestAt cC cB H p S O) {b : Addr} (m : b ∈ O) : ∃ o, H b = some o ∧ ∀ xs, o ≠ .tup xs := by
  obtain ⟨C, hC, hS, rfl⟩ := h
  exact hC.dom m
theorem ChestAt.keep {cC cB : Addr} {H H' : Hp} {p : Addr} {S : Ch} {O O2 : List Addr} (h : ChestAt cC cB H p S O) (f : Fr O2 H H') (t : Tups H H') (d : ∀ b, b ∈ O → b ∉ O2) : ChestAt cC cB H' p S O := by
  obtain ⟨C, hC, hS, rfl⟩ := h
  exact ⟨C, hC.keep fun c o hc e => f c o e (d c hc), hS.keep t, rfl⟩
theorem ChestAt.same {cC cB : Addr} {H H' : Hp} {p : Addr} {S : Ch} {O : List Addr} (h : ChestAt cC cB H p S O) (f : Same H H') : ChestAt cC cB H' p S O :=
  h.keep (O2 := []) (fun b o e _ => f b o e) (fun t xs e => f t _ e) (fun b _ m => nomatch m)
/-- a deed as the law tells it -/
def LDAt (H : Hp) (t : Addr) : LD → Prop
  | .make n => H t = some (.tup [.str "make", .int n])
  | .put b s o h => H t = some (.tup [.str "put", .int b, .int s, .int o, .bl h])
  | .empty b s => H t = some (.tup [.str "empty", .int b, .int s])
  | .take b => H t = some (.tup [.str "take", .int b])
  | .drop b => H t = some (.tup [.str "drop", .int b])
  | .pair h k o => H t = some (.tup [.str "pair", .int h, .int k, .int o])
  | .unpair n => H t = some (.tup [.str "unpair", .int n])
  | .will b ds => ∃ l us, H t = some (.tup [.str "bequeath", .int b, .ref l]) ∧ H l = some (.lst us) ∧ us.length ≤ 1000 ∧ Paired (DeedV H) us ds
theorem LDAt.same {H H' : Hp} {t : Addr} (f : Same H H') {d : LD} (h : LDAt H t d) : LDAt H' t d := by
  cases d with
  | will b ds =>
    obtain ⟨l, us, e1, e2, e3, e4⟩ := h
    exact ⟨l, us, f _ _ e1, f _ _ e2, e3, L2.Paired.mapP e4 fun _ _ g => g.keep fun t xs e => f _ _ e⟩
  | make => exact f _ _ h
  | put => exact f _ _ h
  | empty => exact f _ _ h
  | take => exact f _ _ h
  | drop => exact f _ _ h
  | pair => exact f _ _ h
  | unpair => exact f _ _ h
def retV (r : Option Int) : V := match r with | none => .non | some i => .int i
end LW
/-! # How the law's own reckoning stands in the heap: a list of four dicts and a list of two numbers -/
namespace LW
open PySem PySem.Spec PyProof.Rows L2

theorem nodup_len : ∀ {xs ys : List Int}, xs.Nodup → (∀ x ∈ xs, x ∈ ys) → xs.length ≤ ys.length
  | [], ys, _, _ => Nat.zero_le _
  | x :: xs, ys, nd, h => by
    obtain ⟨h1, h2⟩ := List.nodup_cons.mp nd
    have hx := h x List.mem_cons_self
    have := nodup_len (ys := ys.erase x) h2 fun y hy => by
      have hne : y ≠ x := fun e => h1 (e ▸ hy)
      exact (List.mem_erase_of_ne hne).mpr (h y (List.mem_cons_of_mem _ hy))
    rw [List.length_erase_of_mem hx] at this
    have : 0 < ys.length := List.length_pos_of_mem hx
    show xs.length + 1 ≤ ys.length
    omega
/-- a number's place: an address and what stands there -/
abbrev AL := List (Int × Addr × List V)
def kvA (A : AL) : List (Key × V) := A.map fun e => ((Sum.inl e.1 : Key), V.ref e.2.1)
def kvH (h : List Int) : List (Key × V) := h.map fun n => ((Sum.inl n : Key), V.bl true)
structure LWd where
  d0 : Addr
  d1 : Addr
  d2 : Addr
  d3 : Addr
  l4 : Addr
  nb : Int
  np : Int
  A : AL
  h : List Int
  R : List (Int × Addr)
  W : AL
def ownW (q : Addr) (L : LWd) : List Addr := [q, L.d0, L.d1, L.d2, L.d3, L.l4] ++ (L.A.map (·.2.1) ++ L.W.map (·.2.1))
structure WdAt (H : Hp) (q : Addr) (L : LWd) : Prop where
  ob : H q = some (.lst [.ref L.d0, .ref L.d1, .ref L.d2, .ref L.d3, .ref L.l4])
  e0 : H L.d0 = some (.dK (kvA L.A))
  e1 : H L.d1 = some (.dK (kvH L.h))
  e2 : H L.d2 = some (.dK (kvR L.R))
  e3 : H L.d3 = some (.dK (kvA L.W))
  e4 : H L.l4 = some (.lst [.int L.nb, .int L.np])
  sA : ∀ e ∈ L.A, H e.2.1 = some (.lst e.2.2)
  sW : ∀ e ∈ L.W, H e.2.1 = some (.lst e.2.2)
  nd : (ownW q L).Nodup
  kA : (L.A.map (·.1)).Pairwise (· < ·)
  kh : L.h.Nodup
  kR : (L.R.map (·.1)).Pairwise (· < ·)
  kW : (L.W.map (·.1)).Nodup
  lA : ∀ e ∈ L.A, 0 ≤ e.1 ∧ e.1 < L.nb
  lR : ∀ e ∈ L.R, 0 ≤ e.1 ∧ e.1 < L.np
  hA : ∀ n ∈ L.h, n ∈ L.A.map (·.1)
  WA : ∀ e ∈ L.W, e.1 ∈ L.A.map (·.1)
  zA : L.A.length ≤ 60 ∧ ∀ e ∈ L.A, e.2.2.length ≤ 9
  zR : L.R.length ≤ 60
  zW : ∀ e ∈ L.W, e.2.2.length ≤ 9
  nn : 0 ≤ L.nb ∧ 0 ≤ L.np
structure WSem (H : Hp) (L : LWd) (S : Ch) : Prop where
  nb : L.nb = S.nb
  np : L.np = S.np
  bs : Paired (fun e f => e.1 = f.1 ∧ Paired (SlotV H) e.2.2 f.2.sl) L.A S.bs
  ps : Paired (fun e f => e.1 = f.1 ∧ PairV H e.2 f.2) L.R S.ps
  hs : ∀ n, n ∈ L.h ↔ ∃ x, S.get n = some x ∧ x.hand = true
  w0 : ∀ n x, L.W.lookup n = none → S.get n = some x → x.will = []
  w1 : ∀ n l, L.W.lookup n = some l → ∃ x, S.get n = some x ∧ x.will ≠ [] ∧ Paired (DeedV H) l.2 x.will
def WorldAt (H : Hp) (q : Addr) (S : Ch) (O : List Addr) : Prop := ∃ L, WdAt H q L ∧ WSem H L S ∧ O = ownW q L

section
variable {H H' : Hp} {q : Addr} {L : LWd} {S : Ch} {n : Int}
theorem ownW_mem {b : Addr} : b ∈ ownW q L ↔ b = q ∨ b = L.d0 ∨ b = L.d1 ∨ b = L.d2 ∨ b = L.d3 ∨ b = L.l4 ∨ (∃ e ∈ L.A, b = e.2.1) ∨ ∃ e ∈ L.W, b = e.2.1 := by
  unfold ownW
  simp only [List.mem_append, List.mem_cons, List.not_mem_nil, or_false, List.mem_map]
  constructor
  · rintro ((h | h | h | h | h | h) | ⟨e, he, rfl⟩ | ⟨e, he, rfl⟩)
    · exact .inl h
    · exact .inr (.inl h)
    · exact .inr (.inr (.inl h))
    · exact .inr (.inr (.inr (.inl h)))
    · exact .inr (.inr (.inr (.inr (.inl h))))
    · exact .inr (.inr (.inr (.inr (.inr (.inl h)))))
    · exact .inr (.inr (.inr (.inr (.inr (.inr (.inl ⟨e, he, rfl⟩))))))
    · exact .inr (.inr (.inr (.inr (.inr (.inr (.inr ⟨e, he, rfl⟩))))))
  · rintro (h | h | h | h | h | h | ⟨e, he, rfl⟩ | ⟨e, he, rfl⟩)
    · exact .inl (.inl h)
    · exact .inl (.inr (.inl h))
    · exact .inl (.inr (.inr (.inl h)))
    · exact .inl (.inr (.inr (.inr (.inl h))))
    · exact .inl (.inr (.inr (.inr (.inr (.inl h)))))
    · exact .inl (.inr (.inr (.inr (.inr (.inr h)))))
    · exact .inr (.inl ⟨e, he, rfl⟩)
    · exact .inr (.inr ⟨e, he, rfl⟩)
theorem WdAt.dom (A : WdAt H q L) {b : Addr} (h : b ∈ ownW q L) : ∃ o, H b = some o ∧ ∀ xs, o ≠ .tup xs := by
  rcases ownW_mem.mp h with rfl | rfl | rfl | rfl | rfl | rfl | ⟨e, he, rfl⟩ | ⟨e, he, rfl⟩
  · exact ⟨_, A.ob, fun _ z => nomatch z⟩
  · exact ⟨_, A.e0, fun _ z => nomatch z⟩
  · exact ⟨_, A.e1, fun _ z => nomatch z⟩
  · exact ⟨_, A.e2, fun _ z => nomatch z⟩
  · exact ⟨_, A.e3, fun _ z => nomatch z⟩
  · exact ⟨_, A.e4, fun _ z => nomatch z⟩
  · exact ⟨_, A.sA e he, fun _ z => nomatch z⟩
  · exact ⟨_, A.sW e he, fun _ z => nomatch z⟩
theorem WdAt.fresh (A : WdAt H q L) {c : Addr} (h : H c = none) : c ∉ ownW q L := fun m => by
  obtain ⟨o, e, _⟩ := A.dom m
  rw [h] at e; cases e
theorem WdAt.tups (A : WdAt H q L) (f : Fr (ownW q L) H H') : Tups H H' := fun t xs e => f t _ e fun m => by
  obtain ⟨o, h, n⟩ := A.dom m
  rw [e] at h
  exact n xs (Option.some.inj h).symm
theorem WdAt.keep (f : ∀ c o, c ∈ ownW q L → H c = some o → H' c = some o) (A : WdAt H q L) : WdAt H' q L :=
  ⟨f _ _ (ownW_mem.mpr (.inl rfl)) A.ob, f _ _ (ownW_mem.mpr (.inr (.inl rfl))) A.e0, f _ _ (ownW_mem.mpr (.inr (.inr (.inl rfl)))) A.e1, f _ _ (ownW_mem.mpr (.inr (.inr (.inr (.inl rfl))))) A.e2,
    f _ _ (ownW_mem.mpr (.inr (.inr (.inr (.inr (.inl rfl)))))) A.e3, f _ _ (ownW_mem.mpr (.inr (.inr (.inr (.inr (.inr (.inl rfl))))))) A.e4,
    fun e he => f _ _ (ownW_mem.mpr (.inr (.inr (.inr (.inr (.inr (.inr (.inl ⟨e, he, rfl⟩)))))))) (A.sA e he), fun e he => f _ _ (ownW_mem.mpr (.inr (.inr (.inr (.inr (.inr (.inr (.inr ⟨e, he, rfl⟩)))))))) (A.sW e he),
    A.nd, A.kA, A.kh, A.kR, A.kW, A.lA, A.lR, A.hA, A.WA, A.zA, A.zR, A.zW, A.nn⟩
theorem WdAt.same (A : WdAt H q L) (f : Same H H') : WdAt H' q L := A.keep fun c o _ => f c o
theorem WSem.keep (f : Tups H H') (h : WSem H L S) : WSem H' L S :=
  ⟨h.nb, h.np, L2.Paired.mapP h.bs fun _ _ k => ⟨k.1, L2.Paired.mapP k.2 fun _ _ => SlotV.keep f⟩, L2.Paired.mapP h.ps fun _ _ k => ⟨k.1, f _ _ k.2⟩, h.hs, h.w0, fun n l e => by
    obtain ⟨x, e1, e2, e3⟩ := h.w1 n l e
    exact ⟨x, e1, e2, L2.Paired.mapP e3 fun _ _ => DeedV.keep f⟩⟩
theorem WorldAt.keep {O O2 : List Addr} (h : WorldAt H q S O) (f : Fr O2 H H') (t : Tups H H') (d : ∀ b, b ∈ O → b ∉ O2) : WorldAt H' q S O := by
  obtain ⟨L, hL, hS, rfl⟩ := h
  exact ⟨L, hL.keep fun c o hc e => f c o e (d c hc), hS.keep t, rfl⟩
theorem WorldAt.dom {O : List Addr} (h : WorldAt H q S O) {b : Addr} (m : b ∈ O) : ∃ o, H b = some o ∧ ∀ xs, o ≠ .tup xs := by
  obtain ⟨L, hL, hS, rfl⟩ := h
  exact hL.dom m
theorem WorldAt.same {O : List Addr} (h : WorldAt H q S O) (f : Same H H') : WorldAt H' q S O :=
  h.keep (O2 := []) (fun b o e _ => f b o e) (fun t xs e => f t _ e) (fun b _ m => nomatch m)
/-- what differs -/
structure WdNe (q : Addr) (L : LWd) : Prop where
  q0 : q ≠ L.d0
  q1 : q ≠ L.d1
  q2 : q ≠ L.d2
  q3 : q ≠ L.d3
  q4 : q ≠ L.l4
  n01 : L.d0 ≠ L.d1
  n02 : L.d0 ≠ L.d2
  n03 : L.d0 ≠ L.d3
  n04 : L.d0 ≠ L.l4
  n12 : L.d1 ≠ L.d2
  n13 : L.d1 ≠ L.d3
  n14 : L.d1 ≠ L.l4
  n23 : L.d2 ≠ L.d3
  n24 : L.d2 ≠ L.l4
  n34 : L.d3 ≠ L.l4
  a : ∀ c, c ∈ L.A.map (·.2.1) ++ L.W.map (·.2.1) → q ≠ c ∧ L.d0 ≠ c ∧ L.d1 ≠ c ∧ L.d2 ≠ c ∧ L.d3 ≠ c ∧ L.l4 ≠ c
  nd : (L.A.map (·.2.1) ++ L.W.map (·.2.1)).Nodup
theorem WdAt.ne (A : WdAt H q L) : WdNe q L := by
  have nd := A.nd
  unfold ownW at nd
  obtain ⟨n1, n2, n3⟩ := List.nodup_append.mp nd
  simp only [List.nodup_cons, List.mem_cons, List.not_mem_nil, or_false, not_or] at n1
  obtain ⟨⟨a1, a2, a3, a4, a5⟩, ⟨b1, b2, b3, b4⟩, ⟨c1, c2, c3⟩, ⟨e1, e2⟩, f1, _⟩ := n1
  exact ⟨a1, a2, a3, a4, a5, b1, b2, b3, b4, c1, c2, c3, e1, e2, f1, fun c hc => ⟨n3 _ (by simp) c hc, n3 _ (by simp) c hc, n3 _ (by simp) c hc, n3 _ (by simp) c hc, n3 _ (by simp) c hc, n3 _ (by simp) c hc⟩, n2⟩
end

theorem WSem.lk {H : Hp} {L : LWd} {S : Ch} (h : WSem H L S) (n : Int) : (L.A.lookup n = none ↔ S.get n = none) ∧ ∀ x, L.A.lookup n = some x → ∃ y, S.get n = some y ∧ Paired (SlotV H) x.2 y.sl :=
  paired_lk (G := fun (x : Addr × List V) (y : Bx) => Paired (SlotV H) x.2 y.sl) h.bs
theorem WSem.plk {H : Hp} {L : LWd} {S : Ch} (h : WSem H L S) (n : Int) : (L.R.lookup n = none ↔ S.ps.lookup n = none) ∧ ∀ x, L.R.lookup n = some x → ∃ y, S.ps.lookup n = some y ∧ PairV H x y :=
  paired_lk h.ps
/-! ### the dicts' look-ups -/
theorem valV_kvA {n : Int} : ∀ (A : AL), valV (kvA A) (Sum.inl n : Key) = (A.lookup n).map fun b => V.ref b.1
  | [] => rfl
  | (k, b) :: r => by
    show valV (((Sum.inl k : Key), V.ref b.1) :: kvA r) (Sum.inl n : Key) = _
    by_cases e : n = k
    · subst e; rw [valV_pos rfl, lk_pos]; rfl
    · rw [valV_neg (fun z => e (Sum.inl.inj z).symm), valV_kvA r, lk_neg (by simpa using e)]
theorem kvA_some {n : Int} {A : AL} {b : Addr × List V} (h : A.lookup n = some b) : valV (kvA A) (Sum.inl n : Key) = some (V.ref b.1) := by rw [valV_kvA, h]; rfl
theorem kvA_none {n : Int} {A : AL} (h : A.lookup n = none) : valV (kvA A) (Sum.inl n : Key) = none := by rw [valV_kvA, h]; rfl
theorem kvA_keys (A : AL) : (kvA A).map (·.1) = (A.map (·.1)).map Sum.inl := by unfold kvA; simp [List.map_map]
theorem kvA_len (A : AL) : (kvA A).length = A.length := by unfold kvA; simp
theorem kvH_keys (h : List Int) : (kvH h).map (·.1) = h.map Sum.inl := by unfold kvH; simp [List.map_map]
theorem kvH_len (h : List Int) : (kvH h).length = h.length := by unfold kvH; simp
theorem kvH_in {n : Int} : ∀ {h : List Int}, n ∈ h → valV (kvH h) (Sum.inl n : Key) = some (V.bl true)
  | [], m => nomatch m
  | k :: r, m => by
    show valV (((Sum.inl k : Key), V.bl true) :: kvH r) (Sum.inl n : Key) = _
    by_cases e : n = k
    · subst e; rw [valV_pos rfl]
    · rw [valV_neg (fun z => e (Sum.inl.inj z).symm)]
      exact kvH_in ((List.mem_cons.mp m).resolve_left e)
theorem kvH_out {n : Int} : ∀ {h : List Int}, n ∉ h → valV (kvH h) (Sum.inl n : Key) = none
  | [], _ => rfl
  | k :: r, m => by
    show valV (((Sum.inl k : Key), V.bl true) :: kvH r) (Sum.inl n : Key) = _
    rw [valV_neg (fun z => m (List.mem_cons.mpr (.inl (Sum.inl.inj z).symm)))]
    exact kvH_out fun q => m (List.mem_cons_of_mem _ q)
theorem putK_old {κ : Type} [DecidableEq κ] {kvs : List (κ × V)} {k : κ} (v : V) (h : (valV kvs k).isSome = true) : putK kvs k v = kvs.map fun kv => if kv.1 = k then (kv.1, v) else kv := by
  unfold putK
  rw [valV_any, if_pos h]
theorem kvH_put {n : Int} {h : List Int} : putK (kvH h) (Sum.inl n : Key) (V.bl true) = kvH (if n ∈ h then h else h ++ [n]) := by
  by_cases m : n ∈ h
  · rw [if_pos m, putK_old _ (by rw [kvH_in m]; rfl)]
    unfold kvH
    rw [List.map_map]
    refine List.map_congr_left fun k _ => ?_
    show (if (Sum.inl k : Key) = Sum.inl n then ((Sum.inl k : Key), V.bl true) else ((Sum.inl k : Key), V.bl true)) = _
    split <;> rfl
  · rw [if_neg m, putK_new _ (kvH_out m)]
    unfold kvH; simp
theorem kvH_drop {n : Int} {h : List Int} : dropK (kvH h) (Sum.inl n : Key) = kvH (h.filter fun k => decide (k ≠ n)) := by
  unfold dropK kvH
  rw [List.filter_map]
  congr 1
  refine List.filter_congr fun e _ => ?_
  show decide ((Sum.inl e : Key) ≠ Sum.inl n) = decide (e ≠ n)
  by_cases q : e = n
  · simp [q]
  · simp [q]
theorem kvA_new {A : AL} {n : Int} {b : Addr} {vs : List V} (h : A.lookup n = none) : putK (kvA A) (Sum.inl n : Key) (V.ref b) = kvA (A ++ [(n, b, vs)]) := by
  rw [putK_new _ (kvA_none h)]
  unfold kvA; simp
theorem kvA_old {A : AL} {n : Int} {b : Addr} {vs : List V} (h : A.lookup n ≠ none) : putK (kvA A) (Sum.inl n : Key) (V.ref b) = kvA (setB A n fun _ => (b, vs)) := by
  rw [putK_old]
  · unfold kvA setB
    rw [List.map_map, List.map_map]
    refine List.map_congr_left fun e _ => ?_
    show (if (Sum.inl e.1 : Key) = Sum.inl n then ((Sum.inl e.1 : Key), V.ref b) else ((Sum.inl e.1 : Key), V.ref e.2.1)) = _
    show _ = ((Sum.inl (if e.1 = n then (e.1, b, vs) else e).1 : Key), V.ref (if e.1 = n then (e.1, b, vs) else e).2.1)
    by_cases q : e.1 = n
    · rw [if_pos q, if_pos (by rw [q])]
    · rw [if_neg q, if_neg (fun z => q (Sum.inl.inj z))]
  · cases e : A.lookup n with
    | none => exact absurd e h
    | some x => rw [kvA_some e]; rfl
theorem kvA_drop {A : AL} {n : Int} : dropK (kvA A) (Sum.inl n : Key) = kvA (A.filter fun e => decide (e.1 ≠ n)) := by
  unfold dropK kvA
  rw [List.filter_map]
  congr 1
  refine List.filter_congr fun e _ => ?_
  show decide ((Sum.inl e.1 : Key) ≠ Sum.inl n) = decide (e.1 ≠ n)
  by_cases q : e.1 = n
  · simp [q]
  · simp [q]

/-! ### one part changed -/
section
variable {H H' : Hp} {q : Addr} {L : LWd} {S : Ch} {n : Int}
theorem setA_addr {A : AL} {l : Addr × List V} {vs : List V} (pw : (A.map (·.1)).Pairwise (· < ·)) (e : A.lookup n = some l) : (setB A n fun _ => (l.1, vs)).map (·.2.1) = A.map (·.2.1) := by
  obtain ⟨l1, l2, eA, h1, h2⟩ := lk_split pw e
  rw [eA, setB_app h1 h2]; simp
theorem setA_kv {A : AL} {l : Addr × List V} {vs : List V} (pw : (A.map (·.1)).Pairwise (· < ·)) (e : A.lookup n = some l) : kvA (setB A n fun _ => (l.1, vs)) = kvA A := by
  obtain ⟨l1, l2, eA, h1, h2⟩ := lk_split pw e
  rw [eA, setB_app h1 h2]; unfold kvA; simp
theorem WdAt.inA (A : WdAt H q L) {e : Int × Addr × List V} (he : e ∈ L.A) : e.2.1 ∈ L.A.map (·.2.1) ++ L.W.map (·.2.1) := List.mem_append_left _ (List.mem_map.mpr ⟨e, he, rfl⟩)
theorem WdAt.inW (A : WdAt H q L) {e : Int × Addr × List V} (he : e ∈ L.W) : e.2.1 ∈ L.A.map (·.2.1) ++ L.W.map (·.2.1) := List.mem_append_right _ (List.mem_map.mpr ⟨e, he, rfl⟩)
theorem WdAt.slot (hW : WdAt H q L) {l : Addr × List V} (e : L.A.lookup n = some l) {vs : List V} (hv : vs.length ≤ 9) (h1 : H' l.1 = some (.lst vs)) (fr : ∀ c o, H c = some o → c ≠ l.1 → H' c = some o) :
    WdAt H' q { L with A := setB L.A n fun _ => (l.1, vs) } := by
  have N := hW.ne
  have m := hW.inA (lk_mem e)
  obtain ⟨m1, m2, m3, m4, m5, m6⟩ := N.a _ m
  have nd := N.nd
  obtain ⟨k4, k5, k6⟩ := List.nodup_append.mp nd
  have eA := setA_addr (vs := vs) hW.kA e
  refine ⟨fr _ _ hW.ob m1, ?_, fr _ _ hW.e1 m3, fr _ _ hW.e2 m4, fr _ _ hW.e3 m5, fr _ _ hW.e4 m6, ?_, ?_, ?_, by rw [setB_keys]; exact hW.kA, hW.kh, hW.kR, hW.kW, ?_, hW.lR, by rw [setB_keys]; exact hW.hA, by rw [setB_keys]; exact hW.WA, ⟨by rw [setB_len]; exact hW.zA.1, ?_⟩, hW.zR, hW.zW, hW.nn⟩
  · show H' L.d0 = some (.dK (kvA (setB L.A n fun _ => (l.1, vs))))
    rw [setA_kv hW.kA e]; exact fr _ _ hW.e0 m2
  · intro x hx
    have hx : x ∈ setB L.A n fun _ => (l.1, vs) := hx
    obtain ⟨y, hy, ⟨q1, q2⟩ | ⟨q1, q2⟩⟩ := setB_mem hx
    · rw [q2]; exact h1
    · rw [q2]
      refine fr _ _ (hW.sA _ hy) fun z => q1 ?_
      have nk := k4
      obtain ⟨l1, l2, eL, h1, h2⟩ := lk_split hW.kA e
      rw [eL] at hy nk
      rw [List.map_append] at nk
      obtain ⟨n1, n2, n3⟩ := List.nodup_append.mp nk
      rcases List.mem_append.mp hy with hy | hy
      · exact absurd z (n3 y.1 (List.mem_map.mpr ⟨_, hy, rfl⟩) l.1 (by simp))
      · rcases List.mem_cons.mp hy with hy | hy
        · exact congrArg Prod.fst hy
        · have := (List.nodup_cons.mp n2).1
          exact absurd (List.mem_map.mpr ⟨_, hy, z⟩) this
  · intro x hx
    exact fr _ _ (hW.sW x hx) fun z => k6 l.1 (List.mem_map.mpr ⟨_, lk_mem e, rfl⟩) x.2.1 (List.mem_map.mpr ⟨x, hx, rfl⟩) z.symm
  · show ([q, L.d0, L.d1, L.d2, L.d3, L.l4] ++ ((setB L.A n fun _ => (l.1, vs)).map (·.2.1) ++ L.W.map (·.2.1))).Nodup
    rw [eA]; exact hW.nd
  · intro x hx
    have hx : x ∈ setB L.A n fun _ => (l.1, vs) := hx
    obtain ⟨y, hy, _⟩ := setB_mem hx
    exact hW.lA (x.1, y) hy
  · intro x hx
    have hx : x ∈ setB L.A n fun _ => (l.1, vs) := hx
    obtain ⟨y, hy, ⟨q1, q2⟩ | ⟨q1, q2⟩⟩ := setB_mem hx
    · rw [q2]; exact hv
    · rw [q2]; exact hW.zA.2 _ hy
theorem ownW_slot (hW : WdAt H q L) {l : Addr × List V} (e : L.A.lookup n = some l) {vs : List V} : ownW q { L with A := setB L.A n fun _ => (l.1, vs) } = ownW q L := by
  unfold ownW
  rw [setA_addr hW.kA e]
theorem sget_box {x y : Bx} {m : Int} (e : S.get n = some x) : (S.box n y).get m = if m = n then some y else S.get m := by
  unfold Ch.box Ch.get
  show (setB S.bs n fun _ => y).lookup m = _
  rw [setB_lk]
  by_cases c : m = n
  · subst c
    rw [if_pos rfl, show S.bs.lookup m = some x from e]; simp
  · rw [if_neg c]
    cases S.bs.lookup m <;> simp [c]
theorem WSem.slot (hS : WSem H L S) (f : Tups H H') {l : Addr × List V} {x : Bx} {sl : List (Option (Int × Bool))} {vs : List V} (ex : S.get n = some x) (hv : Paired (SlotV H') vs sl) :
    WSem H' { L with A := setB L.A n fun _ => (l.1, vs) } (S.box n { x with sl := sl }) := by
  have h2 := hS.keep f
  refine ⟨hS.nb, hS.np, ?_, h2.ps, ?_, ?_, ?_⟩
  · exact paired_set (G := fun (u : Addr × List V) (v : Bx) => Paired (SlotV H') u.2 v.sl) (G' := fun (u : Addr × List V) (v : Bx) => Paired (SlotV H') u.2 v.sl) (fun _ _ g => g) hv h2.bs
  · intro m
    rw [sget_box ex, hS.hs]
    by_cases c : m = n
    · subst c; rw [if_pos rfl, ex]
      exact ⟨fun ⟨y, e1, e2⟩ => by cases e1; exact ⟨_, rfl, e2⟩, fun ⟨y, e1, e2⟩ => by cases e1; exact ⟨_, rfl, e2⟩⟩
    · rw [if_neg c]
  · intro m y e1 e2
    rw [sget_box ex] at e2
    by_cases c : m = n
    · subst c; rw [if_pos rfl] at e2; cases e2; exact hS.w0 m x e1 ex
    · rw [if_neg c] at e2; exact hS.w0 m y e1 e2
  · intro m u e1
    obtain ⟨y, e2, e3, e4⟩ := h2.w1 m u e1
    rw [sget_box ex]
    by_cases c : m = n
    · subst c; rw [if_pos rfl]; rw [ex] at e2; cases e2; exact ⟨_, rfl, e3, e4⟩
    · rw [if_neg c]; exact ⟨y, e2, e3, e4⟩
/-- the hands changed -/
theorem WdAt.hand (hW : WdAt H q L) {h : List Int} (hn : h.Nodup) (hk : ∀ m ∈ h, m ∈ L.A.map (·.1)) (h1 : H' L.d1 = some (.dK (kvH h))) (fr : ∀ c o, H c = some o → c ≠ L.d1 → H' c = some o) : WdAt H' q { L with h := h } := by
  have N := hW.ne
  exact ⟨fr _ _ hW.ob N.q1, fr _ _ hW.e0 N.n01, h1, fr _ _ hW.e2 N.n12.symm, fr _ _ hW.e3 N.n13.symm, fr _ _ hW.e4 N.n14.symm,
    fun e he => fr _ _ (hW.sA e he) (N.a _ (hW.inA he)).2.2.1.symm, fun e he => fr _ _ (hW.sW e he) (N.a _ (hW.inW he)).2.2.1.symm, hW.nd, hW.kA, hn, hW.kR, hW.kW, hW.lA, hW.lR, hk, hW.WA, hW.zA, hW.zR, hW.zW, hW.nn⟩
theorem paired_keys {α β : Type} {G : α → β → Prop} : ∀ {l : List (Int × α)} {m : List (Int × β)}, Paired (fun e f => e.1 = f.1 ∧ G e.2 f.2) l m → l.map (·.1) = m.map (·.1)
  | _, _, .nil => rfl
  | _, _, .cons h r => by rw [List.map_cons, List.map_cons, h.1, paired_keys r]
theorem paired_right {α β : Type} {G : α → β → Prop} {x x' : β} (hg : ∀ a, G a x → G a x') : ∀ {l : List (Int × α)} {m : List (Int × β)}, (l.map (·.1)).Pairwise (· < ·) → Paired (fun e f => e.1 = f.1 ∧ G e.2 f.2) l m → m.lookup n = some x →
    Paired (fun e f => e.1 = f.1 ∧ G e.2 f.2) l (setB m n fun _ => x')
  | _, _, _, .nil, h => by simp at h
  | (k, u) :: l, (k', y) :: m, pw, .cons h r, ex => by
    obtain ⟨e, g⟩ := h
    have e : k = k' := e
    subst e
    have pw : (k :: l.map (·.1)).Pairwise (· < ·) := pw
    obtain ⟨p1, p2⟩ := List.pairwise_cons.mp pw
    show Paired _ ((k, u) :: l) ((if k = n then (k, x') else (k, y)) :: setB m n fun _ => x')
    by_cases c : k = n
    · subst c
      rw [lk_pos] at ex
      cases ex
      rw [if_pos rfl, setB_no]
      · exact .cons ⟨rfl, hg _ g⟩ r
      · intro z hz q
        have : z.1 ∈ l.map (·.1) := by rw [paired_keys r]; exact List.mem_map.mpr ⟨z, hz, rfl⟩
        have := p1 _ this
        omega
    · rw [if_neg c]
      rw [lk_neg (fun z => c z.symm)] at ex
      exact .cons ⟨rfl, g⟩ (paired_right hg p2 r ex)
theorem WSem.hand (hS : WSem H L S) (f : Tups H H') (pw : (L.A.map (·.1)).Pairwise (· < ·)) {h : List Int} {x : Bx} {g : Bool} (ex : S.get n = some x) (hh : ∀ m, m ∈ h ↔ if m = n then g = true else m ∈ L.h) : WSem H' { L with h := h } (S.box n { x with hand := g }) := by
  have h2 := hS.keep f
  refine ⟨hS.nb, hS.np, ?_, h2.ps, ?_, ?_, ?_⟩
  · exact paired_right (x := x) (x' := { x with hand := g }) (G := fun (u : Addr × List V) (v : Bx) => Paired (SlotV H') u.2 v.sl) (fun _ g => g) pw h2.bs ex
  · intro m
    rw [sget_box ex, hh]
    by_cases c : m = n
    · rw [if_pos c, if_pos c]
      exact ⟨fun hg => ⟨_, rfl, hg⟩, fun ⟨y, e1, e2⟩ => by cases e1; exact e2⟩
    · rw [if_neg c, if_neg c, hS.hs]
  · intro m y e1 e2
    rw [sget_box ex] at e2
    by_cases c : m = n
    · subst c; rw [if_pos rfl] at e2; cases e2; exact hS.w0 m x e1 ex
    · rw [if_neg c] at e2; exact hS.w0 m y e1 e2
  · intro m u e1
    obtain ⟨y, e2, e3, e4⟩ := h2.w1 m u e1
    rw [sget_box ex]
    by_cases c : m = n
    · subst c; rw [if_pos rfl]; rw [ex] at e2; cases e2; exact ⟨_, rfl, e3, e4⟩
    · rw [if_neg c]; exact ⟨y, e2, e3, e4⟩
/-- a pair more -/
theorem WdAt.tie (hW : WdAt H q L) {t : Addr} (h4 : H' L.l4 = some (.lst [.int L.nb, .int (L.np + 1)])) (h2 : H' L.d2 = some (.dK (kvR (L.R ++ [(L.np, t)])))) (hl : L.R.length < 60) (fr : ∀ c o, H c = some o → c ≠ L.l4 → c ≠ L.d2 → H' c = some o) :
    WdAt H' q { L with np := L.np + 1, R := L.R ++ [(L.np, t)] } := by
  have N := hW.ne
  refine ⟨fr _ _ hW.ob N.q4 N.q2, fr _ _ hW.e0 N.n04 N.n02, fr _ _ hW.e1 N.n14 N.n12, h2, fr _ _ hW.e3 N.n34 N.n23.symm, h4, fun e he => fr _ _ (hW.sA e he) (N.a _ (hW.inA he)).2.2.2.2.2.symm (N.a _ (hW.inA he)).2.2.2.1.symm,
    fun e he => fr _ _ (hW.sW e he) (N.a _ (hW.inW he)).2.2.2.2.2.symm (N.a _ (hW.inW he)).2.2.2.1.symm, hW.nd, hW.kA, hW.kh, ?_, hW.kW, hW.lA, ?_, hW.hA, hW.WA, hW.zA, ?_, hW.zW, ⟨hW.nn.1, by show 0 ≤ L.np + 1; have := hW.nn.2; omega⟩⟩
  · show ((L.R ++ [(L.np, t)]).map (·.1)).Pairwise (· < ·)
    rw [List.map_append]
    exact pw_snoc hW.kR fun y hy => by
      obtain ⟨e, he, rfl⟩ := List.mem_map.mp hy
      exact (hW.lR e he).2
  · intro e he
    rcases List.mem_append.mp he with he | he
    · have := hW.lR e he
      exact ⟨this.1, by show e.1 < L.np + 1; omega⟩
    · cases List.mem_singleton.mp he
      exact ⟨hW.nn.2, by show L.np < L.np + 1; omega⟩
  · show (L.R ++ [(L.np, t)]).length ≤ 60
    rw [List.length_append, List.length_singleton]; omega
theorem WSem.tie (hS : WSem H L S) (f : Tups H H') {t : Addr} {h k o : Int} (ht : H' t = some (.tup [.int h, .int k, .int o])) : WSem H' { L with np := L.np + 1, R := L.R ++ [(L.np, t)] } (S.tied h k o) := by
  have h2 := hS.keep f
  exact ⟨hS.nb, by show L.np + 1 = S.np + 1; rw [hS.np], h2.bs, Paired.snoc h2.ps ⟨hS.np, ht⟩, h2.hs, h2.w0, h2.w1⟩
/-- a pair fewer -/
theorem WdAt.loose (hW : WdAt H q L) (h2 : H' L.d2 = some (.dK (kvR (L.R.filter fun e => decide (e.1 ≠ n))))) (fr : ∀ c o, H c = some o → c ≠ L.d2 → H' c = some o) : WdAt H' q { L with R := L.R.filter fun e => decide (e.1 ≠ n) } := by
  have N := hW.ne
  exact ⟨fr _ _ hW.ob N.q2, fr _ _ hW.e0 N.n02, fr _ _ hW.e1 N.n12, h2, fr _ _ hW.e3 N.n23.symm, fr _ _ hW.e4 N.n24.symm, fun e he => fr _ _ (hW.sA e he) (N.a _ (hW.inA he)).2.2.2.1.symm,
    fun e he => fr _ _ (hW.sW e he) (N.a _ (hW.inW he)).2.2.2.1.symm, hW.nd, hW.kA, hW.kh, hW.kR.sublist (List.Sublist.map _ List.filter_sublist), hW.kW, hW.lA, fun e he => hW.lR e (List.mem_filter.mp he).1, hW.hA, hW.WA, hW.zA, Nat.le_trans (List.length_filter_le _ _) hW.zR, hW.zW, hW.nn⟩
theorem WSem.loose (hS : WSem H L S) (f : Tups H H') : WSem H' { L with R := L.R.filter fun e => decide (e.1 ≠ n) } (S.loose n) := by
  have h2 := hS.keep f
  exact ⟨hS.nb, hS.np, h2.bs, paired_filter h2.ps, h2.hs, h2.w0, h2.w1⟩
/-- the wills with n's at l -/
def putW (W : AL) (n : Int) (l : Addr) (us : List V) : AL := if W.lookup n = none then W ++ [(n, l, us)] else setB W n fun _ => (l, us)
theorem putW_kv {W : AL} {l : Addr} {us : List V} : putK (kvA W) (Sum.inl n : Key) (V.ref l) = kvA (putW W n l us) := by
  unfold putW
  by_cases c : W.lookup n = none
  · rw [if_pos c, kvA_new c]
  · rw [if_neg c, kvA_old c]
theorem putW_mem {W : AL} {l : Addr} {us : List V} {e : Int × Addr × List V} (h : e ∈ putW W n l us) : e = (n, l, us) ∨ (e ∈ W ∧ e.1 ≠ n) := by
  unfold putW at h
  by_cases c : W.lookup n = none
  · rw [if_pos c] at h
    rcases List.mem_append.mp h with h | h
    · exact .inr ⟨h, fun z => lk_none.mp c (List.mem_map.mpr ⟨e, h, z⟩)⟩
    · exact .inl (List.mem_singleton.mp h)
  · rw [if_neg c] at h
    obtain ⟨x, hx, ⟨q1, q2⟩ | ⟨q1, q2⟩⟩ := setB_mem h
    · left; obtain ⟨e1, e2⟩ := e; have q1 : e1 = n := q1; have q2 : e2 = (l, us) := q2; rw [q1, q2]
    · right; obtain ⟨e1, e2⟩ := e; have q2 : e2 = x := q2; exact ⟨by rw [q2]; exact hx, q1⟩
theorem putW_lk {W : AL} {l : Addr} {us : List V} {m : Int} : (putW W n l us).lookup m = if m = n then some (l, us) else W.lookup m := by
  unfold putW
  by_cases c : W.lookup n = none
  · rw [if_pos c]
    by_cases d : m = n
    · subst d
      rw [if_pos rfl]
      have : ∀ {W : AL}, W.lookup m = none → (W ++ [(m, l, us)]).lookup m = some (l, us) := by
        intro W
        induction W with
        | nil => intro _; exact lk_pos
        | cons e r ih =>
          obtain ⟨k, y⟩ := e
          intro h
          by_cases z : m = k
          · subst z; rw [lk_pos] at h; cases h
          · rw [lk_neg (by simpa using z)] at h
            show ((k, y) :: (r ++ [(m, l, us)])).lookup m = _
            rw [lk_neg (by simpa using z)]; exact ih h
      exact this c
    · rw [if_neg d]
      have : ∀ {W : AL}, (W ++ [(n, l, us)]).lookup m = W.lookup m := by
        intro W
        induction W with
        | nil => exact lk_neg d
        | cons e r ih =>
          obtain ⟨k, y⟩ := e
          show ((k, y) :: (r ++ [(n, l, us)])).lookup m = _
          by_cases z : m = k
          · subst z; rw [lk_pos, lk_pos]
          · rw [lk_neg (by simpa using z), lk_neg (by simpa using z)]; exact ih
      exact this
  · rw [if_neg c, setB_lk]
    by_cases d : m = n
    · subst d
      rw [if_pos rfl]
      cases e : W.lookup m with
      | none => exact absurd e c
      | some x => simp
    · rw [if_neg d]
      cases W.lookup m <;> simp [d]
theorem putW_nd {W : AL} {l : Addr} {us : List V} (h : (W.map (·.1)).Nodup) : ((putW W n l us).map (·.1)).Nodup := by
  unfold putW
  by_cases c : W.lookup n = none
  · rw [if_pos c, List.map_append]
    refine List.nodup_append.mpr ⟨h, by simp, fun x hx y hy e => lk_none.mp c ?_⟩
    have q : y = n := by simpa using hy
    rw [← q, ← e]; exact hx
  · rw [if_neg c, setB_keys]; exact h
theorem putW_addr {W : AL} {l : Addr} {us : List V} {c : Addr} (h : c ∈ (putW W n l us).map (·.2.1)) : c = l ∨ c ∈ W.map (·.2.1) := by
  obtain ⟨e, he, rfl⟩ := List.mem_map.mp h
  rcases putW_mem he with rfl | ⟨he, _⟩
  · exact .inl rfl
  · exact .inr (List.mem_map.mpr ⟨e, he, rfl⟩)
theorem putW_ndA {W : AL} {l : Addr} {us : List V} (kW : (W.map (·.1)).Nodup) (h : (W.map (·.2.1)).Nodup) (hl : l ∉ W.map (·.2.1)) : ((putW W n l us).map (·.2.1)).Nodup := by
  unfold putW
  by_cases c : W.lookup n = none
  · rw [if_pos c, List.map_append]
    exact List.nodup_append.mpr ⟨h, by simp, fun x hx y hy e => hl (by rw [← show y = l from List.mem_singleton.mp hy, ← e]; exact hx)⟩
  · rw [if_neg c]
    clear c
    induction W with
    | nil => exact .nil
    | cons e r ih =>
      obtain ⟨k, y⟩ := e
      have kW : (k :: r.map (·.1)).Nodup := kW
      have h : (y.1 :: r.map (·.2.1)).Nodup := h
      have hl : ¬ (l = y.1 ∨ l ∈ r.map (·.2.1)) := fun z => hl (List.mem_cons.mpr z)
      obtain ⟨k1, k2⟩ := List.nodup_cons.mp kW
      obtain ⟨g1, g2⟩ := List.nodup_cons.mp h
      show (((if k = n then (k, (l, us)) else (k, y)) :: setB r n fun _ => (l, us)).map (·.2.1)).Nodup
      by_cases d : k = n
      · subst d
        rw [if_pos rfl, setB_no fun e he z => k1 (List.mem_map.mpr ⟨e, he, z⟩)]
        exact List.nodup_cons.mpr ⟨fun m => hl (.inr m), g2⟩
      · rw [if_neg d]
        refine List.nodup_cons.mpr ⟨fun m => ?_, ih k2 g2 fun m => hl (.inr m)⟩
        obtain ⟨e, he, q⟩ := List.mem_map.mp m
        obtain ⟨x, hx, ⟨q1, q2⟩ | ⟨q1, q2⟩⟩ := setB_mem he
        · rw [q2] at q; exact hl (.inl q)
        · rw [q2] at q; exact g1 (List.mem_map.mpr ⟨_, hx, q⟩)
theorem WdAt.will (hW : WdAt H q L) {l : Addr} {us : List V} (hn : n ∈ L.A.map (·.1)) (fl : H l = none) (hz : us.length ≤ 9) (h3 : H' L.d3 = some (.dK (kvA (putW L.W n l us)))) (hl : H' l = some (.lst us)) (fr : ∀ c o, H c = some o → c ≠ L.d3 → H' c = some o) :
    WdAt H' q { L with W := putW L.W n l us } := by
  have N := hW.ne
  have no : ∀ c, c ∈ ownW q L → c ≠ l := fun c hc z => hW.fresh fl (z ▸ hc)
  have nd := hW.nd
  unfold ownW at nd
  obtain ⟨k1, k2, k3⟩ := List.nodup_append.mp nd
  obtain ⟨k4, k5, k6⟩ := List.nodup_append.mp k2
  refine ⟨fr _ _ hW.ob N.q3, fr _ _ hW.e0 N.n03, fr _ _ hW.e1 N.n13, fr _ _ hW.e2 N.n23, h3, fr _ _ hW.e4 N.n34.symm, fun e he => fr _ _ (hW.sA e he) (N.a _ (hW.inA he)).2.2.2.2.1.symm, ?_, ?_, hW.kA, hW.kh, hW.kR, putW_nd hW.kW, hW.lA, hW.lR, hW.hA, ?_, hW.zA, hW.zR, ?_, hW.nn⟩
  · intro e he
    rcases putW_mem he with rfl | ⟨he, _⟩
    · exact hl
    · exact fr _ _ (hW.sW e he) (N.a _ (hW.inW he)).2.2.2.2.1.symm
  · show ([q, L.d0, L.d1, L.d2, L.d3, L.l4] ++ (L.A.map (·.2.1) ++ (putW L.W n l us).map (·.2.1))).Nodup
    have lW : l ∉ L.W.map (·.2.1) := fun m => no l (by unfold ownW; exact List.mem_append_right _ (List.mem_append_right _ m)) rfl
    refine List.nodup_append.mpr ⟨k1, List.nodup_append.mpr ⟨k4, putW_ndA hW.kW k5 lW, ?_⟩, ?_⟩
    · intro x hx y hy e
      rcases putW_addr hy with rfl | hy
      · exact no x (by unfold ownW; exact List.mem_append_right _ (List.mem_append_left _ hx)) e
      · exact k6 x hx y hy e
    · intro x hx y hy e
      rcases List.mem_append.mp hy with hy | hy
      · exact k3 x hx y (List.mem_append_left _ hy) e
      · rcases putW_addr hy with rfl | hy
        · exact no x (by unfold ownW; exact List.mem_append_left _ hx) e
        · exact k3 x hx y (List.mem_append_right _ hy) e
  · intro e he
    rcases putW_mem he with rfl | ⟨he, _⟩
    · exact hn
    · exact hW.WA e he
  · intro e he
    rcases putW_mem he with rfl | ⟨he, _⟩
    · exact hz
    · exact hW.zW e he
theorem WdAt.unwill (hW : WdAt H q L) (h3 : H' L.d3 = some (.dK (kvA (L.W.filter fun e => decide (e.1 ≠ n))))) (fr : ∀ c o, H c = some o → c ≠ L.d3 → H' c = some o) : WdAt H' q { L with W := L.W.filter fun e => decide (e.1 ≠ n) } := by
  have N := hW.ne
  have nd := hW.nd
  unfold ownW at nd
  refine ⟨fr _ _ hW.ob N.q3, fr _ _ hW.e0 N.n03, fr _ _ hW.e1 N.n13, fr _ _ hW.e2 N.n23, h3, fr _ _ hW.e4 N.n34.symm, fun e he => fr _ _ (hW.sA e he) (N.a _ (hW.inA he)).2.2.2.2.1.symm,
    fun e he => fr _ _ (hW.sW e (List.mem_filter.mp he).1) (N.a _ (hW.inW (List.mem_filter.mp he).1)).2.2.2.2.1.symm, ?_, hW.kA, hW.kh, hW.kR, hW.kW.sublist (List.Sublist.map _ List.filter_sublist), hW.lA, hW.lR, hW.hA, fun e he => hW.WA e (List.mem_filter.mp he).1, hW.zA, hW.zR, fun e he => hW.zW e (List.mem_filter.mp he).1, hW.nn⟩
  exact nd.sublist (List.Sublist.append (List.Sublist.refl _) (List.Sublist.append (List.Sublist.refl _) (List.Sublist.map _ List.filter_sublist)))
/-- the wills as they are told -/
theorem WSem.will (hS : WSem H L S) (f : Tups H H') (pw : (L.A.map (·.1)).Pairwise (· < ·)) {x : Bx} {ds : List Deed} {W : AL} (ex : S.get n = some x)
    (h0 : ds = [] → W.lookup n = none) (h1 : ds ≠ [] → ∃ l, W.lookup n = some l ∧ Paired (DeedV H') l.2 ds) (ho : ∀ m, m ≠ n → W.lookup m = L.W.lookup m) : WSem H' { L with W := W } (S.box n { x with will := ds }) := by
  have h2 := hS.keep f
  refine ⟨hS.nb, hS.np, paired_right (x := x) (x' := { x with will := ds }) (G := fun (u : Addr × List V) (v : Bx) => Paired (SlotV H') u.2 v.sl) (fun _ g => g) pw h2.bs ex, h2.ps, ?_, ?_, ?_⟩
  · intro m
    rw [sget_box ex, hS.hs]
    by_cases c : m = n
    · subst c; rw [if_pos rfl, ex]
      exact ⟨fun ⟨y, e1, e2⟩ => by cases e1; exact ⟨_, rfl, e2⟩, fun ⟨y, e1, e2⟩ => by cases e1; exact ⟨_, rfl, e2⟩⟩
    · rw [if_neg c]
  · intro m y e1 e2
    rw [sget_box ex] at e2
    by_cases c : m = n
    · subst c; rw [if_pos rfl] at e2; cases e2
      by_cases d : ds = []
      · exact d
      · obtain ⟨l, e3, _⟩ := h1 d
        have e1 : W.lookup m = none := e1
        rw [e3] at e1; cases e1
    · rw [if_neg c] at e2
      have e1 : W.lookup m = none := e1
      rw [ho m c] at e1
      exact hS.w0 m y e1 e2
  · intro m u e1
    have e1 : W.lookup m = some u := e1
    rw [sget_box ex]
    by_cases c : m = n
    · subst c
      rw [if_pos rfl]
      by_cases d : ds = []
      · rw [h0 d] at e1; cases e1
      · obtain ⟨l, e3, e4⟩ := h1 d
        rw [e3] at e1; cases e1
        exact ⟨_, rfl, d, e4⟩
    · rw [if_neg c]
      rw [ho m c] at e1
      exact h2.w1 m u e1
end
end LW
namespace LW
open PySem PySem.Spec PyProof.Rows L2
def topS (i : Nat) : Stmt := PySem.Challenge.pw_lastwill_k01_new_boxes.main.body.getD i (.Pass ⟨0, 0, 0, 0⟩)
abbrev s_Box__init_ : Stmt := inClass (topS 14) 0
abbrev N_Box__init_ : List Str := ["self", "size"]
theorem sc_Box__init_ : FnScope N_Box__init_ ["self", "size"] (defScope s_Box__init_) := ⟨rfl, rfl, rfl, by decide +kernel, rfl, by decide +kernel, by decide +kernel⟩
abbrev s_Chest__init_ : Stmt := inClass (topS 15) 0
abbrev N_Chest__init_ : List Str := ["self"]
theorem sc_Chest__init_ : FnScope N_Chest__init_ ["self"] (defScope s_Chest__init_) := ⟨rfl, rfl, rfl, by decide +kernel, rfl, by decide +kernel, by decide +kernel⟩
abbrev s_Chest_make : Stmt := inClass (topS 15) 1
abbrev N_Chest_make : List Str := ["self", "size", "box"]
theorem sc_Chest_make : FnScope N_Chest_make ["self", "size"] (defScope s_Chest_make) := ⟨rfl, rfl, rfl, by decide +kernel, rfl, by decide +kernel, by decide +kernel⟩
abbrev s_Chest_boxes : Stmt := inClass (topS 15) 2
abbrev N_Chest_boxes : List Str := ["self"]
theorem sc_Chest_boxes : FnScope N_Chest_boxes ["self"] (defScope s_Chest_boxes) := ⟨rfl, rfl, rfl, by decide +kernel, rfl, by decide +kernel, by decide +kernel⟩
abbrev s_Chest_size : Stmt := inClass (topS 15) 3
abbrev N_Chest_size : List Str := ["self", "box"]
theorem sc_Chest_size : FnScope N_Chest_size ["self", "box"] (defScope s_Chest_size) := ⟨rfl, rfl, rfl, by decide +kernel, rfl, by decide +kernel, by decide +kernel⟩
abbrev s_Chest_empty : Stmt := inClass (topS 15) 5
abbrev N_Chest_empty : List Str := ["self", "box", "slot", "slots"]
theorem sc_Chest_empty : FnScope N_Chest_empty ["self", "box", "slot"] (defScope s_Chest_empty) := ⟨rfl, rfl, rfl, by decide +kernel, rfl, by decide +kernel, by decide +kernel⟩
abbrev s_Chest_told : Stmt := inClass (topS 15) 6
abbrev N_Chest_told : List Str := ["self", "box", "slot"]
theorem sc_Chest_told : FnScope N_Chest_told ["self", "box", "slot"] (defScope s_Chest_told) := ⟨rfl, rfl, rfl, by decide +kernel, rfl, by decide +kernel, by decide +kernel⟩
abbrev s_Chest_hands : Stmt := inClass (topS 15) 10
abbrev N_Chest_hands : List Str := ["self", "box"]
theorem sc_Chest_hands : FnScope N_Chest_hands ["self"] (defScope s_Chest_hands) := ⟨rfl, rfl, rfl, by decide +kernel, rfl, by decide +kernel, by decide +kernel⟩
abbrev s_Chest_pair : Stmt := inClass (topS 15) 11
abbrev N_Chest_pair : List Str := ["self", "home", "key", "other", "box", "pair"]
theorem sc_Chest_pair : FnScope N_Chest_pair ["self", "home", "key", "other"] (defScope s_Chest_pair) := ⟨rfl, rfl, rfl, by decide +kernel, rfl, by decide +kernel, by decide +kernel⟩
abbrev s_Chest_pairs : Stmt := inClass (topS 15) 13
abbrev N_Chest_pairs : List Str := ["self", "pair"]
theorem sc_Chest_pairs : FnScope N_Chest_pairs ["self"] (defScope s_Chest_pairs) := ⟨rfl, rfl, rfl, by decide +kernel, rfl, by decide +kernel, by decide +kernel⟩
abbrev s_Chest_will : Stmt := inClass (topS 15) 15
abbrev N_Chest_will : List Str := ["self", "box"]
theorem sc_Chest_will : FnScope N_Chest_will ["self", "box"] (defScope s_Chest_will) := ⟨rfl, rfl, rfl, by decide +kernel, rfl, by decide +kernel, by decide +kernel⟩
abbrev s_Chest_kept_box : Stmt := inClass (topS 15) 17
abbrev N_Chest_kept_box : List Str := ["self", "box"]
theorem sc_Chest_kept_box : FnScope N_Chest_kept_box ["self", "box"] (defScope s_Chest_kept_box) := ⟨rfl, rfl, rfl, by decide +kernel, rfl, by decide +kernel, by decide +kernel⟩
abbrev s_Chest_slots_with : Stmt := inClass (topS 15) 18
abbrev N_Chest_slots_with : List Str := ["self", "box", "slot", "slots"]
theorem sc_Chest_slots_with : FnScope N_Chest_slots_with ["self", "box", "slot"] (defScope s_Chest_slots_with) := ⟨rfl, rfl, rfl, by decide +kernel, rfl, by decide +kernel, by decide +kernel⟩
abbrev s_law_cell_at : Stmt := topS 17
abbrev N_law_cell_at : List Str := ["_law_script", "_law_k"]
theorem sc_law_cell_at : FnScope N_law_cell_at ["_law_script", "_law_k"] (defScope s_law_cell_at) := ⟨rfl, rfl, rfl, by decide +kernel, rfl, by decide +kernel, by decide +kernel⟩
abbrev s_law_whole : Stmt := topS 18
abbrev N_law_whole : List Str := ["_law_found"]
theorem sc_law_whole : FnScope N_law_whole ["_law_found"] (defScope s_law_whole) := ⟨rfl, rfl, rfl, by decide +kernel, rfl, by decide +kernel, by decide +kernel⟩
abbrev s_law_mixed : Stmt := topS 19
abbrev N_law_mixed : List Str := ["_law_cell", "_law_k", "_law_many", "_law_some", "_law_made_here"]
theorem sc_law_mixed : FnScope N_law_mixed ["_law_cell", "_law_k", "_law_many"] (defScope s_law_mixed) := ⟨rfl, rfl, rfl, by decide +kernel, rfl, by decide +kernel, by decide +kernel⟩
abbrev s_law_numbers : Stmt := topS 20
abbrev N_law_numbers : List Str := ["_law_found", "_law_due", "_law_k"]
theorem sc_law_numbers : FnScope N_law_numbers ["_law_found", "_law_due"] (defScope s_law_numbers) := ⟨rfl, rfl, rfl, by decide +kernel, rfl, by decide +kernel, by decide +kernel⟩
abbrev s_law_class : Stmt := topS 21
abbrev N_law_class : List Str := ["_law_e", "_law_words"]
theorem sc_law_class : FnScope N_law_class ["_law_e"] (defScope s_law_class) := ⟨rfl, rfl, rfl, by decide +kernel, rfl, by decide +kernel, by decide +kernel⟩
abbrev s_law_size_by : Stmt := topS 22
abbrev N_law_size_by : List Str := ["_law_cell"]
theorem sc_law_size_by : FnScope N_law_size_by ["_law_cell"] (defScope s_law_size_by) := ⟨rfl, rfl, rfl, by decide +kernel, rfl, by decide +kernel, by decide +kernel⟩
abbrev s_law_made : Stmt := topS 23
abbrev N_law_made : List Str := ["_law_chest", "_law_size", "_law_e"]
theorem sc_law_made : FnScope N_law_made ["_law_chest", "_law_size"] (defScope s_law_made) := ⟨rfl, rfl, rfl, by decide +kernel, rfl, by decide +kernel, by decide +kernel⟩
abbrev s_law_refused : Stmt := topS 24
abbrev N_law_refused : List Str := ["_law_chest", "_law_box", "_law_slot", "_law_way", "_law_e"]
theorem sc_law_refused : FnScope N_law_refused ["_law_chest", "_law_box", "_law_slot", "_law_way"] (defScope s_law_refused) := ⟨rfl, rfl, rfl, by decide +kernel, rfl, by decide +kernel, by decide +kernel⟩
abbrev s_law_new : Stmt := topS 25
abbrev N_law_new : List Str := ["_law_chest", "_law_box", "_law_size", "_law_found", "_law_slot"]
theorem sc_law_new : FnScope N_law_new ["_law_chest", "_law_box", "_law_size"] (defScope s_law_new) := ⟨rfl, rfl, rfl, by decide +kernel, rfl, by decide +kernel, by decide +kernel⟩
abbrev s_law : Stmt := topS 26
abbrev N_law : List Str := ["_law_script", "_law_cells", "_law_far", "_law_chest", "_law_sizes", "_law_cell", "_law_size", "_law_due", "_law_found", "_law_told", "_law_box", "_law_k", "_law_way"]
theorem sc_law : FnScope N_law ["_law_script"] (defScope s_law) := ⟨rfl, rfl, rfl, by decide +kernel, rfl, by decide +kernel, by decide +kernel⟩

structure Ad where
  WillError : Addr
  NoBox : Addr
  NoSlot : Addr
  NoHand : Addr
  NoPair : Addr
  NoWill : Addr
  TooMany : Addr
  NoText : Addr
  Box : Addr
  Chest : Addr
  f_Box__init_ : Addr
  fd_Box__init_ : FuncData
  f_Chest__init_ : Addr
  fd_Chest__init_ : FuncData
  f_Chest_make : Addr
  fd_Chest_make : FuncData
  f_Chest_boxes : Addr
  fd_Chest_boxes : FuncData
  f_Chest_size : Addr
  fd_Chest_size : FuncData
  f_Chest_empty : Addr
  fd_Chest_empty : FuncData
  f_Chest_told : Addr
  fd_Chest_told : FuncData
  f_Chest_hands : Addr
  fd_Chest_hands : FuncData
  f_Chest_pair : Addr
  fd_Chest_pair : FuncData
  f_Chest_pairs : Addr
  fd_Chest_pairs : FuncData
  f_Chest_will : Addr
  fd_Chest_will : FuncData
  f_Chest_kept_box : Addr
  fd_Chest_kept_box : FuncData
  f_Chest_slots_with : Addr
  fd_Chest_slots_with : FuncData
  f_law_cell_at : Addr
  fd_law_cell_at : FuncData
  f_law_whole : Addr
  fd_law_whole : FuncData
  f_law_mixed : Addr
  fd_law_mixed : FuncData
  f_law_numbers : Addr
  fd_law_numbers : FuncData
  f_law_class : Addr
  fd_law_class : FuncData
  f_law_size_by : Addr
  fd_law_size_by : FuncData
  f_law_made : Addr
  fd_law_made : FuncData
  f_law_refused : Addr
  fd_law_refused : FuncData
  f_law_new : Addr
  fd_law_new : FuncData
  f_law : Addr
  fd_law : FuncData
  t_LARGEST_SIZE : Tok
  t_MOST_BOXES : Tok
  t_MOST_PAIRS : Tok
structure Txt (a : Ad) (K : PySem.W.Frag) (mg : Str → Option Value) : Prop where
  F_Box__init_ : Fun K "__init__" "Box.__init__" s_Box__init_ a.f_Box__init_ a.fd_Box__init_
  b_Box__init_ : Binds K a.fd_Box__init_ ["self", "size"] []
  F_Chest__init_ : Fun K "__init__" "Chest.__init__" s_Chest__init_ a.f_Chest__init_ a.fd_Chest__init_
  b_Chest__init_ : Binds K a.fd_Chest__init_ ["self"] []
  F_Chest_make : Fun K "make" "Chest.make" s_Chest_make a.f_Chest_make a.fd_Chest_make
  b_Chest_make : Binds K a.fd_Chest_make ["self", "size"] []
  m_Chest_make : Meth K a.Chest "make" a.f_Chest_make
  F_Chest_boxes : Fun K "boxes" "Chest.boxes" s_Chest_boxes a.f_Chest_boxes a.fd_Chest_boxes
  b_Chest_boxes : Binds K a.fd_Chest_boxes ["self"] []
  m_Chest_boxes : Meth K a.Chest "boxes" a.f_Chest_boxes
  F_Chest_size : Fun K "size" "Chest.size" s_Chest_size a.f_Chest_size a.fd_Chest_size
  b_Chest_size : Binds K a.fd_Chest_size ["self", "box"] []
  m_Chest_size : Meth K a.Chest "size" a.f_Chest_size
  F_Chest_empty : Fun K "empty" "Chest.empty" s_Chest_empty a.f_Chest_empty a.fd_Chest_empty
  b_Chest_empty : Binds K a.fd_Chest_empty ["self", "box", "slot"] []
  m_Chest_empty : Meth K a.Chest "empty" a.f_Chest_empty
  F_Chest_told : Fun K "told" "Chest.told" s_Chest_told a.f_Chest_told a.fd_Chest_told
  b_Chest_told : Binds K a.fd_Chest_told ["self", "box", "slot"] []
  m_Chest_told : Meth K a.Chest "told" a.f_Chest_told
  F_Chest_hands : Fun K "hands" "Chest.hands" s_Chest_hands a.f_Chest_hands a.fd_Chest_hands
  b_Chest_hands : Binds K a.fd_Chest_hands ["self"] []
  m_Chest_hands : Meth K a.Chest "hands" a.f_Chest_hands
  F_Chest_pair : Fun K "pair" "Chest.pair" s_Chest_pair a.f_Chest_pair a.fd_Chest_pair
  b_Chest_pair : Binds K a.fd_Chest_pair ["self", "home", "key", "other"] []
  m_Chest_pair : Meth K a.Chest "pair" a.f_Chest_pair
  F_Chest_pairs : Fun K "pairs" "Chest.pairs" s_Chest_pairs a.f_Chest_pairs a.fd_Chest_pairs
  b_Chest_pairs : Binds K a.fd_Chest_pairs ["self"] []
  m_Chest_pairs : Meth K a.Chest "pairs" a.f_Chest_pairs
  F_Chest_will : Fun K "will" "Chest.will" s_Chest_will a.f_Chest_will a.fd_Chest_will
  b_Chest_will : Binds K a.fd_Chest_will ["self", "box"] []
  m_Chest_will : Meth K a.Chest "will" a.f_Chest_will
  F_Chest_kept_box : Fun K "_kept_box" "Chest._kept_box" s_Chest_kept_box a.f_Chest_kept_box a.fd_Chest_kept_box
  b_Chest_kept_box : Binds K a.fd_Chest_kept_box ["self", "box"] []
  m_Chest_kept_box : Meth K a.Chest "_kept_box" a.f_Chest_kept_box
  F_Chest_slots_with : Fun K "_slots_with" "Chest._slots_with" s_Chest_slots_with a.f_Chest_slots_with a.fd_Chest_slots_with
  b_Chest_slots_with : Binds K a.fd_Chest_slots_with ["self", "box", "slot"] []
  m_Chest_slots_with : Meth K a.Chest "_slots_with" a.f_Chest_slots_with
  F_law_cell_at : Fun K "_law_cell_at" "_law_cell_at" s_law_cell_at a.f_law_cell_at a.fd_law_cell_at
  b_law_cell_at : Binds K a.fd_law_cell_at ["_law_script", "_law_k"] []
  mg_law_cell_at : mg "_law_cell_at" = some (.ref a.f_law_cell_at)
  F_law_whole : Fun K "_law_whole" "_law_whole" s_law_whole a.f_law_whole a.fd_law_whole
  b_law_whole : Binds K a.fd_law_whole ["_law_found"] []
  mg_law_whole : mg "_law_whole" = some (.ref a.f_law_whole)
  F_law_mixed : Fun K "_law_mixed" "_law_mixed" s_law_mixed a.f_law_mixed a.fd_law_mixed
  b_law_mixed : Binds K a.fd_law_mixed ["_law_cell", "_law_k", "_law_many"] []
  mg_law_mixed : mg "_law_mixed" = some (.ref a.f_law_mixed)
  F_law_numbers : Fun K "_law_numbers" "_law_numbers" s_law_numbers a.f_law_numbers a.fd_law_numbers
  b_law_numbers : Binds K a.fd_law_numbers ["_law_found", "_law_due"] []
  mg_law_numbers : mg "_law_numbers" = some (.ref a.f_law_numbers)
  F_law_class : Fun K "_law_class" "_law_class" s_law_class a.f_law_class a.fd_law_class
  b_law_class : Binds K a.fd_law_class ["_law_e"] []
  mg_law_class : mg "_law_class" = some (.ref a.f_law_class)
  F_law_size_by : Fun K "_law_size_by" "_law_size_by" s_law_size_by a.f_law_size_by a.fd_law_size_by
  b_law_size_by : Binds K a.fd_law_size_by ["_law_cell"] []
  mg_law_size_by : mg "_law_size_by" = some (.ref a.f_law_size_by)
  F_law_made : Fun K "_law_made" "_law_made" s_law_made a.f_law_made a.fd_law_made
  b_law_made : Binds K a.fd_law_made ["_law_chest", "_law_size"] []
  mg_law_made : mg "_law_made" = some (.ref a.f_law_made)
  F_law_refused : Fun K "_law_refused" "_law_refused" s_law_refused a.f_law_refused a.fd_law_refused
  b_law_refused : Binds K a.fd_law_refused ["_law_chest", "_law_box", "_law_slot", "_law_way"] []
  mg_law_refused : mg "_law_refused" = some (.ref a.f_law_refused)
  F_law_new : Fun K "_law_new" "_law_new" s_law_new a.f_law_new a.fd_law_new
  b_law_new : Binds K a.fd_law_new ["_law_chest", "_law_box", "_law_size"] []
  mg_law_new : mg "_law_new" = some (.ref a.f_law_new)
  F_law : Fun K "law" "law" s_law a.f_law a.fd_law
  b_law : Binds K a.fd_law ["_law_script"] []
  mg_law : mg "law" = some (.ref a.f_law)
  cl_Box : Cls K a.Box
  mk_Box : Mk K a.Box a.f_Box__init_
  mg_Box : mg "Box" = some (.ref a.Box)
  na_Box_slots : NoAttr K a.Box "slots"
  na_Box_in_hands : NoAttr K a.Box "in_hands"
  na_Box_deeds : NoAttr K a.Box "deeds"
  cl_Chest : Cls K a.Chest
  mk_Chest : Mk K a.Chest a.f_Chest__init_
  mg_Chest : mg "Chest" = some (.ref a.Chest)
  na_Chest_next_box : NoAttr K a.Chest "next_box"
  na_Chest_next_pair : NoAttr K a.Chest "next_pair"
  na_Chest_kept_boxes : NoAttr K a.Chest "kept_boxes"
  na_Chest_kept_pairs : NoAttr K a.Chest "kept_pairs"
  mg_WillError : mg "WillError" = some (.ref a.WillError)
  mg_NoBox : mg "NoBox" = some (.ref a.NoBox)
  mg_NoSlot : mg "NoSlot" = some (.ref a.NoSlot)
  mg_NoHand : mg "NoHand" = some (.ref a.NoHand)
  mg_NoPair : mg "NoPair" = some (.ref a.NoPair)
  mg_NoWill : mg "NoWill" = some (.ref a.NoWill)
  mg_TooMany : mg "TooMany" = some (.ref a.TooMany)
  mg_NoText : mg "NoText" = some (.ref a.NoText)
  x_NoSlot : XC K mg "NoSlot" a.NoSlot
  ec_NoSlot : ExcC K a.NoSlot
  em_NoSlot : PySem.W.exmOne K (.ref a.NoSlot) (.ref a.WillError) = some true
  is_NoSlot_NoBox : PySem.W.kitOne K (.ref a.NoSlot) (.ref a.NoBox) = some false
  is_NoSlot_NoSlot : PySem.W.kitOne K (.ref a.NoSlot) (.ref a.NoSlot) = some true
  is_NoSlot_NoHand : PySem.W.kitOne K (.ref a.NoSlot) (.ref a.NoHand) = some false
  is_NoSlot_NoPair : PySem.W.kitOne K (.ref a.NoSlot) (.ref a.NoPair) = some false
  is_NoSlot_NoWill : PySem.W.kitOne K (.ref a.NoSlot) (.ref a.NoWill) = some false
  is_NoSlot_TooMany : PySem.W.kitOne K (.ref a.NoSlot) (.ref a.TooMany) = some false
  is_NoSlot_NoText : PySem.W.kitOne K (.ref a.NoSlot) (.ref a.NoText) = some false
  is_NoSlot_ValueError : PySem.W.kitOne K (.ref a.NoSlot) (.type "ValueError") = some true
  x_TooMany : XC K mg "TooMany" a.TooMany
  ec_TooMany : ExcC K a.TooMany
  em_TooMany : PySem.W.exmOne K (.ref a.TooMany) (.ref a.WillError) = some true
  is_TooMany_NoBox : PySem.W.kitOne K (.ref a.TooMany) (.ref a.NoBox) = some false
  is_TooMany_NoSlot : PySem.W.kitOne K (.ref a.TooMany) (.ref a.NoSlot) = some false
  is_TooMany_NoHand : PySem.W.kitOne K (.ref a.TooMany) (.ref a.NoHand) = some false
  is_TooMany_NoPair : PySem.W.kitOne K (.ref a.TooMany) (.ref a.NoPair) = some false
  is_TooMany_NoWill : PySem.W.kitOne K (.ref a.TooMany) (.ref a.NoWill) = some false
  is_TooMany_TooMany : PySem.W.kitOne K (.ref a.TooMany) (.ref a.TooMany) = some true
  is_TooMany_NoText : PySem.W.kitOne K (.ref a.TooMany) (.ref a.NoText) = some false
  is_TooMany_ValueError : PySem.W.kitOne K (.ref a.TooMany) (.type "ValueError") = some true
  x_NoBox : XC K mg "NoBox" a.NoBox
  ec_NoBox : ExcC K a.NoBox
  em_NoBox : PySem.W.exmOne K (.ref a.NoBox) (.ref a.WillError) = some true
  is_NoBox_NoBox : PySem.W.kitOne K (.ref a.NoBox) (.ref a.NoBox) = some true
  is_NoBox_NoSlot : PySem.W.kitOne K (.ref a.NoBox) (.ref a.NoSlot) = some false
  is_NoBox_NoHand : PySem.W.kitOne K (.ref a.NoBox) (.ref a.NoHand) = some false
  is_NoBox_NoPair : PySem.W.kitOne K (.ref a.NoBox) (.ref a.NoPair) = some false
  is_NoBox_NoWill : PySem.W.kitOne K (.ref a.NoBox) (.ref a.NoWill) = some false
  is_NoBox_TooMany : PySem.W.kitOne K (.ref a.NoBox) (.ref a.TooMany) = some false
  is_NoBox_NoText : PySem.W.kitOne K (.ref a.NoBox) (.ref a.NoText) = some false
  is_NoBox_ValueError : PySem.W.kitOne K (.ref a.NoBox) (.type "ValueError") = some true
  mg_LARGEST_SIZE : mg "LARGEST_SIZE" = some (.int 9 a.t_LARGEST_SIZE)
  mg_MOST_BOXES : mg "MOST_BOXES" = some (.int 60 a.t_MOST_BOXES)
  mg_MOST_PAIRS : mg "MOST_PAIRS" = some (.int 60 a.t_MOST_PAIRS)
  no_ValueError : mg "ValueError" = none
  no_all : mg "all" = none
  no_bool : mg "bool" = none
  no_int : mg "int" = none
  no_isinstance : mg "isinstance" = none
  no_len : mg "len" = none
  no_list : mg "list" = none
  no_range : mg "range" = none
  no_sorted : mg "sorted" = none

local macro_rules | `(tactic| walk_at "ne") => `(tactic| first
  | assumption
  | exact Ne.symm (by assumption)
  | (refine' ne_of_none ?x1 ?x2; (case x2 => assumption); (case x1 => walk_at "hl"))
  | (refine' Ne.symm (ne_of_none ?x1 ?x2); (case x2 => assumption); (case x1 => walk_at "hl")))
local macro_rules | `(tactic| walk_at "hl") => `(tactic| first
  | assumption
  | exact upd_same
  | (refine' Eq.trans (upd_ne ?x1) ?x2; (case x1 => walk_at "ne"); (case x2 => walk_at "hl")))
local macro_rules | `(tactic| walk_at "go1") => `(tactic| with_reducible first
  | refine g_seq ?_ | refine g_asg ?_ | refine g_name ?_ | refine g_ret ?_ | refine g_drop ?_ | refine g_ifs ?_
  | refine g_msg (by decide +kernel) (by decide +kernel) (by decide +kernel) (by decide +kernel) ?_
  | refine g_op ?_ | refine g_c ?_ | refine g_test ?_ | refine g_tb ?_ | refine g_cons ?_ | refine g_nil ?_
  | refine g_cb ?_ | refine g_un ?_ | refine g_or ?_ | refine g_and ?_ | refine g_not ?_ | refine g_orV ?_ | refine g_andV ?_ | refine g_notV ?_
  | refine g_ifE ?_ | refine g_next ?_
  | refine g_isbl ?_ | refine g_isblA ?_ | refine g_rI0 ?_ | refine g_rU ?_ | refine g_eqI ?_ | refine g_neI ?_ | refine g_eqS ?_ | refine g_neS ?_
  | refine g_isN ?_ | refine g_notN ?_ | refine g_max2 ?_ | refine g_min2 ?_ | refine g_intb ?_
  | refine g_iteNS ?_ | refine g_iteNO ?_ | refine g_iteS ?_ | refine g_iteO ?_
  | refine g_iteT ?_ | refine g_iteF ?_ | refine g_iteNT ?_ | refine g_iteNF ?_ | refine g_iteNN ?_
  | refine g_call ?_ | refine g_dnotin ?_ | refine g_din ?_ | refine g_dget ?_ | refine g_dput ?_ | refine g_sfld ?_ | refine g_meth ?_ | refine g_methP ?_ | refine g_fld ?_ | refine g_dnew ?_ | refine g_bm ?_ | refine g_gsub ?_ | refine g_lc ?_ | refine g_iList ?_ | refine g_iTup ?_ | refine g_iRng1 ?_ | refine g_for ?_ | refine g_sl ?_ | refine g_part ?_ | refine g_nopart ?_ | refine g_partI ?_ | refine g_callE ?_ | refine g_lstRg ?_ | refine g_rg1 ?_ | refine g_rg1I ?_ | refine g_yes ?_ | refine g_make ?_ | refine g_ddel ?_ | refine g_star ?_ | refine g_dpop1 ?_ | refine g_dget2 ?_)
local macro_rules | `(tactic| walk_at "go") => `(tactic| repeat (first
  | walk_at "go1"
  | (refine g_var (by rfl) ?_)
  | (refine g_tup ?_)
  | (refine g_lst ?_)))
/-! ### steps at the attributes of this program -/
local macro_rules | `(tactic| walk_at "f1") => `(tactic| first
  | (with_reducible refine' ⟨_, _, _, _, _, rfl, ?x1, Txt.cl_Chest ?x0, Txt.na_Chest_kept_boxes ?x0, fChest_kb, ?x2⟩; (case x0 => assumption); (case x1 => walk_at "hl"))
  | (with_reducible refine' ⟨_, _, _, _, _, rfl, ?x1, Txt.cl_Chest ?x0, Txt.na_Chest_kept_pairs ?x0, fChest_kp, ?x2⟩; (case x0 => assumption); (case x1 => walk_at "hl"))
  | (with_reducible refine' ⟨_, _, _, _, _, rfl, ?x1, Txt.cl_Chest ?x0, Txt.na_Chest_next_box ?x0, fChest_nb, ?x2⟩; (case x0 => assumption); (case x1 => walk_at "hl"))
  | (with_reducible refine' ⟨_, _, _, _, _, rfl, ?x1, Txt.cl_Chest ?x0, Txt.na_Chest_next_pair ?x0, fChest_np, ?x2⟩; (case x0 => assumption); (case x1 => walk_at "hl"))
  | (with_reducible refine' ⟨_, _, _, _, _, rfl, ?x1, Txt.cl_Box ?x0, Txt.na_Box_slots ?x0, fBox_slots, ?x2⟩; (case x0 => assumption); (case x1 => walk_at "hl"))
  | (with_reducible refine' ⟨_, _, _, _, _, rfl, ?x1, Txt.cl_Box ?x0, Txt.na_Box_in_hands ?x0, fBox_hand, ?x2⟩; (case x0 => assumption); (case x1 => walk_at "hl"))
  | (with_reducible refine' ⟨_, _, _, _, _, rfl, ?x1, Txt.cl_Box ?x0, Txt.na_Box_deeds ?x0, fBox_deeds, ?x2⟩; (case x0 => assumption); (case x1 => walk_at "hl")))
local macro_rules | `(tactic| walk_at "m1") => `(tactic| (refine' ⟨_, _, _, rfl, ?x1, fChest_no (by decide +kernel) (by decide +kernel) (by decide +kernel) (by decide +kernel), ?x2⟩; (case x1 => walk_at "hl")))
local macro_rules | `(tactic| walk_at "gof") => `(tactic| repeat (first
  | walk_at "go1"
  | (refine g_var (by rfl) ?_)
  | (refine g_tup ?_)
  | (refine g_lst ?_)
  | walk_at "f1"))
local macro_rules | `(tactic| walk_at "errw") => `(tactic| first | exact .inl ⟨rfl, rfl⟩ | exact .inr (.inl ⟨rfl, rfl⟩) | exact .inr (.inr (⟨rfl, rfl⟩)))
local macro_rules | `(tactic| walk_at "ixt") => `(tactic| first
  | (refine' g_ixT (SqT.of ?x1) (at_of (j := 0) ?x2 ?x3) ?x4; (case x2 => rfl); (case x1 => walk_at "hl"); (case x3 => rfl))
  | (refine' g_ixT (SqT.of ?x1) (at_of (j := 1) ?x2 ?x3) ?x4; (case x2 => rfl); (case x1 => walk_at "hl"); (case x3 => rfl))
  | (refine' g_ixT (SqT.of ?x1) (at_of (j := 2) ?x2 ?x3) ?x4; (case x2 => rfl); (case x1 => walk_at "hl"); (case x3 => rfl))
  | (refine' g_ixT (SqT.of ?x1) (at_of (j := 3) ?x2 ?x3) ?x4; (case x2 => rfl); (case x1 => walk_at "hl"); (case x3 => rfl))
  | (refine' g_ixT (SqT.of ?x1) (at_of (j := 4) ?x2 ?x3) ?x4; (case x2 => rfl); (case x1 => walk_at "hl"); (case x3 => rfl)))
local macro_rules | `(tactic| walk_at "ixl") => `(tactic| first
  | (refine' g_ixL (SqL.of ?x1) (at_of (j := 0) ?x2 ?x3) ?x4; (case x2 => rfl); (case x1 => walk_at "hl"); (case x3 => rfl))
  | (refine' g_ixL (SqL.of ?x1) (at_of (j := 1) ?x2 ?x3) ?x4; (case x2 => rfl); (case x1 => walk_at "hl"); (case x3 => rfl))
  | (refine' g_ixL (SqL.of ?x1) (at_of (j := 2) ?x2 ?x3) ?x4; (case x2 => rfl); (case x1 => walk_at "hl"); (case x3 => rfl))
  | (refine' g_ixL (SqL.of ?x1) (at_of (j := 3) ?x2 ?x3) ?x4; (case x2 => rfl); (case x1 => walk_at "hl"); (case x3 => rfl))
  | (refine' g_ixL (SqL.of ?x1) (at_of (j := 4) ?x2 ?x3) ?x4; (case x2 => rfl); (case x1 => walk_at "hl"); (case x3 => rfl)))
local macro_rules | `(tactic| walk_at "str") => `(tactic| first
  | (with_reducible refine g_ite (fun _ => ?_) (fun c => absurd rfl c))
  | (refine g_ite (fun c => absurd c (by decide +kernel)) (fun _ => ?_)))
local macro_rules | `(tactic| walk_at "gos") => `(tactic| repeat (first
  | walk_at "go1"
  | (refine g_var (by rfl) ?_)
  | walk_at "f1"
  | walk_at "ixt"
  | walk_at "ixl"
  | (refine g_tup ?_)
  | (refine g_lst ?_)
  | walk_at "str"))
section
variable {P : Program} {w : World} {K : PySem.W.Frag} {mg : Str → Option Value} {base : Heap} {a : Ad}

/-! ### Box.__init__ -/
def spBoxInit (a : Ad) : Sp := fun vs H Q _ => ∃ (x dx : Addr) (n : Int), vs = [.ref x, .int n] ∧ H x = some (.ins a.Box dx []) ∧ 0 ≤ n ∧ n ≤ 9 ∧
  ∀ (l w : Addr) (H' : Hp), H l = none → H w = none → l ≠ w → (∀ b o, b ≠ x → H b = some o → H' b = some o) →
    H' x = some (.ins a.Box dx (fBox l true w)) → H' l = some (.lst (List.replicate n.toNat .non)) → H' w = some (.lst []) → Q .non H'
theorem ok_Box__init_ (T : Txt a K mg) : FnOk P w K mg base (CN P w) 1 a.f_Box__init_ a.fd_Box__init_ ["self", "size"] (spBoxInit a) := by
  refine okN T.F_Box__init_ sc_Box__init_ (fun vs H Q E h => ?_) (fun cdv A outer s H vs Q E hr h => ?_)
  · obtain ⟨x, dx, n, rfl, _⟩ := h; rfl
  · obtain ⟨x, dx, n, rfl, hx, n0, n9, k⟩ := h
    refine ⟨_, (pss_cons (ps_fld (pv 0) (pe_op op_rep (pe_lst (pa_cons pe_non pa_nil)) (pv 1)) rfl)
      (pss_cons (ps_fld (pv 0) pe_bl rfl)
      (pss_one (ps_fld (pv 0) (pe_lst pa_nil) rfl)))), ?_⟩
    try dsimp only [cxOf]
    walk_at "go"
    refine ⟨by decide, fun l0 h0 => ?_⟩
    walk_at "go"
    refine g_rep (xs := [.non]) upd_same n0 (by omega) (by decide) fun l hl => ?_
    walk_at "go"
    refine ⟨_, _, _, _, rfl, (by walk_at "hl"), T.cl_Box, T.na_Box_slots, by decide, ?_⟩
    walk_at "go"
    refine ⟨_, _, _, _, rfl, (by walk_at "hl"), T.cl_Box, T.na_Box_in_hands, putF_lt (n := 999) (by decide), ?_⟩
    walk_at "go"
    refine ⟨by decide, fun w hw => ?_⟩
    walk_at "go"
    refine ⟨_, _, _, _, rfl, (by walk_at "hl"), T.cl_Box, T.na_Box_deeds, putF_lt (n := 999) (putF_lt (n := 998) (by decide)), ?_⟩
    have f1 : H l = none := (none_upd hl).2
    have f2 : H w = none := (none_upd (none_upd (none_upd (none_upd hw).2).2).2).2
    have hlw : l ≠ w := (none_upd (none_upd (none_upd hw).2).2).1.symm
    have el : (List.replicate n.toNat [V.non]).flatten = List.replicate n.toNat V.non := by simp
    have hxl : x ≠ l := by walk_at "ne"
    have hxw : x ≠ w := by walk_at "ne"
    refine k l w _ f1 f2 hlw (fun b o nb hb => by walk_at "hl") upd_same (by rw [← el]; walk_at "hl") (by walk_at "hl")

/-! ### Chest.__init__ -/
def spChestInit (a : Ad) : Sp := fun vs H Q _ => ∃ (x dx : Addr), vs = [.ref x] ∧ H x = some (.ins a.Chest dx []) ∧
  ∀ (d1 d2 : Addr) (H' : Hp), H d1 = none → H d2 = none → d1 ≠ d2 → (∀ b o, b ≠ x → H b = some o → H' b = some o) →
    H' x = some (.ins a.Chest dx (fChest 0 0 d1 d2)) → H' d1 = some (.dK []) → H' d2 = some (.dK []) → Q .non H'
theorem ok_Chest__init_ (T : Txt a K mg) : FnOk P w K mg base (CN P w) 1 a.f_Chest__init_ a.fd_Chest__init_ ["self"] (spChestInit a) := by
  refine okN T.F_Chest__init_ sc_Chest__init_ (fun vs H Q E h => ?_) (fun cdv A outer s H vs Q E hr h => ?_)
  · obtain ⟨x, dx, rfl, _⟩ := h; rfl
  · obtain ⟨x, dx, rfl, hx, k⟩ := h
    refine ⟨_, (pss_cons (ps_fld (pv 0) pe_int rfl)
      (pss_cons (ps_fld (pv 0) pe_int rfl)
      (pss_cons (ps_fld (pv 0) pe_dnewK rfl)
      (pss_one (ps_fld (pv 0) pe_dnewK rfl))))), ?_⟩
    try dsimp only [cxOf]
    walk_at "go"
    refine ⟨_, _, _, _, rfl, (by walk_at "hl"), T.cl_Chest, T.na_Chest_next_box, by decide, ?_⟩
    walk_at "go"
    refine ⟨_, _, _, _, rfl, (by walk_at "hl"), T.cl_Chest, T.na_Chest_next_pair, putF_lt (n := 999) (by decide), ?_⟩
    walk_at "go"
    intro d1 h1
    walk_at "go"
    refine ⟨_, _, _, _, rfl, (by walk_at "hl"), T.cl_Chest, T.na_Chest_kept_boxes, putF_lt (n := 999) (putF_lt (n := 998) (by decide)), ?_⟩
    walk_at "go"
    intro d2 h2
    walk_at "go"
    refine ⟨_, _, _, _, rfl, (by walk_at "hl"), T.cl_Chest, T.na_Chest_kept_pairs, putF_lt (n := 999) (putF_lt (n := 998) (putF_lt (n := 997) (by decide))), ?_⟩
    have f1 : H d1 = none := (none_upd (none_upd h1).2).2
    have f2 : H d2 = none := (none_upd (none_upd (none_upd (none_upd h2).2).2).2).2
    have n12 : d1 ≠ d2 := (none_upd (none_upd h2).2).1.symm
    have n1 : x ≠ d1 := by walk_at "ne"
    have n2 : x ≠ d2 := by walk_at "ne"
    exact k d1 d2 _ f1 f2 n12 (fun b o nb hb => by walk_at "hl") upd_same (by walk_at "hl") (by walk_at "hl")

/-! ### _kept_box -/
def spKept (a : Ad) : Sp := fun vs H Q E => ∃ (p : Addr) (n : Int) (C : LCh), vs = [.ref p, .int n] ∧ CAt a.Chest a.Box H p C ∧
  (C.B.lookup n = none → E (.ref a.NoBox) none H) ∧ ∀ b, C.B.lookup n = some b → Q (.ref b.a) H
theorem ok_Chest_kept_box (T : Txt a K mg) : FnOk P w K mg base (CN P w) 1 a.f_Chest_kept_box a.fd_Chest_kept_box ["self", "box"] (spKept a) := by
  refine okN T.F_Chest_kept_box sc_Chest_kept_box (fun vs H Q E h => ?_) (fun cdv A outer s H vs Q E hr h => ?_)
  · obtain ⟨p, n, C, rfl, _⟩ := h; rfl
  · obtain ⟨p, n, C, rfl, hC, k1, k2⟩ := h
    have hu := hu_of hr
    have h1 := hC.ob
    have h2 := hC.d1
    refine ⟨_, (pss_cons (ps_if (pt_cmp (pc_dnotin hu (pv 1) (pe_fld (pv 0) rfl))) (pss_one (L2N.ps_raise (W := fun cls d _ H => E cls d H) rfl (L2N.takes_of rfl rfl rfl rfl) (pmk_N T.x_NoBox rfl pe_str))) pss_nil)
      (pss_one (ps_ret (pe_dget hu (pe_fld (pv 0) rfl) (pv 1) (fun _ _ => rfl))))), ?_⟩
    try dsimp only [cxOf]
    walk_at "gof"
    refine ⟨_, _, rfl, DGet.k (k := Sum.inl n) h2, ?_⟩
    cases e : C.B.lookup n with
    | none =>
      rw [kvB_none e]
      walk_at "gof"
      exact k1 e
    | some b =>
      rw [kvB_some e]
      walk_at "gof"
      exact ⟨_, _, rfl, by rw [← kvB_some e]; exact DGet.k (k := Sum.inl n) h2, k2 b e⟩

/-! ### _slots_with -/
def spSlotsWith (a : Ad) : Sp := fun vs H Q E => ∃ (p : Addr) (n s : Int) (C : LCh), vs = [.ref p, .int n, .int s] ∧ CAt a.Chest a.Box H p C ∧
  (C.B.lookup n = none → E (.ref a.NoBox) none H) ∧ ∀ b, C.B.lookup n = some b → ((s < 0 ∨ (b.vs.length : Int) ≤ s) → E (.ref a.NoSlot) none H) ∧ (0 ≤ s → s < (b.vs.length : Int) → Q (.ref b.l) H)
theorem ok_Chest_slots_with (T : Txt a K mg) : FnOk P w K mg base (CN P w) 2 a.f_Chest_slots_with a.fd_Chest_slots_with ["self", "box", "slot"] (spSlotsWith a) := by
  refine okN T.F_Chest_slots_with sc_Chest_slots_with (fun vs H Q E h => ?_) (fun cdv A outer s H vs Q E hr h => ?_)
  · obtain ⟨p, n, s, C, rfl, _⟩ := h; rfl
  · obtain ⟨p, n, s, C, rfl, hC, k1, k2⟩ := h
    have hu := hu_of hr
    have h1 := hC.ob
    have hr1 : Room 1 _ := hr.mono (by decide);
    refine ⟨_, (pss_cons (ps_set (i := 3) sc_Chest_slots_with.nd rfl (Or.inl rfl) (pe_fld (pe_meth (pv 0) T.cl_Chest T.m_Chest_kept_box (ok_Chest_kept_box T) hr1 T.b_Chest_kept_box .nil (L2N.passes_call (W := fun cls d _ H => E cls d H) (L2N.takes_of rfl rfl rfl rfl) (fun _ _ _ _ h => h)) (pa_cons (pv 1) pa_nil)) rfl))
      (pss_cons (ps_if (PW.pt (pw_or (pt_cmpR op_lt (pv 2) pe_int (nomark _)) (pw_or1 (pt_cmpR op_ge (pv 2) (pe_callB call_lenS (by rfl) T.no_len (by decide +kernel) (pa_cons (pv 3) pa_nil)) (nomark _))))) (pss_one (L2N.ps_raise (W := fun cls d _ H => E cls d H) rfl (L2N.takes_of rfl rfl rfl rfl) (pmk_N T.x_NoSlot rfl pe_str))) pss_nil)
      (pss_one (ps_ret (pv 3))))), ?_⟩
    try dsimp only [cxOf]
    walk_at "gof"
    walk_at "m1"
    walk_at "gof"
    refine ⟨p, n, C, rfl, hC, k1, fun b e => ?_⟩
    obtain ⟨k3, k4⟩ := k2 b e
    have hb := (hC.bx _ (lk_mem e)).ob
    have hl := (hC.bx _ (lk_mem e)).sl
    dsimp only at hb hl
    walk_at "gof"
    refine g_ite (fun c => ?_) (fun c => ?_)
    · walk_at "gof"
      exact k3 (.inl c)
    · walk_at "gof"
      refine g_lenL (SqL.of hl) ?_
      walk_at "gof"
      refine g_ite (fun c2 => ?_) (fun c2 => ?_)
      · walk_at "gof"
        exact k3 (.inr c2)
      · walk_at "gof"
        exact k4 (by omega) (by omega)

/-! ### make -/
def spMake (a : Ad) : Sp := fun vs H Q E => ∃ (p : Addr) (n : Int) (C : LCh), vs = [.ref p, .int n] ∧ CAt a.Chest a.Box H p C ∧
  ((n < 0 ∨ 9 < n) → E (.ref a.NoSlot) none H) ∧ (0 ≤ n → n ≤ 9 → C.B.length = 60 → E (.ref a.TooMany) none H) ∧
  (0 ≤ n → n ≤ 9 → C.B.length < 60 → ∀ (H' : Hp) (b : LBx), b.vs = List.replicate n.toNat .non → b.hand = true → b.ds = [] → (∀ c ∈ ownB b, H c = none) → Fr [p, C.d1] H H' →
    CAt a.Chest a.Box H' p { C with nb := C.nb + 1, B := C.B ++ [(C.nb, b)] } → Q (.int C.nb) H')
theorem ok_Chest_make (T : Txt a K mg) : FnOk P w K mg base (CN P w) 3 a.f_Chest_make a.fd_Chest_make ["self", "size"] (spMake a) := by
  refine okN T.F_Chest_make sc_Chest_make (fun vs H Q E h => ?_) (fun cdv A outer s H vs Q E hr h => ?_)
  · obtain ⟨p, n, C, rfl, _⟩ := h; rfl
  · obtain ⟨p, n, C, rfl, hC, k1, k2, k3⟩ := h
    have hu := hu_of hr
    have h1 := hC.ob
    have h2 := hC.d1
    have hr1 : Room 1 _ := hr.mono (by decide); have hr2 : Room 2 _ := hr.mono (by decide);
    refine ⟨_, (pss_cons (ps_if (PW.pt (pw_or (pt_cmpR op_lt (pv 1) pe_int (nomark _)) (pw_or1 (pt_cmpR op_gt (pv 1) (pe_glob (v := .int 9) rfl T.mg_LARGEST_SIZE ⟨_, rfl⟩) (nomark _))))) (pss_one (L2N.ps_raise (W := fun cls d _ H => E cls d H) rfl (L2N.takes_of rfl rfl rfl rfl) (pmk_N T.x_NoSlot rfl (pe_joined (PJ.cons pe_str (PJ.cons (pe_fmt (pe_glob (v := .int 9) rfl T.mg_LARGEST_SIZE ⟨_, rfl⟩)) (PJ.cons pe_str PJ.nil))))))) pss_nil)
      (pss_cons (ps_if (pt_cmpR op_ge (pe_callB call_lenD' (by rfl) T.no_len (by decide +kernel) (pa_cons (pe_fld (pv 0) rfl) pa_nil)) (pe_glob (v := .int 60) rfl T.mg_MOST_BOXES ⟨_, rfl⟩) (nomark _)) (pss_one (L2N.ps_raise (W := fun cls d _ H => E cls d H) rfl (L2N.takes_of rfl rfl rfl rfl) (pmk_N T.x_TooMany rfl (pe_joined (PJ.cons pe_str (PJ.cons (pe_fmt (pe_glob (v := .int 60) rfl T.mg_MOST_BOXES ⟨_, rfl⟩)) (PJ.cons pe_str PJ.nil))))))) pss_nil)
      (pss_cons (ps_set (i := 2) sc_Chest_make.nd rfl (Or.inl rfl) (pe_fld (pv 0) rfl))
      (pss_cons (ps_dput hu (pe_fld (pv 0) rfl) (pv 2) (pe_make T.mk_Box (ok_Box__init_ T) hr2 rfl T.mg_Box T.b_Box__init_ .nil pass0N (pa_cons (pv 1) pa_nil)) rfl)
      (pss_cons (ps_fld (pv 0) (pe_op op_add (pv 2) pe_int) rfl)
      (pss_one (ps_ret (pv 2)))))))), ?_⟩
    try dsimp only [cxOf]
    walk_at "gof"
    refine g_ite (fun c => ?_) (fun c => ?_)
    · walk_at "gof"
      exact k1 (.inl c)
    walk_at "gof"
    refine g_ite (fun c9 => ?_) (fun c9 => ?_)
    · walk_at "gof"
      exact k1 (.inr c9)
    walk_at "gof"
    refine g_lenD h2 ?_
    walk_at "gof"
    refine g_ite (fun cm => ?_) (fun cm => ?_)
    · walk_at "gof"
      rw [kvB_len] at cm
      exact k2 (by omega) (by omega) (by have := hC.sB; omega)
    rw [kvB_len] at cm
    walk_at "gof"
    intro x dx hx hdx hne
    refine ⟨x, dx, n, rfl, upd_same, by omega, by omega, fun l w H' hl hw hlw kp hx' hl' hw' => ⟨rfl, ?_⟩⟩
    have xl := none_upd hl
    have xw := none_upd hw
    have s0 : Same H H' := fun b o e => kp b o (ne_of_none e hx) (by rw [upd_ne (ne_of_none e hx), upd_ne (ne_of_none e hdx)]; exact e)
    have h1' := s0 _ _ h1
    have h2' := s0 _ _ h2
    walk_at "gof"
    refine ⟨_, _, rfl, DPut.k (k := Sum.inl C.nb) h2' (small1000 (by rw [kvB_len]; omega)), ?_⟩
    have npd : p ≠ C.d1 := fun z => by rw [← z, h1] at h2; cases h2
    walk_at "gof"
    refine ⟨_, _, _, _, rfl, (by walk_at "hl"), T.cl_Chest, T.na_Chest_next_box, (by show 4 < 1000; decide), ?_⟩
    walk_at "gof"
    have fx : H x = none := hx
    have fl : H l = none := (none_upd (none_upd hl).2).2
    have fw : H w = none := (none_upd (none_upd hw).2).2
    refine k3 (by omega) (by omega) (by omega) _ ⟨x, dx, l, w, List.replicate n.toNat .non, true, []⟩ rfl rfl rfl ?_ ?_ ?_
    · intro c hc
      simp only [ownB, List.mem_cons, List.not_mem_nil, or_false] at hc
      rcases hc with rfl | rfl | rfl <;> assumption
    · intro b o e nb
      simp only [List.mem_cons, List.not_mem_nil, or_false, not_or] at nb
      rw [upd_ne nb.1, upd_ne nb.2]
      exact s0 b o e
    · have nxp : p ≠ x := ne_of_none h1 fx
      have nxd : C.d1 ≠ x := ne_of_none h2 fx
      have nlp : p ≠ l := ne_of_none h1 fl
      have nld : C.d1 ≠ l := ne_of_none h2 fl
      have nwp : p ≠ w := ne_of_none h1 fw
      have nwd : C.d1 ≠ w := ne_of_none h2 fw
      have hd2 := hC.d2
      have nd := hC.nd
      have nd2 : C.d2 ≠ p ∧ C.d2 ≠ C.d1 := by
        unfold own at nd
        simp only [List.nodup_cons, List.mem_cons, not_or] at nd
        exact ⟨fun z => nd.1.2.1 z.symm, fun z => nd.2.1.1 z.symm⟩
      have inB : ∀ c, c ∈ ownBs C.B → c ≠ p ∧ c ≠ C.d1 := by
        unfold own at nd
        simp only [List.nodup_cons, List.mem_cons, not_or] at nd
        intro c hc
        exact ⟨fun z => nd.1.2.2 (z ▸ hc), fun z => nd.2.1.2 (z ▸ hc)⟩
      refine ⟨?_, ?_, ?_, ?_, ?_, ?_, ?_, hC.kR, hC.lR, ?_, hC.sR, ?_⟩
      · exact upd_same
      · rw [upd_ne npd.symm, upd_same, show V.ref x = V.ref (LBx.a ⟨x, dx, l, w, List.replicate n.toNat .non, true, []⟩) from rfl, kvB_put (fun e he => (hC.lB e he).2)]
      · rw [upd_ne nd2.1, upd_ne nd2.2]
        exact s0 _ _ hd2
      · intro e he
        rcases List.mem_append.mp he with he | he
        · refine (hC.bx e he).keep fun c o hc hh => ?_
          have := inB c (ownBs_mem.mpr ⟨e, he, by simpa [ownB] using hc⟩)
          rw [upd_ne this.1, upd_ne this.2]
          exact s0 _ _ hh
        · cases List.mem_singleton.mp he
          exact ⟨by walk_at "hl", by walk_at "hl", by walk_at "hl", by simp; omega⟩
      · show (p :: C.d1 :: C.d2 :: ownBs (C.B ++ [(C.nb, _)])).Nodup
        rw [ownBs_snoc]
        refine nd_app hC.nd ?_ ?_
        · simp only [ownB, List.nodup_cons, List.mem_cons, List.not_mem_nil, or_false, not_or, not_false_eq_true, List.nodup_nil, and_true]
          exact ⟨⟨xl.1.symm, xw.1.symm⟩, hlw⟩
        · intro c hc
          simp only [ownB, List.mem_cons, List.not_mem_nil, or_false] at hc
          rcases hc with rfl | rfl | rfl <;> exact hC.fresh (by assumption)
      · rw [List.map_append]
        exact pw_snoc hC.kB fun y hy => by
          obtain ⟨e, he, rfl⟩ := List.mem_map.mp hy
          exact (hC.lB e he).2
      · intro e he
        rcases List.mem_append.mp he with he | he
        · have := hC.lB e he
          exact ⟨this.1, by show e.1 < C.nb + 1; omega⟩
        · cases List.mem_singleton.mp he
          exact ⟨hC.nn.1, by show C.nb < C.nb + 1; omega⟩
      · simp; omega
      · exact ⟨by show 0 ≤ C.nb + 1; have := hC.nn.1; omega, hC.nn.2⟩
end
section
variable {P : Program} {w : World} {K : PySem.W.Frag} {mg : Str → Option Value} {base : Heap} {a : Ad}
/-! ### boxes, size, told, hands, will -/
def spBoxes (a : Ad) : Sp := fun vs H Q _ => ∃ (p : Addr) (C : LCh), vs = [.ref p] ∧ CAt a.Chest a.Box H p C ∧
  ∀ q, H q = none → Q (.ref q) (upd H q (.lst ((C.B.map (·.1)).map V.int)))
theorem ok_Chest_boxes (T : Txt a K mg) : FnOk P w K mg base (CN P w) 1 a.f_Chest_boxes a.fd_Chest_boxes ["self"] (spBoxes a) := by
  refine okN T.F_Chest_boxes sc_Chest_boxes (fun vs H Q E h => ?_) (fun cdv A outer s H vs Q E hr h => ?_)
  · obtain ⟨p, C, rfl, _⟩ := h; rfl
  · obtain ⟨p, C, rfl, hC, k⟩ := h
    have h1 := hC.ob
    have h2 := hC.d1
    refine ⟨_, (pss_one (ps_ret (pe_callB (call_sortedDI' rfl) (by rfl) T.no_sorted (by decide +kernel) (pa_cons (pe_fld (pv 0) rfl) pa_nil)))), ?_⟩
    try dsimp only [cxOf]
    walk_at "gof"
    refine ⟨_, _, C.B.map (·.1), rfl, .inl h2, kvB_keys _, (by rw [List.length_map]; have := hC.sB; omega), fun ys q pm srt hq => ?_⟩
    rw [perm_sorted pm srt hC.kB]
    exact k q hq

def spSize (a : Ad) : Sp := fun vs H Q E => ∃ (p : Addr) (n : Int) (C : LCh), vs = [.ref p, .int n] ∧ CAt a.Chest a.Box H p C ∧
  (C.B.lookup n = none → E (.ref a.NoBox) none H) ∧ ∀ b, C.B.lookup n = some b → Q (.int (b.vs.length : Int)) H
theorem ok_Chest_size (T : Txt a K mg) : FnOk P w K mg base (CN P w) 2 a.f_Chest_size a.fd_Chest_size ["self", "box"] (spSize a) := by
  refine okN T.F_Chest_size sc_Chest_size (fun vs H Q E h => ?_) (fun cdv A outer s H vs Q E hr h => ?_)
  · obtain ⟨p, n, C, rfl, _⟩ := h; rfl
  · obtain ⟨p, n, C, rfl, hC, k1, k2⟩ := h
    have hu := hu_of hr
    have h1 := hC.ob
    have hr1 : Room 1 _ := hr.mono (by decide);
    refine ⟨_, (pss_one (ps_ret (pe_callB call_lenS (by rfl) T.no_len (by decide +kernel) (pa_cons (pe_fld (pe_meth (pv 0) T.cl_Chest T.m_Chest_kept_box (ok_Chest_kept_box T) hr1 T.b_Chest_kept_box .nil (L2N.passes_call (W := fun cls d _ H => E cls d H) (L2N.takes_of rfl rfl rfl rfl) (fun _ _ _ _ h => h)) (pa_cons (pv 1) pa_nil)) rfl) pa_nil)))), ?_⟩
    try dsimp only [cxOf]
    walk_at "gof"
    walk_at "m1"
    walk_at "gof"
    refine ⟨p, n, C, rfl, hC, k1, fun b e => ?_⟩
    have hb := (hC.bx _ (lk_mem e)).ob
    have hl := (hC.bx _ (lk_mem e)).sl
    dsimp only at hb hl
    walk_at "gof"
    refine g_lenL (SqL.of hl) ?_
    exact k2 b e

def spTold (a : Ad) : Sp := fun vs H Q E => ∃ (p : Addr) (n s : Int) (C : LCh), vs = [.ref p, .int n, .int s] ∧ CAt a.Chest a.Box H p C ∧
  (C.B.lookup n = none → E (.ref a.NoBox) none H) ∧ ∀ b, C.B.lookup n = some b → ((s < 0 ∨ (b.vs.length : Int) ≤ s) → E (.ref a.NoSlot) none H) ∧
    (0 ≤ s → s < (b.vs.length : Int) → ∀ v, b.vs[s.toNat]? = some v → Q v H)
theorem ok_Chest_told (T : Txt a K mg) : FnOk P w K mg base (CN P w) 3 a.f_Chest_told a.fd_Chest_told ["self", "box", "slot"] (spTold a) := by
  refine okN T.F_Chest_told sc_Chest_told (fun vs H Q E h => ?_) (fun cdv A outer s H vs Q E hr h => ?_)
  · obtain ⟨p, n, s, C, rfl, _⟩ := h; rfl
  · obtain ⟨p, n, s, C, rfl, hC, k1, k2⟩ := h
    have h1 := hC.ob
    have hr2 : Room 2 _ := hr.mono (by decide);
    refine ⟨_, (pss_one (ps_ret (pe_ix ix_list (pe_meth (pv 0) T.cl_Chest T.m_Chest_slots_with (ok_Chest_slots_with T) hr2 T.b_Chest_slots_with .nil (L2N.passes_call (W := fun cls d _ H => E cls d H) (L2N.takes_of rfl rfl rfl rfl) (fun _ _ _ _ h => h)) (pa_cons (pv 1) (pa_cons (pv 2) pa_nil))) (pv 2) (fun _ _ => rfl)))), ?_⟩
    try dsimp only [cxOf]
    walk_at "gof"
    walk_at "m1"
    walk_at "gof"
    refine ⟨p, n, s, C, rfl, hC, k1, fun b e => ?_⟩
    obtain ⟨k3, k4⟩ := k2 b e
    refine ⟨k3, fun s0 s1 => ?_⟩
    have hl := (hC.bx _ (lk_mem e)).sl
    dsimp only at hl
    have hs : s.toNat < b.vs.length := by omega
    walk_at "gof"
    refine g_ixL (SqL.of hl) (at_of (j := s.toNat) (by omega) (List.getElem?_eq_getElem hs)) ?_
    exact k4 s0 s1 _ (List.getElem?_eq_getElem hs)

def spWill (a : Ad) : Sp := fun vs H Q E => ∃ (p : Addr) (n : Int) (C : LCh), vs = [.ref p, .int n] ∧ CAt a.Chest a.Box H p C ∧
  (C.B.lookup n = none → E (.ref a.NoBox) none H) ∧ ∀ b, C.B.lookup n = some b → ∀ q, H q = none → Q (.ref q) (upd H q (.lst b.ds))
theorem ok_Chest_will (T : Txt a K mg) : FnOk P w K mg base (CN P w) 2 a.f_Chest_will a.fd_Chest_will ["self", "box"] (spWill a) := by
  refine okN T.F_Chest_will sc_Chest_will (fun vs H Q E h => ?_) (fun cdv A outer s H vs Q E hr h => ?_)
  · obtain ⟨p, n, C, rfl, _⟩ := h; rfl
  · obtain ⟨p, n, C, rfl, hC, k1, k2⟩ := h
    have hu := hu_of hr
    have h1 := hC.ob
    have hr1 : Room 1 _ := hr.mono (by decide);
    refine ⟨_, (pss_one (ps_ret (pe_callTy call_listS (by rfl) T.no_list (by decide +kernel) (pa_cons (pe_fld (pe_meth (pv 0) T.cl_Chest T.m_Chest_kept_box (ok_Chest_kept_box T) hr1 T.b_Chest_kept_box .nil (L2N.passes_call (W := fun cls d _ H => E cls d H) (L2N.takes_of rfl rfl rfl rfl) (fun _ _ _ _ h => h)) (pa_cons (pv 1) pa_nil)) rfl) pa_nil)))), ?_⟩
    try dsimp only [cxOf]
    walk_at "gof"
    walk_at "m1"
    walk_at "gof"
    refine ⟨p, n, C, rfl, hC, k1, fun b e => ?_⟩
    have hb := (hC.bx _ (lk_mem e)).ob
    have hl := (hC.bx _ (lk_mem e)).wl
    dsimp only at hb hl
    walk_at "gof"
    refine g_listL (SqL.of hl) fun q hq => ?_
    exact k2 b e q hq

def spHands (a : Ad) : Sp := fun vs H Q _ => ∃ (p : Addr) (C : LCh), vs = [.ref p] ∧ CAt a.Chest a.Box H p C ∧
  ∀ q H', H q = none → Same H H' → H' q = some (.lst (((C.B.filter fun e => e.2.hand).map (·.1)).map V.int)) → Q (.ref q) H'
theorem ok_Chest_hands (T : Txt a K mg) : FnOk P w K mg base (CN P w) 2 a.f_Chest_hands a.fd_Chest_hands ["self"] (spHands a) := by
  refine okN T.F_Chest_hands sc_Chest_hands (fun vs H Q E h => ?_) (fun cdv A outer s H vs Q E hr h => ?_)
  · obtain ⟨p, C, rfl, _⟩ := h; rfl
  · obtain ⟨p, C, rfl, hC, k⟩ := h
    have hu := hu_of hr
    have h1 := hC.ob
    have h2 := hC.d1
    have hr1 : Room 1 _ := hr.mono (by decide);
    refine ⟨_, (pss_one (ps_ret (pe_lc (own := [("box", 1)]) (g := gName 1) (tt := (tB (tFld K (tDGet (tFld K (tVar 0) "kept_boxes") (tVar 1)) "in_hands"))) (te := (tVar 1)) (by rfl) sc_Chest_hands.nd (pi_list (pe_meth0 (pv 0) T.cl_Chest T.m_Chest_boxes (ok_Chest_boxes T) hr1 T.b_Chest_boxes .nil pass0N)) (blkOk_by (own := [("box", 1)]) (N := N_Chest_hands) (sc := defScope s_Chest_hands) (by decide +kernel)) (fun _ _ _ _ _ => pg_name (i := 1) sc_Chest_hands.nd rfl (Or.inl rfl)) (fun _ _ _ _ _ => pts_one (pt_val (pe_fld (pe_dget hu (pe_fld (pv 0) rfl) (pv 1) (fun _ _ => rfl)) rfl))) (fun _ _ _ _ _ => (pv 1))))), ?_⟩
    try dsimp only [cxOf]
    walk_at "gof"
    walk_at "m1"
    walk_at "gof"
    refine ⟨p, C, rfl, hC, fun q hq => ?_⟩
    refine ⟨q, rfl, ⟨_, SqL.of upd_same⟩, fun D hD => lc_list (K := K) (a := q) (xs := (C.B.map (·.1)).map V.int)
      (fun i H1 => Same H H1 ∧ H1 q = some (.lst ((C.B.map (·.1)).map V.int)) ∧ H1 D = some (.lst ((((C.B.take i).filter fun e => e.2.hand).map (·.1)).map V.int))) ?_ (fun i H1 _ h => SqL.of h.2.1) ?_ ?_⟩
    · refine ⟨fun b o e => by walk_at "hl", by walk_at "hl", upd_same⟩
    · rintro i x H1 hx ⟨f1, f2, f3⟩
      rw [List.map_map, List.getElem?_map] at hx
      obtain ⟨⟨n, b⟩, hb, rfl⟩ := Option.map_eq_some_iff.mp hx
      have hm := List.mem_of_getElem? hb
      have e := lk_of_mem hC.kB hm
      have h1' := f1 _ _ h1
      have h2' := f1 _ _ h2
      have h3' := f1 _ _ (hC.bx _ hm).ob
      have hD' : D ≠ q := (none_upd hD).1
      walk_at "go"
      refine ⟨rfl, ?_⟩
      walk_at "gof"
      refine ⟨_, _, rfl, by rw [← kvB_some e]; exact DGet.k (k := Sum.inl n) h2', ?_⟩
      walk_at "gof"
      refine g_iteB (fun c => ?_) (fun c => ?_)
      · walk_at "gof"
        refine ⟨_, f3, ?_, fun b o eb => ?_, ?_, ?_⟩
        · have := (List.length_filter_le (fun e : Int × LBx => e.2.hand) (C.B.take i))
          have := hC.sB
          refine small1000 ?_
          rw [List.length_map, List.length_map]
          have : (C.B.take i).length ≤ C.B.length := by rw [List.length_take]; omega
          omega
        · rw [upd_ne (ne_of_none (Same.new hq _ _ eb) hD)]
          exact f1 b o eb
        · rw [upd_ne hD'.symm]; exact f2
        · rw [upd_same, take_snoc hb, List.filter_append, List.map_append, List.map_append]
          have c : b.hand = true := c
          simp [List.filter, c]
      · refine ⟨f1, f2, ?_⟩
        rw [f3, take_snoc hb, List.filter_append, List.map_append, List.map_append]
        have c : b.hand = false := c
        simp [List.filter, c]
    · rintro H1 ⟨f1, f2, f3⟩
      rw [List.length_map, List.length_map, List.take_length] at f3
      exact k D H1 (none_upd hD).2 f1 f3
end
section
variable {P : Program} {w : World} {K : PySem.W.Frag} {mg : Str → Option Value} {base : Heap} {a : Ad}
/-! ### the class of an error, by its word -/
def ErrW (a : Ad) (D : Addr) (wd : Str) : Prop := (D = a.NoSlot ∧ wd = "slot") ∨ (D = a.TooMany ∧ wd = "many") ∨ (D = a.NoBox ∧ wd = "box")
theorem ErrW.ec (T : Txt a K mg) {D : Addr} {wd : Str} (h : ErrW a D wd) : ExcC K D := by
  rcases h with ⟨rfl, _⟩ | ⟨rfl, _⟩ | ⟨rfl, _⟩ <;> first | exact T.ec_NoSlot | exact T.ec_TooMany | exact T.ec_NoBox
theorem ErrW.em (T : Txt a K mg) {D : Addr} {wd : Str} (h : ErrW a D wd) : PySem.W.exmOne K (.ref D) (.ref a.WillError) = some true := by
  rcases h with ⟨rfl, _⟩ | ⟨rfl, _⟩ | ⟨rfl, _⟩ <;> first | exact T.em_NoSlot | exact T.em_TooMany | exact T.em_NoBox
def spClass (a : Ad) : Addr × Obj → Sp := fun p vs H Q _ => vs = [.ref p.1] ∧ (∃ us, p.2.data = .fields us) ∧ ∃ (D : Addr) (wd : Str), Zc (.ref D) none p.2 ∧ ErrW a D wd ∧ ∀ H', Same H H' → Q (.str wd) H'
theorem ok_law_class (T : Txt a K mg) : FnE P w K mg base (CN P w) 1 a.f_law_class a.fd_law_class ["_law_e"] (spClass a) := by
  refine fn_ofE T.F_law_class sc_law_class (fun p vs H Q E h => ?_) (fun cdv A outer s H vs Q E pp hot hr h => ?_)
  · obtain ⟨rfl, _⟩ := h; rfl
  · obtain ⟨rfl, hf, D, wd, hz, hD, k⟩ := h
    have ec : ExcC K D := hD.ec T
    refine ⟨_, (pss_cons (ps_set (i := 1) sc_law_class.nd rfl (Or.inl rfl) (pe_lst pa_nil))
      (pss_cons (ps_if (pt_val (pe_callB (call_isP (p := pp) ec hz hf List.mem_cons_self) (by rfl) T.no_isinstance (by decide +kernel) (pa_cons (pv 0) (pa_cons (pe_glob (v := .ref a.NoBox) rfl T.mg_NoBox rfl) pa_nil)))) (pss_one (ps_expr (pe_bm PySem.F.plainAttrs_list PySem.F.slot_list_append PySem.F.type_list_append mt_append (pv 1) (pa_cons pe_str pa_nil)))) pss_nil)
      (pss_cons (ps_if (pt_val (pe_callB (call_isP (p := pp) ec hz hf List.mem_cons_self) (by rfl) T.no_isinstance (by decide +kernel) (pa_cons (pv 0) (pa_cons (pe_glob (v := .ref a.NoSlot) rfl T.mg_NoSlot rfl) pa_nil)))) (pss_one (ps_expr (pe_bm PySem.F.plainAttrs_list PySem.F.slot_list_append PySem.F.type_list_append mt_append (pv 1) (pa_cons pe_str pa_nil)))) pss_nil)
      (pss_cons (ps_if (pt_val (pe_callB (call_isP (p := pp) ec hz hf List.mem_cons_self) (by rfl) T.no_isinstance (by decide +kernel) (pa_cons (pv 0) (pa_cons (pe_glob (v := .ref a.NoHand) rfl T.mg_NoHand rfl) pa_nil)))) (pss_one (ps_expr (pe_bm PySem.F.plainAttrs_list PySem.F.slot_list_append PySem.F.type_list_append mt_append (pv 1) (pa_cons pe_str pa_nil)))) pss_nil)
      (pss_cons (ps_if (pt_val (pe_callB (call_isP (p := pp) ec hz hf List.mem_cons_self) (by rfl) T.no_isinstance (by decide +kernel) (pa_cons (pv 0) (pa_cons (pe_glob (v := .ref a.NoPair) rfl T.mg_NoPair rfl) pa_nil)))) (pss_one (ps_expr (pe_bm PySem.F.plainAttrs_list PySem.F.slot_list_append PySem.F.type_list_append mt_append (pv 1) (pa_cons pe_str pa_nil)))) pss_nil)
      (pss_cons (ps_if (pt_val (pe_callB (call_isP (p := pp) ec hz hf List.mem_cons_self) (by rfl) T.no_isinstance (by decide +kernel) (pa_cons (pv 0) (pa_cons (pe_glob (v := .ref a.NoWill) rfl T.mg_NoWill rfl) pa_nil)))) (pss_one (ps_expr (pe_bm PySem.F.plainAttrs_list PySem.F.slot_list_append PySem.F.type_list_append mt_append (pv 1) (pa_cons pe_str pa_nil)))) pss_nil)
      (pss_cons (ps_if (pt_val (pe_callB (call_isP (p := pp) ec hz hf List.mem_cons_self) (by rfl) T.no_isinstance (by decide +kernel) (pa_cons (pv 0) (pa_cons (pe_glob (v := .ref a.TooMany) rfl T.mg_TooMany rfl) pa_nil)))) (pss_one (ps_expr (pe_bm PySem.F.plainAttrs_list PySem.F.slot_list_append PySem.F.type_list_append mt_append (pv 1) (pa_cons pe_str pa_nil)))) pss_nil)
      (pss_cons (ps_if (pt_val (pe_callB (call_isP (p := pp) ec hz hf List.mem_cons_self) (by rfl) T.no_isinstance (by decide +kernel) (pa_cons (pv 0) (pa_cons (pe_glob (v := .ref a.NoText) rfl T.mg_NoText rfl) pa_nil)))) (pss_one (ps_expr (pe_bm PySem.F.plainAttrs_list PySem.F.slot_list_append PySem.F.type_list_append mt_append (pv 1) (pa_cons pe_str pa_nil)))) pss_nil)
      (pss_cons (ps_if (PW.pt (pw_and (pt_cmpR op_eq (pe_callB call_lenS (by rfl) T.no_len (by decide +kernel) (pa_cons (pv 1) pa_nil)) pe_int (nomark _)) (pw_and1 (pt_val (pe_callB (call_isP (p := pp) ec hz hf List.mem_cons_self) (by rfl) T.no_isinstance (by decide +kernel) (pa_cons (pv 0) (pa_cons (pe_bltn (v := .ty "ValueError") (by rfl) T.no_ValueError (by decide +kernel) rfl) pa_nil))))))) (pss_one (ps_ret (pe_ix ix_list (pv 1) pe_int (fun _ _ => rfl)))) pss_nil)
      (pss_one (ps_ret pe_str))))))))))), ?_⟩
    dsimp only [L2H.cxH, cxOf]
    rcases hD with ⟨rfl, rfl⟩ | ⟨rfl, rfl⟩ | ⟨rfl, rfl⟩
    · walk_at "go"
      refine ⟨by decide, fun l hl => ?_⟩
      walk_at "go"
      refine g_isE T.is_NoSlot_NoBox ?_
      walk_at "go"
      refine g_isE T.is_NoSlot_NoSlot ?_
      walk_at "go"
      refine ⟨.inl ⟨rfl, _, SqL.of upd_same⟩, ?_⟩
      walk_at "go"
      refine g_append upd_same (by decide) ?_
      walk_at "go"
      refine g_isE T.is_NoSlot_NoHand ?_
      walk_at "go"
      refine g_isE T.is_NoSlot_NoPair ?_
      walk_at "go"
      refine g_isE T.is_NoSlot_NoWill ?_
      walk_at "go"
      refine g_isE T.is_NoSlot_TooMany ?_
      walk_at "go"
      refine g_isE T.is_NoSlot_NoText ?_
      walk_at "go"
      refine g_lenL (SqL.of upd_same) ?_
      walk_at "go"
      refine g_isET T.is_NoSlot_ValueError ?_
      walk_at "go"
      refine g_ixL (SqL.of upd_same) (at_of (j := 0) rfl rfl) ?_
      exact k _ (by rw [upd_upd]; exact Same.new hl)
    · walk_at "go"
      refine ⟨by decide, fun l hl => ?_⟩
      walk_at "go"
      refine g_isE T.is_TooMany_NoBox ?_
      walk_at "go"
      refine g_isE T.is_TooMany_NoSlot ?_
      walk_at "go"
      refine g_isE T.is_TooMany_NoHand ?_
      walk_at "go"
      refine g_isE T.is_TooMany_NoPair ?_
      walk_at "go"
      refine g_isE T.is_TooMany_NoWill ?_
      walk_at "go"
      refine g_isE T.is_TooMany_TooMany ?_
      walk_at "go"
      refine ⟨.inl ⟨rfl, _, SqL.of upd_same⟩, ?_⟩
      walk_at "go"
      refine g_append upd_same (by decide) ?_
      walk_at "go"
      refine g_isE T.is_TooMany_NoText ?_
      walk_at "go"
      refine g_lenL (SqL.of upd_same) ?_
      walk_at "go"
      refine g_isET T.is_TooMany_ValueError ?_
      walk_at "go"
      refine g_ixL (SqL.of upd_same) (at_of (j := 0) rfl rfl) ?_
      exact k _ (by rw [upd_upd]; exact Same.new hl)
    · walk_at "go"
      refine ⟨by decide, fun l hl => ?_⟩
      walk_at "go"
      refine g_isE T.is_NoBox_NoBox ?_
      walk_at "go"
      refine ⟨.inl ⟨rfl, _, SqL.of upd_same⟩, ?_⟩
      walk_at "go"
      refine g_append upd_same (by decide) ?_
      walk_at "go"
      refine g_isE T.is_NoBox_NoSlot ?_
      walk_at "go"
      refine g_isE T.is_NoBox_NoHand ?_
      walk_at "go"
      refine g_isE T.is_NoBox_NoPair ?_
      walk_at "go"
      refine g_isE T.is_NoBox_NoWill ?_
      walk_at "go"
      refine g_isE T.is_NoBox_TooMany ?_
      walk_at "go"
      refine g_isE T.is_NoBox_NoText ?_
      walk_at "go"
      refine g_lenL (SqL.of upd_same) ?_
      walk_at "go"
      refine g_isET T.is_NoBox_ValueError ?_
      walk_at "go"
      refine g_ixL (SqL.of upd_same) (at_of (j := 0) rfl rfl) ?_
      exact k _ (by rw [upd_upd]; exact Same.new hl)

/-- .. as the suite knows it -/
def spErr (a : Ad) (ea : Addr) (cls : Value) (d : Option Addr) : Sp := fun vs H Q _ => vs = [.ref ea] ∧ ∃ (D : Addr) (wd : Str), cls = .ref D ∧ d = none ∧ ErrW a D wd ∧ ∀ H', Same H H' → Q (.str wd) H'
theorem spErr_to {ea : Addr} {oe : Obj} {cls : Value} {d : Option Addr} (hz : L2N.Zn cls d oe) (hf : ∃ us, oe.data = .fields us) : ∀ vs H Q, spErr a ea cls d vs H Q E0 → spClass a (ea, oe) vs H Q E0 := by
  rintro vs H Q ⟨h1, D, wd, rfl, rfl, hD, k⟩
  exact ⟨h1, hf, D, wd, hz.zc, hD, k⟩

end
section
variable {P : Program} {w : World} {K : PySem.W.Frag} {mg : Str → Option Value} {base : Heap} {a : Ad}
/-! ### the law's helpers -/
def cellAt (ns : List Int) (k : Int) : Int := (ns[k.toNat]?).getD 0
def spCellAt (K : PySem.W.Frag) : Sp := fun vs H Q _ => ∃ (p : Addr) (ns : List Int) (k : Int), vs = [.ref p, .int k] ∧ SqL K H p (ns.map V.int) ∧ 0 ≤ k ∧ Q (.int (cellAt ns k)) H
theorem ok_law_cell_at (T : Txt a K mg) : FnOk P w K mg base (CN P w) 1 a.f_law_cell_at a.fd_law_cell_at ["_law_script", "_law_k"] (spCellAt K) := by
  refine okN T.F_law_cell_at sc_law_cell_at (fun vs H Q E h => ?_) (fun cdv A outer s H vs Q E hr h => ?_)
  · obtain ⟨p, ns, k, rfl, _⟩ := h; rfl
  · obtain ⟨p, ns, k, rfl, hs, h0, kq⟩ := h
    refine ⟨_, (pss_cons (ps_if (pt_cmpR op_lt (pv 1) (pe_callB call_lenS (by rfl) T.no_len (by decide +kernel) (pa_cons (pv 0) pa_nil)) (nomark _)) (pss_one (ps_ret (pe_ix ix_list (pv 0) (pv 1) (fun _ _ => rfl)))) pss_nil)
      (pss_one (ps_ret pe_int))), ?_⟩
    try dsimp only [cxOf]
    walk_at "gof"
    refine g_lenL hs ?_
    walk_at "gof"
    unfold cellAt at kq
    refine g_ite (fun c => ?_) (fun c => ?_)
    · rw [List.length_map] at c
      have hk : k.toNat < ns.length := by omega
      rw [List.getElem?_eq_getElem hk] at kq
      walk_at "gof"
      exact g_ixL hs (at_of (j := k.toNat) (by omega) (by rw [List.getElem?_map, List.getElem?_eq_getElem hk]; rfl)) kq
    · rw [List.length_map] at c
      rw [List.getElem?_eq_none (by omega)] at kq
      walk_at "gof"
      exact kq

def spWhole : Sp := fun vs H Q _ => ∃ (i : Int), vs = [.int i] ∧ Q (.bl true) H
theorem ok_law_whole (T : Txt a K mg) : FnOk P w K mg base (CN P w) 1 a.f_law_whole a.fd_law_whole ["_law_found"] spWhole := by
  refine okN T.F_law_whole sc_law_whole (fun vs H Q E h => ?_) (fun cdv A outer s H vs Q E hr h => ?_)
  · obtain ⟨i, rfl, _⟩ := h; rfl
  · obtain ⟨i, rfl, kq⟩ := h
    refine ⟨_, (pss_one (ps_ret (pe_and (pe_callB call_isi (by rfl) T.no_isinstance (by decide +kernel) (pa_cons (pv 0) (pa_cons (pe_bltn (v := .ty "int") (by rfl) T.no_int (by decide +kernel) rfl) pa_nil))) (pe_one (pe_not (pe_callB call_isi (by rfl) T.no_isinstance (by decide +kernel) (pa_cons (pv 0) (pa_cons (pe_bltn (v := .ty "bool") (by rfl) T.no_bool (by decide +kernel) rfl) pa_nil)))))))), ?_⟩
    try dsimp only [cxOf]
    walk_at "gof"
    refine g_isiI (TyOf.int i) (kit_ty (r := true) (by decide +kernel)) ?_
    walk_at "gof"
    refine g_isiI (TyOf.int i) (kit_ty (r := false) (by decide +kernel)) ?_
    walk_at "gof"
    exact kq

def someL : List Int := [99991, 99989, 99971, 99961, 99929, 99923, 99907, 99901, 99881, 99877, 99871]
def mixA (c k : Int) : Int := ((c + 7 * k) * 48271).fmod (cellAt someL (k % 11))
def mixF (c k m : Int) : Int := ((mixA c k * mixA c k * 7 + mixA c k + k) % 1000003).fmod m
theorem mixF_in {c k m : Int} (h : 0 < m) : 0 ≤ mixF c k m ∧ mixF c k m < m := by
  unfold mixF
  rw [Int.fmod_eq_emod_of_nonneg _ (by omega)]
  exact ⟨Int.emod_nonneg _ (by omega), Int.emod_lt_of_pos _ h⟩
theorem someL_in {k : Int} (h0 : 0 ≤ k) (h1 : k < 11) : someL[k.toNat]? = some (cellAt someL k) ∧ 0 < cellAt someL k ∧ cellAt someL k ≤ 100000 := by
  have : k = 0 ∨ k = 1 ∨ k = 2 ∨ k = 3 ∨ k = 4 ∨ k = 5 ∨ k = 6 ∨ k = 7 ∨ k = 8 ∨ k = 9 ∨ k = 10 := by omega
  rcases this with rfl | rfl | rfl | rfl | rfl | rfl | rfl | rfl | rfl | rfl | rfl <;> exact ⟨rfl, by decide, by decide⟩
def spMixed (K : PySem.W.Frag) : Sp := fun vs H Q _ => ∃ (c k m : Int), vs = [.int c, .int k, .int m] ∧ 0 < m ∧ ∀ H', Same H H' → Q (.int (mixF c k m)) H'
theorem ok_law_mixed (T : Txt a K mg) : FnOk P w K mg base (CN P w) 1 a.f_law_mixed a.fd_law_mixed ["_law_cell", "_law_k", "_law_many"] (spMixed K) := by
  refine okN T.F_law_mixed sc_law_mixed (fun vs H Q E h => ?_) (fun cdv A outer s H vs Q E hr h => ?_)
  · obtain ⟨c, k, m, rfl, _⟩ := h; rfl
  · obtain ⟨c, k, m, rfl, hm, kq⟩ := h
    refine ⟨_, (pss_cons (ps_set (i := 3) sc_law_mixed.nd rfl (Or.inl rfl) (pe_lst (pa_cons pe_int (pa_cons pe_int (pa_cons pe_int (pa_cons pe_int (pa_cons pe_int (pa_cons pe_int (pa_cons pe_int (pa_cons pe_int (pa_cons pe_int (pa_cons pe_int (pa_cons pe_int pa_nil)))))))))))))
      (pss_cons (ps_set (i := 4) sc_law_mixed.nd rfl (Or.inl rfl) (pe_op op_modN (pe_op op_mul (pe_op op_add (pv 0) (pe_op op_mul pe_int (pv 1))) pe_int) (pe_ix ix_list (pv 3) (pe_op op_mod (pv 1) pe_int) (fun _ _ => rfl))))
      (pss_one (ps_ret (pe_op op_modN (pe_op op_mod (pe_op op_add (pe_op op_add (pe_op op_mul (pe_op op_mul (pv 4) (pv 4)) pe_int) (pv 4)) (pv 1)) pe_int) (pv 2)))))), ?_⟩
    try dsimp only [cxOf]
    walk_at "gof"
    refine ⟨by decide, fun l hl => ?_⟩
    obtain ⟨e1, e2, e3⟩ := someL_in (k := k % 11) (Int.emod_nonneg _ (by decide)) (Int.emod_lt_of_pos _ (by decide))
    walk_at "gof"
    refine g_rI (by exact .inl ⟨by decide, by decide⟩) ?_
    walk_at "gof"
    refine g_rI (by exact .inr ⟨by decide, by decide⟩) ?_
    walk_at "gof"
    refine g_rI (by decide) ?_
    refine g_ixL (xs := someL.map V.int) (v := .int (cellAt someL (k % 11))) (SqL.of upd_same) (at_of (j := (k % 11).toNat) (by omega) (by rw [List.getElem?_map, e1]; rfl)) ?_
    refine g_rI (by omega) ?_
    have eA : ((c + 7 * k) * 48271).fmod (cellAt someL (k % 11)) = mixA c k := rfl
    rw [eA]
    have b1 : 0 ≤ mixA c k ∧ mixA c k < 100000 := by
      unfold mixA
      rw [Int.fmod_eq_emod_of_nonneg _ (by omega)]
      have := Int.emod_nonneg ((c + 7 * k) * 48271) (b := cellAt someL (k % 11)) (by omega)
      have := Int.emod_lt_of_pos ((c + 7 * k) * 48271) (b := cellAt someL (k % 11)) (by omega)
      omega
    walk_at "gof"
    refine g_rI (by exact .inl ⟨by omega, by omega⟩) ?_
    walk_at "gof"
    refine g_rI (by exact .inr ⟨by decide, by decide⟩) ?_
    walk_at "gof"
    refine g_rI (by decide) ?_
    walk_at "gof"
    refine g_rI (by omega) ?_
    exact kq _ (Same.new hl)

def spNumbers : Sp := fun vs H Q _ => ∃ (p q : Addr) (ns : List Int), vs = [.ref p, .ref q] ∧ H p = some (.lst (ns.map V.int)) ∧ H q = some (.lst (ns.map V.int)) ∧ ns.length ≤ 1000 ∧ Q (.bl true) H
theorem ok_law_numbers (T : Txt a K mg) : FnOk P w K mg base (CN P w) 2 a.f_law_numbers a.fd_law_numbers ["_law_found", "_law_due"] spNumbers := by
  refine okN T.F_law_numbers sc_law_numbers (fun vs H Q E h => ?_) (fun cdv A outer s H vs Q E hr h => ?_)
  · obtain ⟨p, q, ns, rfl, _⟩ := h; rfl
  · obtain ⟨p, q, ns, rfl, hp, hq, hn, kq⟩ := h
    have hr1 : Room 1 _ := hr.mono (by decide);
    refine ⟨_, (pss_cons (ps_if (PW.pt (pw_or (pt_not (pt_val (pe_callB call_isi (by rfl) T.no_isinstance (by decide +kernel) (pa_cons (pv 0) (pa_cons (pe_bltn (v := .ty "list") (by rfl) T.no_list (by decide +kernel) rfl) pa_nil))))) (pw_or1 (pt_cmpR op_ne (pe_callB call_lenS (by rfl) T.no_len (by decide +kernel) (pa_cons (pv 0) pa_nil)) (pe_callB call_lenS (by rfl) T.no_len (by decide +kernel) (pa_cons (pv 1) pa_nil)) (nomark _))))) (pss_one (ps_ret pe_bl)) pss_nil)
      (pss_cons (ps_for PassesOwn.leaving rfl (pi_range1 (by rfl) T.no_range (pa_cons (pe_callB call_lenS (by rfl) T.no_len (by decide +kernel) (pa_cons (pv 1) pa_nil)) pa_nil)) (pg_name (i := 2) sc_law_numbers.nd rfl (Or.inl rfl))
      (pss_one (ps_if (PW.pt (pw_or (pt_not (pt_val (pe_call (ok_law_whole T) hr1 rfl T.mg_law_whole T.F_law_whole.kp T.b_law_whole .nil pass0N (pa_cons (pe_ix ix_list (pv 0) (pv 2) (fun _ _ => rfl)) pa_nil)))) (pw_or1 (pt_cmpR op_ne (pe_ix ix_list (pv 0) (pv 2) (fun _ _ => rfl)) (pe_ix ix_list (pv 1) (pv 2) (fun _ _ => rfl)) (nomark _))))) (pss_one (ps_ret pe_bl)) pss_nil)))
      (pss_one (ps_ret pe_bl)))), ?_⟩
    try dsimp only [cxOf]
    walk_at "gof"
    refine g_isiI (TyOf.lst hp) (kit_ty (r := true) (by decide +kernel)) ?_
    walk_at "gof"
    refine g_lenL (SqL.of hp) ?_
    walk_at "gof"
    refine g_lenL (SqL.of hq) ?_
    walk_at "gof"
    refine g_iteN (fun c => (c rfl).elim) (fun _ => ?_)
    walk_at "gof"
    refine g_lenL (SqL.of hq) ?_
    refine ⟨_, rfl, by omega, by rw [List.length_map]; omega, for_range (lo := 0) (n := ((ns.map V.int).length : Int).toNat) (fun i σ H1 => ∃ v : Option V, σ = [some (.ref p), some (.ref q), v] ∧ H1 = H) ⟨none, rfl, rfl⟩ ?_ ?_⟩
    · rintro i σ H1 hi ⟨v, rfl, rfl⟩
      rw [Int.toNat_natCast, List.length_map] at hi
      have e1 : (ns.map V.int)[i]? = some (.int ns[i]) := by rw [List.getElem?_map, List.getElem?_eq_getElem hi]; rfl
      walk_at "gof"
      refine g_ixL (SqL.of hp) (at_of (j := i) (by omega) e1) ?_
      refine ⟨_, rfl, ?_⟩
      walk_at "gof"
      refine g_ixL (SqL.of hp) (at_of (j := i) (by omega) e1) ?_
      walk_at "gof"
      refine g_ixL (SqL.of hq) (at_of (j := i) (by omega) e1) ?_
      walk_at "gof"
      refine g_iteN (fun c => (c rfl).elim) (fun _ => ?_)
      walk_at "gof"
      exact ⟨_, rfl, rfl⟩
    · rintro σ H1 ⟨v, rfl, rfl⟩
      walk_at "gof"
      exact kq
end
section
variable {P : Program} {w : World} {K : PySem.W.Frag} {mg : Str → Option Value} {base : Heap} {a : Ad}
def spSizeBy : Sp := fun vs H Q _ => ∃ (c : Int), vs = [.int c] ∧ ∀ v H', Same H H' → Q (.int v) H'
theorem ok_law_size_by (T : Txt a K mg) : FnOk P w K mg base (CN P w) 1 a.f_law_size_by a.fd_law_size_by ["_law_cell"] spSizeBy := by
  refine okN T.F_law_size_by sc_law_size_by (fun vs H Q E h => ?_) (fun cdv A outer s H vs Q E hr h => ?_)
  · obtain ⟨c, rfl, _⟩ := h; rfl
  · obtain ⟨c, rfl, k⟩ := h
    refine ⟨_, (pss_cons (ps_if (pt_cmpR op_eq (pe_op op_mod (pv 0) pe_int) pe_int (nomark _)) (pss_one (ps_ret (pe_ix ix_list (pe_lst (pa_cons (pe_un un_neg pe_int) (pa_cons pe_int (pa_cons (pe_op op_add (pe_op op_pow pe_int pe_int) (pe_op op_modN (pv 0) (pe_op op_pow pe_int pe_int))) (pa_cons (pe_op op_sub (pe_un un_neg pe_int) (pe_op op_modN (pv 0) (pe_op op_pow pe_int pe_int))) pa_nil))))) (pe_op op_mod (pe_op op_fdiv (pv 0) pe_int) pe_int) (fun _ _ => rfl)))) pss_nil)
      (pss_one (ps_ret (pe_op op_mod (pv 0) pe_int)))), ?_⟩
    try dsimp only [cxOf]
    walk_at "gof"
    refine g_rI (by decide) ?_
    walk_at "gof"
    refine g_ite (fun c1 => ?_) (fun c1 => ?_)
    · walk_at "gof"
      refine g_rI (by exact ⟨by decide, by decide, by decide⟩) ?_
      walk_at "gof"
      refine g_rI (by exact ⟨by decide, by decide, by decide⟩) ?_
      walk_at "gof"
      refine g_rI (by decide) ?_
      walk_at "gof"
      refine g_rI (by exact ⟨by decide, by decide, by decide⟩) ?_
      walk_at "gof"
      refine g_rI (by decide) ?_
      walk_at "gof"
      refine ⟨by show 4 ≤ sizeLine; decide, fun l hl => ?_⟩
      walk_at "gof"
      refine g_rI (by exact ⟨by decide, by decide⟩) ?_
      walk_at "gof"
      refine g_rI (by decide) ?_
      have hk := Int.emod_nonneg (c / 11) (b := 4) (by decide)
      have hk2 := Int.emod_lt_of_pos (c / 11) (b := 4) (by decide)
      have hk3 : c / 11 % 4 = 0 ∨ c / 11 % 4 = 1 ∨ c / 11 % 4 = 2 ∨ c / 11 % 4 = 3 := by omega
      rcases hk3 with e | e | e | e
      · refine g_ixL (SqL.of upd_same) (at_of (j := 0) (by omega) rfl) ?_
        exact k _ _ (Same.new hl)
      · refine g_ixL (SqL.of upd_same) (at_of (j := 1) (by omega) rfl) ?_
        exact k _ _ (Same.new hl)
      · refine g_ixL (SqL.of upd_same) (at_of (j := 2) (by omega) rfl) ?_
        exact k _ _ (Same.new hl)
      · refine g_ixL (SqL.of upd_same) (at_of (j := 3) (by omega) rfl) ?_
        exact k _ _ (Same.new hl)
    · walk_at "gof"
      refine g_rI (by decide) ?_
      exact k _ _ (Same.refl _)

/-- what the suite of made asks of the error -/
def spMade (a : Ad) : Sp := fun vs H Q _ => ∃ (p : Addr) (n : Int) (C : LCh), vs = [.ref p, .int n] ∧ CAt a.Chest a.Box H p C ∧
  ((n < 0 ∨ 9 < n) → ∀ t H', H t = none → Same H H' → H' t = some (.tup [.str "slot", .non]) → Q (.ref t) H') ∧
  (0 ≤ n → n ≤ 9 → C.B.length = 60 → ∀ t H', H t = none → Same H H' → H' t = some (.tup [.str "many", .non]) → Q (.ref t) H') ∧
  (0 ≤ n → n ≤ 9 → C.B.length < 60 → ∀ (H' : Hp) (b : LBx) (t : Addr), b.vs = List.replicate n.toNat .non → b.hand = true → b.ds = [] → (∀ c ∈ ownB b, H c = none) → Fr [p, C.d1] H H' →
    CAt a.Chest a.Box H' p { C with nb := C.nb + 1, B := C.B ++ [(C.nb, b)] } → H t = none → H' t = some (.tup [.str "", .int C.nb]) → Q (.ref t) H')
theorem ok_law_made (T : Txt a K mg) : FnOk P w K mg base (CN P w) 4 a.f_law_made a.fd_law_made ["_law_chest", "_law_size"] (spMade a) := by
  refine okN T.F_law_made sc_law_made (fun vs H Q E h => ?_) (fun cdv A outer s H vs Q E hr h => ?_)
  · obtain ⟨p, n, C, rfl, _⟩ := h; rfl
  · obtain ⟨p, n, C, rfl, hC, k1, k2, k3⟩ := h
    have h1 := hC.ob
    have hr1 : Room 1 _ := hr.mono (by decide); have hr3 : Room 3 _ := hr.mono (by decide);
    refine ⟨_, (pss_one (L2N.ps_try_as (i := 2) rfl rfl sc_law_made.nd rfl rfl ⟨rfl, by decide, .inl T.mg_WillError⟩ takes0N (fun W pn xe tk _ => (pss_one (ps_ret (pe_tup (pa_cons pe_str (pa_cons (pe_methP (pv 0) T.cl_Chest T.m_Chest_make (ok_Chest_make T) hr3 T.b_Chest_make (fun σ => L2N.passAt tk σ) (pa_cons (pv 1) pa_nil)) pa_nil)))))) (fun ea oe cls d pn hz hf => (pss_one (ps_ret (pe_tup (pa_cons (pe_callE (p := (ea, oe)) (sp' := spErr a ea cls d) (spErr_to hz hf) (ok_law_class T) (L2H.RoomH.mk hr1.dp hr1.un) ⟨rfl, hf.elim fun us e => ⟨us, e, hz.2.2 us e⟩⟩ List.mem_cons_self rfl T.mg_law_class T.F_law_class.kp T.b_law_class pass0N (pa_cons (pv 2) pa_nil)) (pa_cons pe_non pa_nil)))))))), ?_⟩
    try dsimp only [cxOf]
    walk_at "gof"
    walk_at "m1"
    walk_at "gof"
    refine ⟨p, n, C, rfl, hC, fun c => ?_, fun c0 c9 cl => ?_, fun c0 c9 cl H' b e1 e2 e3 e4 e5 e6 => ?_⟩
    · refine ⟨true, T.em_NoSlot, fun _ ea hea => ?_, fun z => nomatch z⟩
      walk_at "gof"
      refine ⟨rfl, _, "slot", rfl, rfl, (by walk_at "errw"), fun H' sm => ?_⟩
      walk_at "gof"
      refine ⟨by show 2 ≤ sizeLine; decide, fun t ht => ?_⟩
      exact k1 c t _ (sm.free ht) (sm.trans (Same.new ht)) upd_same
    · refine ⟨true, T.em_TooMany, fun _ ea hea => ?_, fun z => nomatch z⟩
      walk_at "gof"
      refine ⟨rfl, _, "many", rfl, rfl, (by walk_at "errw"), fun H' sm => ?_⟩
      walk_at "gof"
      refine ⟨by show 2 ≤ sizeLine; decide, fun t ht => ?_⟩
      exact k2 c0 c9 cl t _ (sm.free ht) (sm.trans (Same.new ht)) upd_same
    · walk_at "gof"
      refine ⟨by show 2 ≤ sizeLine; decide, fun t ht => ?_⟩
      have htp : t ∉ own p { C with nb := C.nb + 1, B := C.B ++ [(C.nb, b)] } := e6.fresh ht
      have ht0 : H t = none := by
        refine e5.free ht fun m => htp (own_mem.mpr ?_)
        simp only [List.mem_cons, List.not_mem_nil, or_false] at m
        rcases m with m | m
        · exact .inl m
        · exact .inr (.inl m)
      exact k3 c0 c9 cl _ b t e1 e2 e3 e4 (e5.trans (Fr.same (Same.new ht))) (e6.same (Same.new ht)) ht0 upd_same

def spRefused (a : Ad) : Sp := fun vs H Q _ => ∃ (p : Addr) (n s way : Int) (C : LCh), vs = [.ref p, .int n, .int s, .int way] ∧ CAt a.Chest a.Box H p C ∧
  ((C.B.lookup n = none ∧ ∀ H', Same H H' → Q (.str "box") H') ∨ ∃ b, C.B.lookup n = some b ∧ way = 0 ∧ (s < 0 ∨ (b.vs.length : Int) ≤ s) ∧ ∀ H', Same H H' → Q (.str "slot") H')
theorem ok_law_refused (T : Txt a K mg) : FnOk P w K mg base (CN P w) 4 a.f_law_refused a.fd_law_refused ["_law_chest", "_law_box", "_law_slot", "_law_way"] (spRefused a) := by
  refine okN T.F_law_refused sc_law_refused (fun vs H Q E h => ?_) (fun cdv A outer s H vs Q E hr h => ?_)
  · obtain ⟨p, n, s, way, C, rfl, _⟩ := h; rfl
  · obtain ⟨p, n, sl, way, C, rfl, hC, k⟩ := h
    have h1 := hC.ob
    have hr1 : Room 1 _ := hr.mono (by decide); have hr2 : Room 2 _ := hr.mono (by decide); have hr3 : Room 3 _ := hr.mono (by decide);
    refine ⟨_, (pss_cons (L2N.ps_try_as (i := 4) rfl rfl sc_law_refused.nd rfl rfl ⟨rfl, by decide, .inl T.mg_WillError⟩ takes0N (fun W pn xe tk _ => (pss_one (ps_if (pt_cmpR op_eq (pv 3) pe_int (nomark _)) (pss_one (ps_expr (pe_methP (pv 0) T.cl_Chest T.m_Chest_told (ok_Chest_told T) hr3 T.b_Chest_told (fun σ => L2N.passAt tk σ) (pa_cons (pv 1) (pa_cons (pv 2) pa_nil))))) (pss_one (ps_if (pt_cmpR op_eq (pv 3) pe_int (nomark _)) (pss_one (ps_expr (pe_methP (pv 0) T.cl_Chest T.m_Chest_size (ok_Chest_size T) hr2 T.b_Chest_size (fun σ => L2N.passAt tk σ) (pa_cons (pv 1) pa_nil)))) (pss_one (ps_expr (pe_methP (pv 0) T.cl_Chest T.m_Chest_will (ok_Chest_will T) hr2 T.b_Chest_will (fun σ => L2N.passAt tk σ) (pa_cons (pv 1) pa_nil))))))))) (fun ea oe cls d pn hz hf => (pss_one (ps_ret (pe_callE (p := (ea, oe)) (sp' := spErr a ea cls d) (spErr_to hz hf) (ok_law_class T) (L2H.RoomH.mk hr1.dp hr1.un) ⟨rfl, hf.elim fun us e => ⟨us, e, hz.2.2 us e⟩⟩ List.mem_cons_self rfl T.mg_law_class T.F_law_class.kp T.b_law_class pass0N (pa_cons (pv 4) pa_nil))))))
      (pss_one (ps_ret pe_str))), ?_⟩
    try dsimp only [cxOf]
    have box : ∀ (D : Ends) (σ : L2.St), D.rt = Q → σ = L2.start N_law_refused [.ref p, .int n, .int sl, .int way] → C.B.lookup n = none →
        WE (wAs K (.ref a.WillError) 4 (fun ea cls d => tRet (tCallE (spErr a ea cls d) (tCons (tVar 4) tNil))) (fun _ _ _ _ => False) D) σ (.ref a.NoBox) none H := by
      rintro D σ hD rfl e
      refine ⟨true, T.em_NoBox, fun _ ea hea => ?_, fun z => nomatch z⟩
      walk_at "gof"
      refine ⟨rfl, _, "box", rfl, rfl, (by walk_at "errw"), fun H' sm => ?_⟩
      show D.rt _ H'
      rw [hD]
      rcases k with ⟨_, k⟩ | ⟨b, e2, _⟩
      · exact k H' sm
      · rw [e] at e2; cases e2
    walk_at "gof"
    refine g_ite (fun c => ?_) (fun c => ?_)
    · walk_at "gof"
      walk_at "m1"
      walk_at "gof"
      refine ⟨p, n, sl, C, rfl, hC, fun e => box _ _ rfl rfl e, fun b e => ⟨fun c2 => ?_, fun c2 c3 v e3 => ?_⟩⟩
      · refine ⟨true, T.em_NoSlot, fun _ ea hea => ?_, fun z => nomatch z⟩
        walk_at "gof"
        refine ⟨rfl, _, "slot", rfl, rfl, (by walk_at "errw"), fun H' sm => ?_⟩
        rcases k with ⟨e2, _⟩ | ⟨b2, e2, _, _, k⟩
        · rw [e] at e2; cases e2
        · exact k H' sm
      · rcases k with ⟨e2, _⟩ | ⟨b2, e2, _, c4, k⟩
        · rw [e] at e2; cases e2
        · rw [e] at e2; cases e2; omega
    · walk_at "gof"
      refine g_ite (fun c2 => ?_) (fun c2 => ?_)
      · walk_at "gof"
        walk_at "m1"
        walk_at "gof"
        refine ⟨p, n, C, rfl, hC, fun e => box _ _ rfl rfl e, fun b e => ?_⟩
        rcases k with ⟨e2, _⟩ | ⟨b2, e2, c4, _, k⟩
        · rw [e] at e2; cases e2
        · exact (c c4).elim
      · walk_at "gof"
        walk_at "m1"
        walk_at "gof"
        refine ⟨p, n, C, rfl, hC, fun e => box _ _ rfl rfl e, fun b e => ?_⟩
        rcases k with ⟨e2, _⟩ | ⟨b2, e2, c4, _, k⟩
        · rw [e] at e2; cases e2
        · exact (c c4).elim
end
section
variable {P : Program} {w : World} {K : PySem.W.Frag} {mg : Str → Option Value} {base : Heap} {a : Ad}
def spNew (a : Ad) : Sp := fun vs H Q _ => ∃ (p : Addr) (n sz : Int) (C : LCh) (b : LBx), vs = [.ref p, .int n, .int sz] ∧ CAt a.Chest a.Box H p C ∧ C.B.lookup n = some b ∧
  b.vs = List.replicate sz.toNat .non ∧ 0 ≤ sz ∧ sz ≤ 9 ∧ b.ds = [] ∧ ∀ H', Same H H' → Q (.bl true) H'
theorem ok_law_new (T : Txt a K mg) : FnOk P w K mg base (CN P w) 5 a.f_law_new a.fd_law_new ["_law_chest", "_law_box", "_law_size"] (spNew a) := by
  refine okN T.F_law_new sc_law_new (fun vs H Q E h => ?_) (fun cdv A outer s H vs Q E hr h => ?_)
  · obtain ⟨p, n, sz, C, b, rfl, _⟩ := h; rfl
  · obtain ⟨p, n, sz, C, b, rfl, hC, hb, hv, s0, s9, hd, k⟩ := h
    have h1 := hC.ob
    have hl : (b.vs.length : Int) = sz := by rw [hv, List.length_replicate]; omega
    have hr1 : Room 1 _ := hr.mono (by decide); have hr2 : Room 2 _ := hr.mono (by decide); have hr3 : Room 3 _ := hr.mono (by decide); have hr4 : Room 4 _ := hr.mono (by decide);
    refine ⟨_, (pss_cons (ps_set (i := 3) sc_law_new.nd rfl (Or.inl rfl) (pe_meth (pv 0) T.cl_Chest T.m_Chest_size (ok_Chest_size T) hr2 T.b_Chest_size .nil pass0N (pa_cons (pv 1) pa_nil)))
      (pss_cons (ps_if (PW.pt (pw_or (pt_not (pt_val (pe_call (ok_law_whole T) hr1 rfl T.mg_law_whole T.F_law_whole.kp T.b_law_whole .nil pass0N (pa_cons (pv 3) pa_nil)))) (pw_or (pt_cmpR op_ne (pv 3) (pv 2) (nomark _)) (pw_or1 (pt_cmpR (op_neD hr.units) (pe_meth (pv 0) T.cl_Chest T.m_Chest_will (ok_Chest_will T) hr2 T.b_Chest_will .nil pass0N (pa_cons (pv 1) pa_nil)) (pe_lst pa_nil) (nomark _)))))) (pss_one (ps_ret pe_bl)) pss_nil)
      (pss_cons (ps_if (pt_not (pt_val (pe_callB (cr_all rfl) (by rfl) T.no_all (by decide +kernel) (pa_cons (pe_lc (own := [("_law_slot", 4)]) (g := gName 4) (tt := tYes) (te := (tOp rIsN (tMeth a.Chest "told" (spTold a) [] E0 (tVar 0) (tCons (tVar 1) (tCons (tVar 4) tNil))) (tC .non))) (by rfl) sc_law_new.nd (pi_range1 (by rfl) T.no_range (pa_cons (pv 2) pa_nil)) (blkOk_by (own := [("_law_slot", 4)]) (N := N_law_new) (sc := defScope s_law_new) (by decide +kernel)) (fun _ _ _ _ _ => pg_name (i := 4) sc_law_new.nd rfl (Or.inl rfl)) (fun _ _ _ _ _ => pts_nil) (fun _ _ _ _ _ => (pe_cmpR op_isN' (pe_meth (pv 0) T.cl_Chest T.m_Chest_told (ok_Chest_told T) hr3 T.b_Chest_told .nil pass0N (pa_cons (pv 1) (pa_cons (pv 4) pa_nil))) pe_non (nomark _)))) pa_nil)))) (pss_one (ps_ret pe_bl)) pss_nil)
      (pss_one (ps_ret (pe_and (pe_cmpR op_eq (pe_call (ok_law_refused T) hr4 rfl T.mg_law_refused T.F_law_refused.kp T.b_law_refused .nil pass0N (pa_cons (pv 0) (pa_cons (pv 1) (pa_cons (pv 2) (pa_cons pe_int pa_nil))))) pe_str (nomark _)) (pe_one (pe_cmpR op_eq (pe_call (ok_law_refused T) hr4 rfl T.mg_law_refused T.F_law_refused.kp T.b_law_refused .nil pass0N (pa_cons (pv 0) (pa_cons (pv 1) (pa_cons (pe_un un_neg pe_int) (pa_cons pe_int pa_nil))))) pe_str (nomark _))))))))), ?_⟩
    try dsimp only [cxOf]
    walk_at "gof"
    walk_at "m1"
    walk_at "gof"
    refine ⟨p, n, C, rfl, hC, fun e => (by rw [hb] at e; cases e), fun b2 e => ?_⟩
    rw [hb] at e; cases e
    rw [hl]
    walk_at "gof"
    refine ⟨_, rfl, ?_⟩
    walk_at "gof"
    refine g_iteN (fun c => (c rfl).elim) (fun _ => ?_)
    walk_at "gof"
    walk_at "m1"
    walk_at "gof"
    refine ⟨p, n, C, rfl, hC, fun e => (by rw [hb] at e; cases e), fun b2 e q hq => ?_⟩
    rw [hb] at e; cases e
    rw [hd]
    walk_at "gof"
    refine ⟨by decide, fun q2 hq2 => ?_⟩
    refine g_neDS (d := .list []) (.lst (SqL.of (by walk_at "hl")) .nil) (.lst (SqL.of upd_same) .nil) (by decide +kernel) ?_
    walk_at "gof"
    have s1 : Same H (upd (upd H q (.lst [])) q2 (.lst [])) := (Same.new hq).trans (Same.new hq2)
    refine ⟨_, rfl, by omega, by omega, fun D hD => lc_range (lo := 0) (n := sz.toNat) (fun i H1 => Same H H1 ∧ H1 D = some (.lst ((List.replicate i true).map V.bl)))
      ⟨s1.trans (Same.new hD), upd_same⟩ ?_ ?_⟩
    · have hDn : H D = none := (none_upd (none_upd hD).2).2
      rintro i H1 hi ⟨f1, f2⟩
      have h1' := f1 _ _ h1
      walk_at "go"
      refine ⟨rfl, ?_⟩
      walk_at "gof"
      refine ⟨_, _, _, rfl, h1', fChest_no (by decide +kernel) (by decide +kernel) (by decide +kernel) (by decide +kernel), ?_⟩
      walk_at "gof"
      refine ⟨p, n, _, C, rfl, hC.same f1, fun e => (by rw [hb] at e; cases e), fun b2 e => ?_⟩
      rw [hb] at e; cases e
      refine ⟨fun c => by omega, fun c0 c1 v e2 => ?_⟩
      have ev : v = .non := by
        rw [hv] at e2
        exact (List.eq_of_mem_replicate (List.mem_of_getElem? e2))
      subst ev
      walk_at "gof"
      refine ⟨_, f2, ?_, fun c o e => ?_, ?_⟩
      · refine small1000 ?_
        rw [List.length_map, List.length_replicate]; omega
      · rw [upd_ne (ne_of_none e hDn)]
        exact f1 c o e
      · rw [upd_same, List.replicate_succ', List.map_append]
        rfl
    · rintro H1 ⟨f1, f2⟩
      walk_at "gof"
      refine g_all (SqL.of f2) (fun b hb => List.eq_of_mem_replicate hb) ?_
      have h1' := f1 _ _ h1
      walk_at "gof"
      refine ⟨p, n, sz, 0, C, rfl, hC.same f1, .inr ⟨b, hb, rfl, .inr (by omega), fun H2 g1 => ?_⟩⟩
      walk_at "gof"
      refine g_ite (fun _ => ?_) (fun c => (c rfl).elim)
      walk_at "gof"
      refine ⟨p, n, -1, 0, C, rfl, hC.same (f1.trans g1), .inr ⟨b, hb, rfl, .inl (by omega), fun H3 g2 => ?_⟩⟩
      walk_at "gof"
      rw [decide_eq_true rfl]
      exact k _ ((f1.trans g1).trans g2)
end
section
variable {P : Program} {w : World} {K : PySem.W.Frag} {mg : Str → Option Value} {base : Heap} {a : Ad}
/-! ### the law -/
/-- sizes ns were made -/
structure Made (C : LCh) (ns : List Int) : Prop where
  nb : C.nb = (ns.length : Int)
  ky : C.B.map (·.1) = (List.range ns.length).map fun i => ((i : Nat) : Int)
  bx : ∀ (i : Nat) (z : Int), ns[i]? = some z → ∃ b, C.B[i]? = some ((i : Int), b) ∧ b.vs = List.replicate z.toNat .non ∧ b.hand = true ∧ b.ds = [] ∧ 0 ≤ z ∧ z ≤ 9
  al : ∀ e ∈ C.B, e.2.hand = true
theorem Made.len {C : LCh} {ns : List Int} (m : Made C ns) : C.B.length = ns.length := by
  have := congrArg List.length m.ky
  simpa using this
theorem Made.snoc {C : LCh} {ns : List Int} (m : Made C ns) {n : Int} {b : LBx} (hv : b.vs = List.replicate n.toNat .non) (hh : b.hand = true) (hd : b.ds = []) (n0 : 0 ≤ n) (n9 : n ≤ 9) :
    Made { C with nb := C.nb + 1, B := C.B ++ [(C.nb, b)] } (ns ++ [n]) where
  nb := by show C.nb + 1 = _; rw [m.nb, List.length_append]; rfl
  ky := by
    show (C.B ++ [(C.nb, b)]).map (·.1) = _
    rw [List.map_append, m.ky, List.length_append, List.length_singleton, List.range_succ, List.map_append, m.nb]
    rfl
  bx := by
    intro i z hz
    by_cases h : i < ns.length
    · rw [List.getElem?_append_left h] at hz
      obtain ⟨b2, e, r⟩ := m.bx i z hz
      refine ⟨b2, ?_, r⟩
      show (C.B ++ [(C.nb, b)])[i]? = _
      rw [List.getElem?_append_left (by rw [m.len]; exact h)]
      exact e
    · have hi : i < (ns ++ [n]).length := (List.getElem?_eq_some_iff.mp hz).1
      rw [List.length_append, List.length_singleton] at hi
      have e : i = ns.length := by omega
      subst e
      rw [List.getElem?_append_right (Nat.le_refl _), Nat.sub_self] at hz
      cases (Option.some.inj hz : n = z)
      refine ⟨b, ?_, hv, hh, hd, n0, n9⟩
      show (C.B ++ [(C.nb, b)])[ns.length]? = _
      rw [List.getElem?_append_right (by rw [m.len]; exact Nat.le_refl _), m.len, Nat.sub_self, m.nb]
      rfl
  al := by
    intro e he
    rcases List.mem_append.mp he with he | he
    · exact m.al e he
    · cases List.mem_singleton.mp he
      exact hh
/-- what is due -/
def dueW (n : Int) (k : Nat) : Str := if n < 0 ∨ 9 < n then "slot" else if k = 60 then "many" else ""
def dueV (n : Int) (k : Nat) : V := if n < 0 ∨ 9 < n then .non else if k = 60 then .non else .int k
theorem due_bad {n : Int} {k : Nat} (h : n < 0 ∨ 9 < n) : dueW n k = "slot" ∧ dueV n k = .non := ⟨if_pos h, if_pos h⟩
theorem due_many {n : Int} {k : Nat} (h0 : 0 ≤ n) (h9 : n ≤ 9) (h : k = 60) : dueW n k = "many" ∧ dueV n k = .non := by
  have e : ¬ (n < 0 ∨ 9 < n) := by omega
  exact ⟨(if_neg e).trans (if_pos h), (if_neg e).trans (if_pos h)⟩
theorem due_ok {n : Int} {k : Nat} (h0 : 0 ≤ n) (h9 : n ≤ 9) (h : k < 60) : dueW n k = "" ∧ dueV n k = .int k := by
  have e : ¬ (n < 0 ∨ 9 < n) := by omega
  have e2 : ¬ k = 60 := by omega
  exact ⟨(if_neg e).trans (if_neg e2), (if_neg e).trans (if_neg e2)⟩
/-- the sizes behind a turn -/
def nsX (n : Int) (ns : List Int) : List Int := if 0 ≤ n ∧ n ≤ 9 ∧ ns.length < 60 then ns ++ [n] else ns
theorem sh_si (z : Int) : SeqAt.shaped (.tuple [.str "", .int z]) = true := by
  have e : SeqAt.shaped (.tuple [.str "", .int z]) = SeqAt.shaped (.tuple [.str "", .int 0]) := by
    simp [SeqAt.shaped, PyData.canLay0, PyData.canLayAll0, PyData.depth, PyData.depthAll]
  rw [e]; decide +kernel
theorem due_dp {K : PySem.W.Frag} {H : Hp} {t : Addr} {n : Int} {k : Nat} (h : H t = some (.tup [.str (dueW n k), dueV n k])) :
    ∃ d, SeqAt.shaped d = true ∧ ∀ H' t', H' t' = some (.tup [.str (dueW n k), dueV n k]) → Dp K H' (.ref t') d := by
  unfold dueW dueV
  split
  · exact ⟨.tuple [.str "slot", .none], by decide +kernel, fun H' t' e => .tup (SqT.of e) (.cons (.str _) (.cons .non .nil))⟩
  · split
    · exact ⟨.tuple [.str "many", .none], by decide +kernel, fun H' t' e => .tup (SqT.of e) (.cons (.str _) (.cons .non .nil))⟩
    · exact ⟨.tuple [.str "", .int k], sh_si _, fun H' t' e => .tup (SqT.of e) (.cons (.str _) (.cons (.int _) .nil))⟩
theorem far12 {n : Nat} (h : n ≤ 60) : (n : Int) ≤ (10 : Int) ^ (12 : Int).toNat := by
  have e : (10 : Int) ^ (12 : Int).toNat = 1000000000000 := by decide +kernel
  rw [e]; omega
theorem key_none {C : LCh} {ns : List Int} (hM : Made C ns) {n : Int} (h : n < 0 ∨ (ns.length : Int) ≤ n) : C.B.lookup n = none := by
  rw [lk_none, hM.ky]
  intro m
  obtain ⟨i, hi, e⟩ := List.mem_map.mp m
  have := List.mem_range.mp hi
  omega
def spLaw (K : PySem.W.Frag) : Sp := fun vs H Q _ => ∃ (s0 : Addr) (ns : List Int), vs = [.ref s0] ∧ SqL K H s0 (ns.map V.int) ∧ ns.length ≤ 63 ∧ ∀ H', Q (.bl true) H'
theorem cut_ints (ns : List Int) (lo hi : Option Int) : ∃ zs : List Int, cutV (ns.map V.int) lo hi = zs.map V.int ∧ zs.length ≤ ns.length := by
  unfold cutV
  rw [← List.map_drop, ← List.map_take]
  exact ⟨_, rfl, by rw [List.length_take, List.length_drop]; omega⟩
theorem ok_law (T : Txt a K mg) : FnOk P w K mg base (CN P w) 6 a.f_law a.fd_law ["_law_script"] (spLaw K) := by
  refine okN T.F_law sc_law (fun vs H Q E h => ?_) (fun cdv A outer s H vs Q E hr h => ?_)
  · obtain ⟨s0, ns, rfl, _⟩ := h; rfl
  · obtain ⟨s0, ns0, rfl, hS, hn0, k⟩ := h
    have hr1 : Room 1 _ := hr.mono (by decide); have hr2 : Room 2 _ := hr.mono (by decide); have hr4 : Room 4 _ := hr.mono (by decide); have hr5 : Room 5 _ := hr.mono (by decide);
    refine ⟨_, (pss_cons (ps_set (i := 1) sc_law.nd rfl (Or.inl rfl) (pe_slice sl_list (pv 0) (po_some pe_int) (po_some pe_int)))
      (pss_cons (ps_set (i := 2) sc_law.nd rfl (Or.inr rfl) (pe_call (ok_law_cell_at T) hr1 rfl T.mg_law_cell_at T.F_law_cell_at.kp T.b_law_cell_at .nil pass0N (pa_cons (pv 0) (pa_cons pe_int pa_nil))))
      (pss_cons (ps_if (pt_cmpR op_eq (pe_op op_mod (pv 2) pe_int) pe_int (nomark _)) (pss_one (ps_setLc (i := 1) (own := [("_law_k", 11)]) (g := gName 11) (tt := tYes) (te := (tCall (spMixed K) [] E0 (tCons (tVar 2) (tCons (tVar 11) (tCons (tC (.int 11)) tNil))))) (by rfl) sc_law.nd rfl rfl (sw_true rfl rfl rfl (by decide +kernel)) (pi_range1 (by rfl) T.no_range (pa_cons (pe_op op_add pe_int (pe_op op_mod (pe_op op_fdiv (pv 2) pe_int) pe_int)) pa_nil)) (blkOk_by (own := [("_law_k", 11)]) (N := N_law) (sc := defScope s_law) (by decide +kernel)) (fun _ _ _ _ _ => pg_name (i := 11) sc_law.nd rfl (Or.inl rfl)) (fun _ _ _ _ _ => pts_nil) (fun _ _ _ _ _ => (pe_call (ok_law_mixed T) hr1 rfl T.mg_law_mixed T.F_law_mixed.kp T.b_law_mixed .nil pass0N (pa_cons (pv 2) (pa_cons (pv 11) (pa_cons pe_int pa_nil))))))) pss_nil)
      (pss_cons (ps_set (i := 3) sc_law.nd rfl (Or.inr rfl) (pe_make0 T.mk_Chest (ok_Chest__init_ T) hr2 rfl T.mg_Chest T.b_Chest__init_ .nil pass0N))
      (pss_cons (ps_set (i := 4) sc_law.nd rfl (Or.inl rfl) (pe_lst pa_nil))
      (pss_cons (ps_for PassesOwn.leaving rfl (pi_list (pv 1)) (pg_name (i := 5) sc_law.nd rfl (Or.inl rfl))
      (pss_cons (ps_set (i := 6) sc_law.nd rfl (Or.inl rfl) (pe_call (ok_law_size_by T) hr1 rfl T.mg_law_size_by T.F_law_size_by.kp T.b_law_size_by .nil pass0N (pa_cons (pv 5) pa_nil)))
      (pss_cons (ps_set (i := 7) sc_law.nd rfl (Or.inl rfl) (pe_tup (pa_cons pe_str (pa_cons (pe_callB call_lenS (by rfl) T.no_len (by decide +kernel) (pa_cons (pv 4) pa_nil)) pa_nil))))
      (pss_cons (ps_if (pt_cmpR op_eq (pe_callB call_lenS (by rfl) T.no_len (by decide +kernel) (pa_cons (pv 4) pa_nil)) pe_int (nomark _)) (pss_one (ps_set (i := 7) sc_law.nd rfl (Or.inl rfl) (pe_tup (pa_cons pe_str (pa_cons pe_non pa_nil))))) pss_nil)
      (pss_cons (ps_if (PW.pt (pw_or (pt_cmpR op_lt (pv 6) pe_int (nomark _)) (pw_or1 (pt_cmpR op_gt (pv 6) pe_int (nomark _))))) (pss_one (ps_set (i := 7) sc_law.nd rfl (Or.inl rfl) (pe_tup (pa_cons pe_str (pa_cons pe_non pa_nil))))) pss_nil)
      (pss_cons (ps_set (i := 8) sc_law.nd rfl (Or.inl rfl) (pe_call (ok_law_made T) hr4 rfl T.mg_law_made T.F_law_made.kp T.b_law_made .nil pass0N (pa_cons (pv 3) (pa_cons (pv 6) pa_nil))))
      (pss_cons (ps_if (PW.pt (pw_or (pt_cmpR (op_neD hr.units) (pv 8) (pv 7) (nomark _)) (pw_or1 (PW.pt (pw_and (pt_cmpR op_eq (pe_ix ix_tup (pv 7) pe_int (fun _ _ => rfl)) pe_str (nomark _)) (pw_and1 (pt_not (pt_val (pe_call (ok_law_whole T) hr1 rfl T.mg_law_whole T.F_law_whole.kp T.b_law_whole .nil pass0N (pa_cons (pe_ix ix_tup (pv 8) pe_int (fun _ _ => rfl)) pa_nil)))))))))) (pss_one (ps_ret pe_bl)) pss_nil)
      (pss_cons (ps_if (pt_cmpR op_eq (pe_ix ix_tup (pv 7) pe_int (fun _ _ => rfl)) pe_str (nomark _)) (pss_one (ps_expr (pe_bm PySem.F.plainAttrs_list PySem.F.slot_list_append PySem.F.type_list_append mt_append (pv 4) (pa_cons (pv 6) pa_nil)))) pss_nil)
      (pss_cons (ps_set (i := 9) sc_law.nd rfl (Or.inl rfl) (pe_meth0 (pv 3) T.cl_Chest T.m_Chest_boxes (ok_Chest_boxes T) hr1 T.b_Chest_boxes .nil pass0N))
      (pss_cons (ps_if (PW.pt (pw_or (pt_not (pt_val (pe_call (ok_law_numbers T) hr2 rfl T.mg_law_numbers T.F_law_numbers.kp T.b_law_numbers .nil pass0N (pa_cons (pv 9) (pa_cons (pe_listRg rfl (by rfl) T.no_list (prg_1 (by rfl) T.no_range (pe_callB call_lenS (by rfl) T.no_len (by decide +kernel) (pa_cons (pv 4) pa_nil)))) pa_nil))))) (pw_or1 (pt_not (pt_val (pe_call (ok_law_numbers T) hr2 rfl T.mg_law_numbers T.F_law_numbers.kp T.b_law_numbers .nil pass0N (pa_cons (pe_meth0 (pv 3) T.cl_Chest T.m_Chest_hands (ok_Chest_hands T) hr2 T.b_Chest_hands .nil pass0N) (pa_cons (pv 9) pa_nil)))))))) (pss_one (ps_ret pe_bl)) pss_nil)
      (pss_one (ps_expr (pe_bm PySem.F.plainAttrs_list PySem.F.slot_list_append PySem.F.type_list_append mt_append (pv 9) (pa_cons (pe_un un_neg pe_int) pa_nil))))))))))))))
      (pss_cons (ps_for PassesOwn.leaving rfl (pi_range1 (by rfl) T.no_range (pa_cons (pe_callB call_lenS (by rfl) T.no_len (by decide +kernel) (pa_cons (pv 4) pa_nil)) pa_nil)) (pg_name (i := 10) sc_law.nd rfl (Or.inr rfl))
      (pss_one (ps_if (pt_not (pt_val (pe_call (ok_law_new T) hr5 rfl T.mg_law_new T.F_law_new.kp T.b_law_new .nil pass0N (pa_cons (pv 3) (pa_cons (pv 10) (pa_cons (pe_ix ix_list (pv 4) (pv 10) (fun _ _ => rfl)) pa_nil)))))) (pss_one (ps_ret pe_bl)) pss_nil)))
      (pss_cons (ps_set (i := 10) sc_law.nd rfl (Or.inr rfl) (pe_ix ix_list (pe_lst (pa_cons (pe_callB call_lenS (by rfl) T.no_len (by decide +kernel) (pa_cons (pv 4) pa_nil)) (pa_cons (pe_un un_neg pe_int) (pa_cons (pe_op op_pow pe_int pe_int) pa_nil)))) (pe_op op_mod (pe_op op_fdiv (pv 2) pe_int) pe_int) (fun _ _ => rfl)))
      (pss_one (ps_ret (pe_cmpR (op_eqD hr.units) (pe_lc (own := [("_law_way", 12)]) (g := gName 12) (tt := tYes) (te := (tCall (spRefused a) [] E0 (tCons (tVar 3) (tCons (tVar 10) (tCons (tC (.int 0)) (tCons (tVar 12) tNil)))))) (by rfl) sc_law.nd (pi_range1 (by rfl) T.no_range (pa_cons pe_int pa_nil)) (blkOk_by (own := [("_law_way", 12)]) (N := N_law) (sc := defScope s_law) (by decide +kernel)) (fun _ _ _ _ _ => pg_name (i := 12) sc_law.nd rfl (Or.inl rfl)) (fun _ _ _ _ _ => pts_nil) (fun _ _ _ _ _ => (pe_call (ok_law_refused T) hr4 rfl T.mg_law_refused T.F_law_refused.kp T.b_law_refused .nil pass0N (pa_cons (pv 3) (pa_cons (pv 10) (pa_cons pe_int (pa_cons (pv 12) pa_nil))))))) (pe_lst (pa_cons pe_str (pa_cons pe_str (pa_cons pe_str pa_nil)))) (nomark _)))))))))))), ?_⟩
    try dsimp only [cxOf]
    walk_at "gof"
    refine ⟨1, rfl, ?_⟩
    walk_at "gof"
    refine ⟨64, rfl, ?_⟩
    refine ⟨s0, _, rfl, hS, fun c1 hc1 => ?_⟩
    obtain ⟨zs, ez, hz⟩ := cut_ints ns0 (some 1) (some 64)
    rw [ez]
    have hS1 := (Same.new (o := .lst (zs.map V.int)) hc1).seq hS
    walk_at "gof"
    refine ⟨s0, ns0, 0, rfl, hS1, by decide, ?_⟩
    generalize cellAt ns0 0 = far
    walk_at "go1"
    walk_at "go1"
    refine g_cut (fun σ H1 => ∃ (c : Addr) (xs : List Int), σ = [some (.ref s0), some (.ref c), some (.int far), none, none, none, none, none, none, none, none, none, none] ∧ H1 c = some (.lst (xs.map V.int)) ∧ xs.length ≤ 80) (fun D' hrt hk => ?_) ?_
    · walk_at "gof"
      refine g_rI (by decide) ?_
      walk_at "gof"
      refine g_ite (fun c => ?_) (fun c => ?_)
      · walk_at "gof"
        refine g_rI (by exact ⟨by decide, by decide⟩) ?_
        walk_at "gof"
        refine g_rI (by decide) ?_
        walk_at "gof"
        have b0 := Int.emod_nonneg (far / 3) (b := 16) (by decide)
        have b1 := Int.emod_lt_of_pos (far / 3) (b := 16) (by decide)
        refine ⟨_, rfl, by omega, by omega, fun D hD => lc_range (lo := 0) (n := (55 + far / 3 % 16).toNat) (fun i H1 => ∃ ys : List Int, ys.length = i ∧ H1 D = some (.lst (ys.map V.int)))
          ⟨[], rfl, upd_same⟩ ?_ ?_⟩
        · rintro i H1 hi ⟨ys, hy, hD1⟩
          walk_at "go"
          refine ⟨rfl, ?_⟩
          walk_at "gof"
          refine ⟨far, 0 + (i : Int), 11, rfl, by decide, fun H2 sm => ?_⟩
          refine ⟨_, sm _ _ hD1, small1000 (by rw [List.length_map]; omega), ys ++ [mixF far (0 + (i : Int)) 11], by rw [List.length_append, hy]; rfl, ?_⟩
          rw [upd_same, List.map_append]
          rfl
        · rintro H1 ⟨ys, hy, hD1⟩
          walk_at "go"
          exact hk _ _ ⟨D, ys, rfl, hD1, by omega⟩
      · walk_at "gof"
        exact hk _ _ ⟨c1, zs, rfl, upd_same, by omega⟩
    clear hS1 hS hc1
    rintro σ H1 ⟨c, xs, rfl, hc, hx⟩
    walk_at "gof"
    intro p dx hp hdx hpd
    refine ⟨p, dx, rfl, upd_same, fun d1 d2 H2 hd1 hd2 hd12 kp hp2 hd1' hd2' => ⟨rfl, ?_⟩⟩
    have s2 : Same H1 H2 := fun b o e => kp b o (ne_of_none e hp) (by rw [upd_ne (ne_of_none e hp), upd_ne (ne_of_none e hdx)]; exact e)
    have hc2 := s2 _ _ hc
    have n1 := none_upd hd1
    have n2 := none_upd hd2
    have hC0 : CAt a.Chest a.Box H2 p ⟨dx, d1, d2, 0, 0, [], []⟩ :=
      ⟨hp2, hd1', hd2', fun e he => (by cases he), (by simp [own, ownBs]; exact ⟨⟨n1.1.symm, n2.1.symm⟩, hd12⟩), List.Pairwise.nil, fun e he => (by cases he), List.Pairwise.nil, fun e he => (by cases he), Nat.zero_le _, Nat.zero_le _, ⟨Int.le_refl _, Int.le_refl _⟩⟩
    have hcp : c ∉ own p ⟨dx, d1, d2, 0, 0, [], []⟩ := by
      simp only [own, ownBs, List.flatMap_nil, List.mem_cons, List.not_mem_nil, or_false, not_or]
      exact ⟨ne_of_none hc hp, ne_of_none hc (none_upd n1.2).2, ne_of_none hc (none_upd n2.2).2⟩
    walk_at "gof"
    refine ⟨by decide, fun z hz => ?_⟩
    walk_at "gof"
    refine ⟨c, rfl, ⟨_, SqL.of (by walk_at "hl")⟩, for_list (K := K) (a := c) (xs := xs.map V.int)
      (fun i σ H3 => ∃ (C : LCh) (ns : List Int) (v5 v6 v7 v8 v9 : Option V), σ = [some (.ref s0), some (.ref c), some (.int far), some (.ref p), some (.ref z), v5, v6, v7, v8, v9, none, none, none] ∧
        H3 c = some (.lst (xs.map V.int)) ∧ H3 z = some (.lst (ns.map V.int)) ∧ c ≠ z ∧ c ∉ own p C ∧ z ∉ own p C ∧ CAt a.Chest a.Box H3 p C ∧ Made C ns) ?_ ?_ ?_ ?_⟩
    · refine ⟨_, [], none, none, none, none, none, rfl, by walk_at "hl", upd_same, (by walk_at "ne"), hcp, hC0.fresh hz, hC0.same (Same.new hz), ⟨rfl, rfl, fun i z e => (by simp at e), fun e he => (by cases he)⟩⟩
    · rintro i σ H3 _ ⟨C, ns, v5, v6, v7, v8, v9, _, e, _⟩
      exact SqL.of e
    · rintro i x σ H3 hi ⟨C, ns, v5, v6, v7, v8, v9, rfl, hc3, hz3, hcz, hcC, hzC, hC, hM⟩
      rw [List.getElem?_map] at hi
      obtain ⟨xv, _, rfl⟩ := Option.map_eq_some_iff.mp hi
      walk_at "gof"
      refine ⟨xv, rfl, fun n H4 sm => ?_⟩
      have hc4 := sm _ _ hc3
      have hz4 := sm _ _ hz3
      have hC4 := hC.same sm
      have hlen : ns.length ≤ 60 := by rw [← hM.len]; exact hC.sB
      walk_at "gof"
      refine g_lenL (SqL.of hz4) ?_
      rw [List.length_map]
      walk_at "go1"
      refine ⟨by show 2 ≤ sizeLine; decide, fun t0 ht0 => ?_⟩
      walk_at "go1"
      walk_at "go1"
      refine g_cut (fun σ H5 => ∃ t, σ = [some (.ref s0), some (.ref c), some (.int far), some (.ref p), some (.ref z), some (.int xv), some (.int n), some (.ref t), v8, v9, none, none, none] ∧ Same H4 H5 ∧
        H5 t = some (.tup [.str (if ns.length = 60 then "many" else ""), if ns.length = 60 then .non else .int ns.length])) (fun D' hrt hk => ?_) ?_
      · walk_at "gof"
        refine g_lenL (SqL.of (by walk_at "hl")) ?_
        rw [List.length_map]
        walk_at "gof"
        refine g_ite (fun c6 => ?_) (fun c6 => ?_)
        · walk_at "gof"
          refine ⟨by show 2 ≤ sizeLine; decide, fun t ht => ?_⟩
          walk_at "gof"
          refine hk _ _ ⟨t, rfl, (Same.new ht0).trans (Same.new ht), ?_⟩
          have e : ns.length = 60 := by omega
          rw [if_pos e, if_pos e]; exact upd_same
        · walk_at "gof"
          refine hk _ _ ⟨t0, rfl, Same.new ht0, ?_⟩
          have e : ¬ ns.length = 60 := by omega
          rw [if_neg e, if_neg e]; exact upd_same
      rintro σ H5 ⟨t1, rfl, sm5, ht1⟩
      walk_at "go1"
      refine g_cut (fun σ H6 => ∃ t, σ = [some (.ref s0), some (.ref c), some (.int far), some (.ref p), some (.ref z), some (.int xv), some (.int n), some (.ref t), v8, v9, none, none, none] ∧ Same H4 H6 ∧
        H6 t = some (.tup [.str (dueW n ns.length), dueV n ns.length])) (fun D' hrt hk => ?_) ?_
      · have bad : ∀ (H7 : Hp) (t : Addr), H5 t = none → (n < 0 ∨ 9 < n) → D'.nx [some (.ref s0), some (.ref c), some (.int far), some (.ref p), some (.ref z), some (.int xv), some (.int n), some (.ref t), v8, v9, none, none, none] (upd H5 t (.tup [.str "slot", .non])) := by
          intro H7 t ht cb
          refine hk _ _ ⟨t, rfl, sm5.trans (Same.new ht), ?_⟩
          rw [(due_bad cb).1, (due_bad cb).2]; exact upd_same
        walk_at "gof"
        refine g_ite (fun c6 => ?_) (fun c6 => ?_)
        · walk_at "gof"
          refine ⟨by show 2 ≤ sizeLine; decide, fun t ht => ?_⟩
          walk_at "gof"
          exact bad H5 t ht (.inl c6)
        · walk_at "gof"
          refine g_ite (fun c7 => ?_) (fun c7 => ?_)
          · walk_at "gof"
            refine ⟨by show 2 ≤ sizeLine; decide, fun t ht => ?_⟩
            walk_at "gof"
            exact bad H5 t ht (.inr c7)
          · walk_at "gof"
            refine hk _ _ ⟨t1, rfl, sm5, ?_⟩
            rw [ht1]
            have e : ¬ (n < 0 ∨ 9 < n) := by omega
            unfold dueW dueV
            rw [if_neg e, if_neg e]
      clear ht1 sm5 t1 H5 ht0 t0
      rintro σ H5 ⟨t, rfl, sm5, ht5⟩
      have hc5 := sm5 _ _ hc4
      have hz5 := sm5 _ _ hz4
      have hC5 := hC4.same sm5
      have htC : t ∉ own p C := fun m => by
        obtain ⟨o, e, nt⟩ := hC5.dom m
        rw [ht5] at e
        exact nt _ (Option.some.inj e).symm
      walk_at "go1"
      -- found = made(chest, size)
      refine g_cut (fun σ H6 => ∃ (C' : LCh) (t2 : Addr), σ = [some (.ref s0), some (.ref c), some (.int far), some (.ref p), some (.ref z), some (.int xv), some (.int n), some (.ref t), some (.ref t2), v9, none, none, none] ∧
        H6 c = some (.lst (xs.map V.int)) ∧ H6 z = some (.lst (ns.map V.int)) ∧ c ∉ own p C' ∧ z ∉ own p C' ∧ CAt a.Chest a.Box H6 p C' ∧ Made C' (nsX n ns) ∧
        H6 t = some (.tup [.str (dueW n ns.length), dueV n ns.length]) ∧ H6 t2 = some (.tup [.str (dueW n ns.length), dueV n ns.length])) (fun D' hrt hk => ?_) ?_
      · walk_at "gof"
        refine ⟨p, n, C, rfl, hC5, fun cv t2 H6 f2 s6 e6 => ?_, fun c0 c9 c60 t2 H6 f2 s6 e6 => ?_, fun c0 c9 cl H6 b t2 b1 b2 b3 b4 fr hC6 f2 e6 => ?_⟩
        · walk_at "gof"
          have e : nsX n ns = ns := if_neg (by omega)
          refine hk _ _ ⟨C, t2, rfl, s6 _ _ hc5, s6 _ _ hz5, hcC, hzC, hC5.same s6, by rw [e]; exact hM, s6 _ _ ht5, ?_⟩
          rw [(due_bad cv).1, (due_bad cv).2]; exact e6
        · walk_at "gof"
          rw [hM.len] at c60
          have e : nsX n ns = ns := if_neg (by omega)
          refine hk _ _ ⟨C, t2, rfl, s6 _ _ hc5, s6 _ _ hz5, hcC, hzC, hC5.same s6, by rw [e]; exact hM, s6 _ _ ht5, ?_⟩
          rw [(due_many c0 c9 c60).1, (due_many c0 c9 c60).2]; exact e6
        · walk_at "gof"
          rw [hM.len] at cl
          have e : nsX n ns = ns ++ [n] := if_pos ⟨c0, c9, cl⟩
          have fr' : ∀ x, x ∉ own p C → x ≠ p ∧ x ≠ C.d1 := fun x hx => ⟨fun z => hx (own_mem.mpr (.inl z)), fun z => hx (own_mem.mpr (.inr (.inl z)))⟩
          have keepx : ∀ x o, H5 x = some o → x ∉ own p C → H6 x = some o := fun x o hx nx => fr x o hx (by simp only [List.mem_cons, List.not_mem_nil, or_false, not_or]; exact fr' x nx)
          have outx : ∀ x o, H5 x = some o → x ∉ own p C → x ∉ own p { C with nb := C.nb + 1, B := C.B ++ [(C.nb, b)] } := by
            intro x o hx nx m
            have m' : x ∈ own p C ++ ownB b := by
              show x ∈ p :: C.d1 :: C.d2 :: (ownBs C.B ++ ownB b)
              rw [← ownBs_snoc (n := C.nb)]; exact m
            rcases List.mem_append.mp m' with m' | m'
            · exact nx m'
            · rw [b4 x m'] at hx; cases hx
          refine hk _ _ ⟨_, t2, rfl, keepx _ _ hc5 hcC, keepx _ _ hz5 hzC, outx _ _ hc5 hcC, outx _ _ hz5 hzC, hC6, ?_, keepx _ _ ht5 htC, ?_⟩
          · rw [e]; exact hM.snoc b1 b2 b3 c0 c9
          · rw [(due_ok c0 c9 cl).1, (due_ok c0 c9 cl).2, e6, hM.nb]
      clear hc5 hz5 hC5 htC ht5 sm5 hcC hzC hc3 hz3 hc4 hz4 hC4 hC sm H3 H4 H5
      rintro σ H6 ⟨C', t2, rfl, hc6, hz6, hcC, hzC, hC, hM', ht6, ht26⟩
      obtain ⟨d, sd, hdp⟩ := due_dp (K := K) ht6
      walk_at "go1"
      -- if found != due or ..
      refine g_cut (fun σ H7 => σ = [some (.ref s0), some (.ref c), some (.int far), some (.ref p), some (.ref z), some (.int xv), some (.int n), some (.ref t), some (.ref t2), v9, none, none, none] ∧ H7 = H6) (fun D' hrt hk => ?_) ?_
      · walk_at "gof"
        refine g_neDS (hdp _ _ ht26) (hdp _ _ ht6) sd ?_
        walk_at "gof"
        refine g_ixT (SqT.of ht6) (at_of (j := 0) rfl rfl) ?_
        walk_at "gof"
        refine g_ite (fun cd => ?_) (fun cd => ?_)
        · walk_at "gof"
          have ok : 0 ≤ n ∧ n ≤ 9 ∧ ns.length < 60 := by
            by_cases cb : n < 0 ∨ 9 < n
            · rw [(due_bad cb).1] at cd; exact absurd cd (by decide +kernel)
            · by_cases cm : ns.length = 60
              · rw [(due_many (by omega) (by omega) cm).1] at cd; exact absurd cd (by decide +kernel)
              · omega
          refine g_ixT (SqT.of ht26) (at_of (j := 1) rfl rfl) ?_
          rw [(due_ok ok.1 ok.2.1 ok.2.2).2]
          refine ⟨_, rfl, ?_⟩
          walk_at "gof"
          exact hk _ _ ⟨rfl, rfl⟩
        · walk_at "gof"
          exact hk _ _ ⟨rfl, rfl⟩
      rintro σ H7 ⟨rfl, rfl⟩
      walk_at "go1"
      refine g_cut (fun σ H8 => σ = [some (.ref s0), some (.ref c), some (.int far), some (.ref p), some (.ref z), some (.int xv), some (.int n), some (.ref t), some (.ref t2), v9, none, none, none] ∧
        H8 c = some (.lst (xs.map V.int)) ∧ H8 z = some (.lst ((nsX n ns).map V.int)) ∧ CAt a.Chest a.Box H8 p C') (fun D' hrt hk => ?_) ?_
      · walk_at "gof"
        refine g_ixT (SqT.of ht6) (at_of (j := 0) rfl rfl) ?_
        walk_at "gof"
        have hcz' : c ≠ z := hcz
        refine g_ite (fun cd => ?_) (fun cd => ?_)
        · have ok : 0 ≤ n ∧ n ≤ 9 ∧ ns.length < 60 := by
            by_cases cb : n < 0 ∨ 9 < n
            · rw [(due_bad cb).1] at cd; exact absurd cd (by decide +kernel)
            · by_cases cm : ns.length = 60
              · rw [(due_many (by omega) (by omega) cm).1] at cd; exact absurd cd (by decide +kernel)
              · omega
          walk_at "gof"
          refine ⟨.inl ⟨rfl, _, SqL.of hz6⟩, ?_⟩
          walk_at "gof"
          refine g_append hz6 (by rw [List.length_map]; omega) ?_
          walk_at "gof"
          have e : nsX n ns = ns ++ [n] := if_pos ok
          refine hk _ _ ⟨rfl, by rw [upd_ne hcz']; exact hc6, ?_, hC.keep fun x o hx e => ?_⟩
          · rw [upd_same, e, List.map_append]; rfl
          · rw [upd_ne (fun zz => hzC (by rw [← zz]; exact hx))]; exact e
        · walk_at "gof"
          have nok : ¬ (0 ≤ n ∧ n ≤ 9 ∧ ns.length < 60) := fun ok => cd (due_ok ok.1 ok.2.1 ok.2.2).1
          have e : nsX n ns = ns := if_neg nok
          exact hk _ _ ⟨rfl, hc6, by rw [e]; exact hz6, hC⟩
      clear hc6 hz6 hC ht6 ht26 hdp sd d
      rintro σ H8 ⟨rfl, hc8, hz8, hC8⟩
      generalize nsX n ns = ns' at *
      -- told = chest.boxes()
      walk_at "gof"
      refine ⟨_, _, _, rfl, hC8.ob, fChest_no (by decide +kernel) (by decide +kernel) (by decide +kernel) (by decide +kernel), ?_⟩
      walk_at "gof"
      refine ⟨p, C', rfl, hC8, fun q hq => ?_⟩
      have hlen' : ns'.length ≤ 60 := by rw [← hM'.len]; exact hC8.sB
      walk_at "gof"
      refine g_lenL (SqL.of (by walk_at "hl")) ?_
      rw [List.length_map]
      refine ⟨_, rfl, RgOk.of_le (by omega) (by omega) (by omega) (by omega), fun r hr3 => ?_⟩
      walk_at "gof"
      have ekeys : (C'.B.map (·.1)).map V.int = rgV 0 (ns'.length : Int) := by
        rw [hM'.ky]
        unfold rgV
        rw [List.map_map, Int.sub_zero, Int.toNat_natCast]
        refine List.map_congr_left fun i _ => ?_
        show V.int (i : Int) = V.int (0 + (i : Int))
        rw [Int.zero_add]
      refine ⟨q, r, C'.B.map (·.1), rfl, by walk_at "hl", (by rw [ekeys]; exact upd_same), by rw [List.length_map, hM'.len]; omega, ?_⟩
      walk_at "gof"
      have s9 : Same H8 (upd (upd H8 q (.lst ((C'.B.map (·.1)).map V.int))) r (.lst (rgV 0 (ns'.length : Int)))) := (Same.new hq).trans (Same.new hr3)
      refine ⟨_, _, _, rfl, s9 _ _ hC8.ob, fChest_no (by decide +kernel) (by decide +kernel) (by decide +kernel) (by decide +kernel), ?_⟩
      walk_at "gof"
      refine ⟨p, C', rfl, hC8.same s9, fun u H9 hu s10 hh => ?_⟩
      have hq9 : H9 q = some (.lst ((C'.B.map (·.1)).map V.int)) := s10 _ _ (by walk_at "hl")
      have eall : (C'.B.filter fun e => e.2.hand) = C'.B := List.filter_eq_self.mpr fun e he => hM'.al e he
      rw [eall] at hh
      walk_at "gof"
      refine ⟨u, q, C'.B.map (·.1), rfl, hh, hq9, by rw [List.length_map, hM'.len]; omega, ?_⟩
      walk_at "gof"
      -- told.append(-1)
      refine ⟨.inl ⟨rfl, _, SqL.of hq9⟩, ?_⟩
      walk_at "gof"
      refine g_append hq9 (by rw [List.length_map, List.length_map, hM'.len]; omega) ?_
      have s89 := s9.trans s10
      refine ⟨C', ns', _, _, _, _, _, rfl, ?_, ?_, hcz, hcC, hzC, ?_, hM'⟩
      · rw [upd_ne (ne_of_none hc8 hq)]; exact s89 _ _ hc8
      · rw [upd_ne (ne_of_none hz8 hq)]; exact s89 _ _ hz8
      · refine (hC8.same s89).keep fun x o hx e => ?_
        rw [upd_ne (fun zz => hC8.fresh hq (by rw [← zz]; exact hx))]; exact e
    · -- behind the loop
      rintro σ H3 ⟨C, ns, v5, v6, v7, v8, v9, rfl, hc3, hz3, hcz, hcC, hzC, hC, hM⟩
      have hlen : ns.length ≤ 60 := by rw [← hM.len]; exact hC.sB
      walk_at "gof"
      refine g_lenL (SqL.of hz3) ?_
      rw [List.length_map]
      refine ⟨_, rfl, by omega, by omega, for_range (lo := 0) (n := ((ns.length : Nat) : Int).toNat) (fun i σ H4 => ∃ v10 : Option V, σ = [some (.ref s0), some (.ref c), some (.int far), some (.ref p), some (.ref z), v5, v6, v7, v8, v9, v10, none, none] ∧ Same H3 H4) ⟨none, rfl, Same.refl _⟩ ?_ ?_⟩
      · rintro i σ H4 hi ⟨v10, rfl, sm⟩
        rw [Int.toNat_natCast] at hi
        obtain ⟨b, hb, b1, b2, b3, b4, b5⟩ := hM.bx i ns[i] (List.getElem?_eq_getElem hi)
        have hC4 := hC.same sm
        walk_at "gof"
        refine g_ixL (SqL.of (sm _ _ hz3)) (at_of (j := i) (by omega) (by rw [List.getElem?_map, List.getElem?_eq_getElem hi]; rfl)) ?_
        refine ⟨p, 0 + (i : Int), ns[i], C, b, rfl, hC4, lk_of_mem hC.kB (by rw [Int.zero_add]; exact List.mem_of_getElem? hb), b1, b4, b5, b3, fun H5 s5 => ?_⟩
        walk_at "gof"
        exact ⟨_, rfl, sm.trans s5⟩
      · rintro σ H4 ⟨v10, rfl, sm⟩
        have hC4 := hC.same sm
        walk_at "gof"
        refine g_lenL (SqL.of (sm _ _ hz3)) ?_
        rw [List.length_map]
        walk_at "gof"
        refine g_rI (by exact ⟨by decide, by decide, by decide⟩) ?_
        walk_at "gof"
        refine ⟨by show 3 ≤ sizeLine; decide, fun l hl => ?_⟩
        walk_at "gof"
        refine g_rI (by exact ⟨by decide, by decide⟩) ?_
        walk_at "gof"
        refine g_rI (by decide) ?_
        have hk0 := Int.emod_nonneg (far / 3) (b := 3) (by decide)
        have hk1 := Int.emod_lt_of_pos (far / 3) (b := 3) (by decide)
        have hk3 : far / 3 % 3 = 0 ∨ far / 3 % 3 = 1 ∨ far / 3 % 3 = 2 := by omega
        have fin : ∀ (bx : Int) (H5 : Hp), Same H4 H5 → (bx < 0 ∨ (ns.length : Int) ≤ bx) →
            tRet (tOp (rEqD K) (tLc (iRng1 (tCons (tC (.int 3)) tNil)) (gName 12) tYes (tCall (spRefused a) [] E0 (tCons (tVar 3) (tCons (tVar 10) (tCons (tC (.int 0)) (tCons (tVar 12) tNil))))) [12])
              (tLst (tCons (tC (.str "box")) (tCons (tC (.str "box")) (tCons (tC (.str "box")) tNil))))) { nx := fun _ H' => Q .non H', rt := Q }
              [some (.ref s0), some (.ref c), some (.int far), some (.ref p), some (.ref z), v5, v6, v7, v8, v9, some (.int bx), none, none] H5 := by
          intro bx H5 s5 hbx
          have hC5 := hC4.same s5
          walk_at "gof"
          refine ⟨_, rfl, by decide, by decide, fun D hD => lc_range (lo := 0) (n := (3 : Int).toNat) (fun i H6 => Same H5 H6 ∧ H6 D = some (.lst (List.replicate i (.str "box")))) ⟨Same.new hD, upd_same⟩ ?_ ?_⟩
          · rintro i H6 hi ⟨s6, hD6⟩
            walk_at "go"
            refine ⟨rfl, ?_⟩
            walk_at "gof"
            refine ⟨p, bx, 0, 0 + (i : Int), C, rfl, hC5.same s6, .inl ⟨key_none hM hbx, fun H7 s7 => ?_⟩⟩
            refine ⟨_, s7 _ _ hD6, small1000 (by rw [List.length_replicate]; have : (3 : Int).toNat = 3 := rfl; omega), fun x o e => ?_, ?_⟩
            · rw [upd_ne (ne_of_none e hD)]; exact s7 _ _ (s6 _ _ e)
            · rw [upd_same, List.replicate_succ']
          · rintro H6 ⟨s6, hD6⟩
            walk_at "gof"
            refine ⟨by show 3 ≤ sizeLine; decide, fun u hu => ?_⟩
            refine g_eqDS (d := .list [.str "box", .str "box", .str "box"]) (.lst (SqL.of (by walk_at "hl")) ?_) (.lst (SqL.of upd_same) (.cons (.str _) (.cons (.str _) (.cons (.str _) .nil)))) (by decide +kernel) ?_
            · exact .cons (.str _) (.cons (.str _) (.cons (.str _) .nil))
            · exact k _
        rcases hk3 with e | e | e
        · refine g_ixL (SqL.of upd_same) (at_of (j := 0) (by omega) rfl) ?_
          walk_at "go1"
          exact fin _ _ (Same.new hl) (.inr (Int.le_refl _))
        · refine g_ixL (SqL.of upd_same) (at_of (j := 1) (by omega) rfl) ?_
          walk_at "go1"
          exact fin _ _ (Same.new hl) (.inl (by decide))
        · refine g_ixL (SqL.of upd_same) (at_of (j := 2) (by omega) rfl) ?_
          walk_at "go1"
          exact fin _ _ (Same.new hl) (.inr (far12 hlen))
end
theorem all_mk {l : PySem.W.OpenLaw} {w : World} {K : PySem.W.Frag} {h : Heap} {mg : Str → Option Value} {fa : Addr} (X : K.In h) (G : h.Ns mainGlobals mg) (hfa : mg "law" = some (.ref fa))
    {p_WillError : Addr}
    {p_NoBox : Addr}
    {p_NoSlot : Addr}
    {p_NoHand : Addr}
    {p_NoPair : Addr}
    {p_NoWill : Addr}
    {p_TooMany : Addr}
    {p_NoText : Addr}
    {p_Box : Addr}
    {p_Chest : Addr}
    {f_Box__init_ : Addr} {od_Box__init_ an_Box__init_ : Option Addr} {sl_Box__init_ : Array (Option Value)} {oc_Box__init_ kV_Box__init_ dc_Box__init_ pm_Box__init_ cd_Box__init_ ct_Box__init_ : Value}
    {f_Chest__init_ : Addr} {od_Chest__init_ an_Chest__init_ : Option Addr} {sl_Chest__init_ : Array (Option Value)} {oc_Chest__init_ kV_Chest__init_ dc_Chest__init_ pm_Chest__init_ cd_Chest__init_ ct_Chest__init_ : Value}
    {f_Chest_make : Addr} {od_Chest_make an_Chest_make : Option Addr} {sl_Chest_make : Array (Option Value)} {oc_Chest_make kV_Chest_make dc_Chest_make pm_Chest_make cd_Chest_make ct_Chest_make : Value}
    {f_Chest_boxes : Addr} {od_Chest_boxes an_Chest_boxes : Option Addr} {sl_Chest_boxes : Array (Option Value)} {oc_Chest_boxes kV_Chest_boxes dc_Chest_boxes pm_Chest_boxes cd_Chest_boxes ct_Chest_boxes : Value}
    {f_Chest_size : Addr} {od_Chest_size an_Chest_size : Option Addr} {sl_Chest_size : Array (Option Value)} {oc_Chest_size kV_Chest_size dc_Chest_size pm_Chest_size cd_Chest_size ct_Chest_size : Value}
    {f_Chest_empty : Addr} {od_Chest_empty an_Chest_empty : Option Addr} {sl_Chest_empty : Array (Option Value)} {oc_Chest_empty kV_Chest_empty dc_Chest_empty pm_Chest_empty cd_Chest_empty ct_Chest_empty : Value}
    {f_Chest_told : Addr} {od_Chest_told an_Chest_told : Option Addr} {sl_Chest_told : Array (Option Value)} {oc_Chest_told kV_Chest_told dc_Chest_told pm_Chest_told cd_Chest_told ct_Chest_told : Value}
    {f_Chest_hands : Addr} {od_Chest_hands an_Chest_hands : Option Addr} {sl_Chest_hands : Array (Option Value)} {oc_Chest_hands kV_Chest_hands dc_Chest_hands pm_Chest_hands cd_Chest_hands ct_Chest_hands : Value}
    {f_Chest_pair : Addr} {od_Chest_pair an_Chest_pair : Option Addr} {sl_Chest_pair : Array (Option Value)} {oc_Chest_pair kV_Chest_pair dc_Chest_pair pm_Chest_pair cd_Chest_pair ct_Chest_pair : Value}
    {f_Chest_pairs : Addr} {od_Chest_pairs an_Chest_pairs : Option Addr} {sl_Chest_pairs : Array (Option Value)} {oc_Chest_pairs kV_Chest_pairs dc_Chest_pairs pm_Chest_pairs cd_Chest_pairs ct_Chest_pairs : Value}
    {f_Chest_will : Addr} {od_Chest_will an_Chest_will : Option Addr} {sl_Chest_will : Array (Option Value)} {oc_Chest_will kV_Chest_will dc_Chest_will pm_Chest_will cd_Chest_will ct_Chest_will : Value}
    {f_Chest_kept_box : Addr} {od_Chest_kept_box an_Chest_kept_box : Option Addr} {sl_Chest_kept_box : Array (Option Value)} {oc_Chest_kept_box kV_Chest_kept_box dc_Chest_kept_box pm_Chest_kept_box cd_Chest_kept_box ct_Chest_kept_box : Value}
    {f_Chest_slots_with : Addr} {od_Chest_slots_with an_Chest_slots_with : Option Addr} {sl_Chest_slots_with : Array (Option Value)} {oc_Chest_slots_with kV_Chest_slots_with dc_Chest_slots_with pm_Chest_slots_with cd_Chest_slots_with ct_Chest_slots_with : Value}
    {f_law_cell_at : Addr} {od_law_cell_at an_law_cell_at : Option Addr} {sl_law_cell_at : Array (Option Value)} {oc_law_cell_at kV_law_cell_at dc_law_cell_at pm_law_cell_at cd_law_cell_at ct_law_cell_at : Value}
    {f_law_whole : Addr} {od_law_whole an_law_whole : Option Addr} {sl_law_whole : Array (Option Value)} {oc_law_whole kV_law_whole dc_law_whole pm_law_whole cd_law_whole ct_law_whole : Value}
    {f_law_mixed : Addr} {od_law_mixed an_law_mixed : Option Addr} {sl_law_mixed : Array (Option Value)} {oc_law_mixed kV_law_mixed dc_law_mixed pm_law_mixed cd_law_mixed ct_law_mixed : Value}
    {f_law_numbers : Addr} {od_law_numbers an_law_numbers : Option Addr} {sl_law_numbers : Array (Option Value)} {oc_law_numbers kV_law_numbers dc_law_numbers pm_law_numbers cd_law_numbers ct_law_numbers : Value}
    {f_law_class : Addr} {od_law_class an_law_class : Option Addr} {sl_law_class : Array (Option Value)} {oc_law_class kV_law_class dc_law_class pm_law_class cd_law_class ct_law_class : Value}
    {f_law_size_by : Addr} {od_law_size_by an_law_size_by : Option Addr} {sl_law_size_by : Array (Option Value)} {oc_law_size_by kV_law_size_by dc_law_size_by pm_law_size_by cd_law_size_by ct_law_size_by : Value}
    {f_law_made : Addr} {od_law_made an_law_made : Option Addr} {sl_law_made : Array (Option Value)} {oc_law_made kV_law_made dc_law_made pm_law_made cd_law_made ct_law_made : Value}
    {f_law_refused : Addr} {od_law_refused an_law_refused : Option Addr} {sl_law_refused : Array (Option Value)} {oc_law_refused kV_law_refused dc_law_refused pm_law_refused cd_law_refused ct_law_refused : Value}
    {f_law_new : Addr} {od_law_new an_law_new : Option Addr} {sl_law_new : Array (Option Value)} {oc_law_new kV_law_new dc_law_new pm_law_new cd_law_new ct_law_new : Value}
    {f_law : Addr} {od_law an_law : Option Addr} {sl_law : Array (Option Value)} {oc_law kV_law dc_law pm_law cd_law ct_law : Value}
    {t_LARGEST_SIZE : Tok}
    {t_MOST_BOXES : Tok}
    {t_MOST_PAIRS : Tok}
    (a_WillError : PySem.W.nsIn K mainGlobals "WillError" = some (some (.ref p_WillError)))
    (a_NoBox : PySem.W.nsIn K mainGlobals "NoBox" = some (some (.ref p_NoBox)))
    (a_NoSlot : PySem.W.nsIn K mainGlobals "NoSlot" = some (some (.ref p_NoSlot)))
    (a_NoHand : PySem.W.nsIn K mainGlobals "NoHand" = some (some (.ref p_NoHand)))
    (a_NoPair : PySem.W.nsIn K mainGlobals "NoPair" = some (some (.ref p_NoPair)))
    (a_NoWill : PySem.W.nsIn K mainGlobals "NoWill" = some (some (.ref p_NoWill)))
    (a_TooMany : PySem.W.nsIn K mainGlobals "TooMany" = some (some (.ref p_TooMany)))
    (a_NoText : PySem.W.nsIn K mainGlobals "NoText" = some (some (.ref p_NoText)))
    (a_Box : PySem.W.nsIn K mainGlobals "Box" = some (some (.ref p_Box)))
    (a_Chest : PySem.W.nsIn K mainGlobals "Chest" = some (some (.ref p_Chest)))
    (a_Box__init_ : PySem.W.findIn K (.ref p_Box) "__init__" = some (some (.ref f_Box__init_)))
    (i_Box__init_ : PySem.W.isFn K (.ref f_Box__init_) = true)
    (l_Box__init_ : K.lookup f_Box__init_ = some ⟨oc_Box__init_, od_Box__init_, .func (PySem.W.fnOf "__init__" "Box.__init__" (defArgs s_Box__init_) (defBody s_Box__init_) (defScope s_Box__init_) .none kV_Box__init_ dc_Box__init_ pm_Box__init_ an_Box__init_ cd_Box__init_ ct_Box__init_), sl_Box__init_⟩)
    (c_Box__init_ : PySem.W.codeIn K cd_Box__init_ "Box.__init__" = true)
    (k_Box__init_ : PySem.W.keepIn K (.ref f_Box__init_) = true)
    (a_Chest__init_ : PySem.W.findIn K (.ref p_Chest) "__init__" = some (some (.ref f_Chest__init_)))
    (i_Chest__init_ : PySem.W.isFn K (.ref f_Chest__init_) = true)
    (l_Chest__init_ : K.lookup f_Chest__init_ = some ⟨oc_Chest__init_, od_Chest__init_, .func (PySem.W.fnOf "__init__" "Chest.__init__" (defArgs s_Chest__init_) (defBody s_Chest__init_) (defScope s_Chest__init_) .none kV_Chest__init_ dc_Chest__init_ pm_Chest__init_ an_Chest__init_ cd_Chest__init_ ct_Chest__init_), sl_Chest__init_⟩)
    (c_Chest__init_ : PySem.W.codeIn K cd_Chest__init_ "Chest.__init__" = true)
    (k_Chest__init_ : PySem.W.keepIn K (.ref f_Chest__init_) = true)
    (a_Chest_make : PySem.W.findIn K (.ref p_Chest) "make" = some (some (.ref f_Chest_make)))
    (i_Chest_make : PySem.W.isFn K (.ref f_Chest_make) = true)
    (l_Chest_make : K.lookup f_Chest_make = some ⟨oc_Chest_make, od_Chest_make, .func (PySem.W.fnOf "make" "Chest.make" (defArgs s_Chest_make) (defBody s_Chest_make) (defScope s_Chest_make) .none kV_Chest_make dc_Chest_make pm_Chest_make an_Chest_make cd_Chest_make ct_Chest_make), sl_Chest_make⟩)
    (c_Chest_make : PySem.W.codeIn K cd_Chest_make "Chest.make" = true)
    (k_Chest_make : PySem.W.keepIn K (.ref f_Chest_make) = true)
    (a_Chest_boxes : PySem.W.findIn K (.ref p_Chest) "boxes" = some (some (.ref f_Chest_boxes)))
    (i_Chest_boxes : PySem.W.isFn K (.ref f_Chest_boxes) = true)
    (l_Chest_boxes : K.lookup f_Chest_boxes = some ⟨oc_Chest_boxes, od_Chest_boxes, .func (PySem.W.fnOf "boxes" "Chest.boxes" (defArgs s_Chest_boxes) (defBody s_Chest_boxes) (defScope s_Chest_boxes) .none kV_Chest_boxes dc_Chest_boxes pm_Chest_boxes an_Chest_boxes cd_Chest_boxes ct_Chest_boxes), sl_Chest_boxes⟩)
    (c_Chest_boxes : PySem.W.codeIn K cd_Chest_boxes "Chest.boxes" = true)
    (k_Chest_boxes : PySem.W.keepIn K (.ref f_Chest_boxes) = true)
    (a_Chest_size : PySem.W.findIn K (.ref p_Chest) "size" = some (some (.ref f_Chest_size)))
    (i_Chest_size : PySem.W.isFn K (.ref f_Chest_size) = true)
    (l_Chest_size : K.lookup f_Chest_size = some ⟨oc_Chest_size, od_Chest_size, .func (PySem.W.fnOf "size" "Chest.size" (defArgs s_Chest_size) (defBody s_Chest_size) (defScope s_Chest_size) .none kV_Chest_size dc_Chest_size pm_Chest_size an_Chest_size cd_Chest_size ct_Chest_size), sl_Chest_size⟩)
    (c_Chest_size : PySem.W.codeIn K cd_Chest_size "Chest.size" = true)
    (k_Chest_size : PySem.W.keepIn K (.ref f_Chest_size) = true)
    (a_Chest_empty : PySem.W.findIn K (.ref p_Chest) "empty" = some (some (.ref f_Chest_empty)))
    (i_Chest_empty : PySem.W.isFn K (.ref f_Chest_empty) = true)
    (l_Chest_empty : K.lookup f_Chest_empty = some ⟨oc_Chest_empty, od_Chest_empty, .func (PySem.W.fnOf "empty" "Chest.empty" (defArgs s_Chest_empty) (defBody s_Chest_empty) (defScope s_Chest_empty) .none kV_Chest_empty dc_Chest_empty pm_Chest_empty an_Chest_empty cd_Chest_empty ct_Chest_empty), sl_Chest_empty⟩)
    (c_Chest_empty : PySem.W.codeIn K cd_Chest_empty "Chest.empty" = true)
    (k_Chest_empty : PySem.W.keepIn K (.ref f_Chest_empty) = true)
    (a_Chest_told : PySem.W.findIn K (.ref p_Chest) "told" = some (some (.ref f_Chest_told)))
    (i_Chest_told : PySem.W.isFn K (.ref f_Chest_told) = true)
    (l_Chest_told : K.lookup f_Chest_told = some ⟨oc_Chest_told, od_Chest_told, .func (PySem.W.fnOf "told" "Chest.told" (defArgs s_Chest_told) (defBody s_Chest_told) (defScope s_Chest_told) .none kV_Chest_told dc_Chest_told pm_Chest_told an_Chest_told cd_Chest_told ct_Chest_told), sl_Chest_told⟩)
    (c_Chest_told : PySem.W.codeIn K cd_Chest_told "Chest.told" = true)
    (k_Chest_told : PySem.W.keepIn K (.ref f_Chest_told) = true)
    (a_Chest_hands : PySem.W.findIn K (.ref p_Chest) "hands" = some (some (.ref f_Chest_hands)))
    (i_Chest_hands : PySem.W.isFn K (.ref f_Chest_hands) = true)
    (l_Chest_hands : K.lookup f_Chest_hands = some ⟨oc_Chest_hands, od_Chest_hands, .func (PySem.W.fnOf "hands" "Chest.hands" (defArgs s_Chest_hands) (defBody s_Chest_hands) (defScope s_Chest_hands) .none kV_Chest_hands dc_Chest_hands pm_Chest_hands an_Chest_hands cd_Chest_hands ct_Chest_hands), sl_Chest_hands⟩)
    (c_Chest_hands : PySem.W.codeIn K cd_Chest_hands "Chest.hands" = true)
    (k_Chest_hands : PySem.W.keepIn K (.ref f_Chest_hands) = true)
    (a_Chest_pair : PySem.W.findIn K (.ref p_Chest) "pair" = some (some (.ref f_Chest_pair)))
    (i_Chest_pair : PySem.W.isFn K (.ref f_Chest_pair) = true)
    (l_Chest_pair : K.lookup f_Chest_pair = some ⟨oc_Chest_pair, od_Chest_pair, .func (PySem.W.fnOf "pair" "Chest.pair" (defArgs s_Chest_pair) (defBody s_Chest_pair) (defScope s_Chest_pair) .none kV_Chest_pair dc_Chest_pair pm_Chest_pair an_Chest_pair cd_Chest_pair ct_Chest_pair), sl_Chest_pair⟩)
    (c_Chest_pair : PySem.W.codeIn K cd_Chest_pair "Chest.pair" = true)
    (k_Chest_pair : PySem.W.keepIn K (.ref f_Chest_pair) = true)
    (a_Chest_pairs : PySem.W.findIn K (.ref p_Chest) "pairs" = some (some (.ref f_Chest_pairs)))
    (i_Chest_pairs : PySem.W.isFn K (.ref f_Chest_pairs) = true)
    (l_Chest_pairs : K.lookup f_Chest_pairs = some ⟨oc_Chest_pairs, od_Chest_pairs, .func (PySem.W.fnOf "pairs" "Chest.pairs" (defArgs s_Chest_pairs) (defBody s_Chest_pairs) (defScope s_Chest_pairs) .none kV_Chest_pairs dc_Chest_pairs pm_Chest_pairs an_Chest_pairs cd_Chest_pairs ct_Chest_pairs), sl_Chest_pairs⟩)
    (c_Chest_pairs : PySem.W.codeIn K cd_Chest_pairs "Chest.pairs" = true)
    (k_Chest_pairs : PySem.W.keepIn K (.ref f_Chest_pairs) = true)
    (a_Chest_will : PySem.W.findIn K (.ref p_Chest) "will" = some (some (.ref f_Chest_will)))
    (i_Chest_will : PySem.W.isFn K (.ref f_Chest_will) = true)
    (l_Chest_will : K.lookup f_Chest_will = some ⟨oc_Chest_will, od_Chest_will, .func (PySem.W.fnOf "will" "Chest.will" (defArgs s_Chest_will) (defBody s_Chest_will) (defScope s_Chest_will) .none kV_Chest_will dc_Chest_will pm_Chest_will an_Chest_will cd_Chest_will ct_Chest_will), sl_Chest_will⟩)
    (c_Chest_will : PySem.W.codeIn K cd_Chest_will "Chest.will" = true)
    (k_Chest_will : PySem.W.keepIn K (.ref f_Chest_will) = true)
    (a_Chest_kept_box : PySem.W.findIn K (.ref p_Chest) "_kept_box" = some (some (.ref f_Chest_kept_box)))
    (i_Chest_kept_box : PySem.W.isFn K (.ref f_Chest_kept_box) = true)
    (l_Chest_kept_box : K.lookup f_Chest_kept_box = some ⟨oc_Chest_kept_box, od_Chest_kept_box, .func (PySem.W.fnOf "_kept_box" "Chest._kept_box" (defArgs s_Chest_kept_box) (defBody s_Chest_kept_box) (defScope s_Chest_kept_box) .none kV_Chest_kept_box dc_Chest_kept_box pm_Chest_kept_box an_Chest_kept_box cd_Chest_kept_box ct_Chest_kept_box), sl_Chest_kept_box⟩)
    (c_Chest_kept_box : PySem.W.codeIn K cd_Chest_kept_box "Chest._kept_box" = true)
    (k_Chest_kept_box : PySem.W.keepIn K (.ref f_Chest_kept_box) = true)
    (a_Chest_slots_with : PySem.W.findIn K (.ref p_Chest) "_slots_with" = some (some (.ref f_Chest_slots_with)))
    (i_Chest_slots_with : PySem.W.isFn K (.ref f_Chest_slots_with) = true)
    (l_Chest_slots_with : K.lookup f_Chest_slots_with = some ⟨oc_Chest_slots_with, od_Chest_slots_with, .func (PySem.W.fnOf "_slots_with" "Chest._slots_with" (defArgs s_Chest_slots_with) (defBody s_Chest_slots_with) (defScope s_Chest_slots_with) .none kV_Chest_slots_with dc_Chest_slots_with pm_Chest_slots_with an_Chest_slots_with cd_Chest_slots_with ct_Chest_slots_with), sl_Chest_slots_with⟩)
    (c_Chest_slots_with : PySem.W.codeIn K cd_Chest_slots_with "Chest._slots_with" = true)
    (k_Chest_slots_with : PySem.W.keepIn K (.ref f_Chest_slots_with) = true)
    (a_law_cell_at : PySem.W.nsIn K mainGlobals "_law_cell_at" = some (some (.ref f_law_cell_at)))
    (l_law_cell_at : K.lookup f_law_cell_at = some ⟨oc_law_cell_at, od_law_cell_at, .func (PySem.W.fnOf "_law_cell_at" "_law_cell_at" (defArgs s_law_cell_at) (defBody s_law_cell_at) (defScope s_law_cell_at) .none kV_law_cell_at dc_law_cell_at pm_law_cell_at an_law_cell_at cd_law_cell_at ct_law_cell_at), sl_law_cell_at⟩)
    (c_law_cell_at : PySem.W.codeIn K cd_law_cell_at "_law_cell_at" = true)
    (k_law_cell_at : PySem.W.keepIn K (.ref f_law_cell_at) = true)
    (a_law_whole : PySem.W.nsIn K mainGlobals "_law_whole" = some (some (.ref f_law_whole)))
    (l_law_whole : K.lookup f_law_whole = some ⟨oc_law_whole, od_law_whole, .func (PySem.W.fnOf "_law_whole" "_law_whole" (defArgs s_law_whole) (defBody s_law_whole) (defScope s_law_whole) .none kV_law_whole dc_law_whole pm_law_whole an_law_whole cd_law_whole ct_law_whole), sl_law_whole⟩)
    (c_law_whole : PySem.W.codeIn K cd_law_whole "_law_whole" = true)
    (k_law_whole : PySem.W.keepIn K (.ref f_law_whole) = true)
    (a_law_mixed : PySem.W.nsIn K mainGlobals "_law_mixed" = some (some (.ref f_law_mixed)))
    (l_law_mixed : K.lookup f_law_mixed = some ⟨oc_law_mixed, od_law_mixed, .func (PySem.W.fnOf "_law_mixed" "_law_mixed" (defArgs s_law_mixed) (defBody s_law_mixed) (defScope s_law_mixed) .none kV_law_mixed dc_law_mixed pm_law_mixed an_law_mixed cd_law_mixed ct_law_mixed), sl_law_mixed⟩)
    (c_law_mixed : PySem.W.codeIn K cd_law_mixed "_law_mixed" = true)
    (k_law_mixed : PySem.W.keepIn K (.ref f_law_mixed) = true)
    (a_law_numbers : PySem.W.nsIn K mainGlobals "_law_numbers" = some (some (.ref f_law_numbers)))
    (l_law_numbers : K.lookup f_law_numbers = some ⟨oc_law_numbers, od_law_numbers, .func (PySem.W.fnOf "_law_numbers" "_law_numbers" (defArgs s_law_numbers) (defBody s_law_numbers) (defScope s_law_numbers) .none kV_law_numbers dc_law_numbers pm_law_numbers an_law_numbers cd_law_numbers ct_law_numbers), sl_law_numbers⟩)
    (c_law_numbers : PySem.W.codeIn K cd_law_numbers "_law_numbers" = true)
    (k_law_numbers : PySem.W.keepIn K (.ref f_law_numbers) = true)
    (a_law_class : PySem.W.nsIn K mainGlobals "_law_class" = some (some (.ref f_law_class)))
    (l_law_class : K.lookup f_law_class = some ⟨oc_law_class, od_law_class, .func (PySem.W.fnOf "_law_class" "_law_class" (defArgs s_law_class) (defBody s_law_class) (defScope s_law_class) .none kV_law_class dc_law_class pm_law_class an_law_class cd_law_class ct_law_class), sl_law_class⟩)
    (c_law_class : PySem.W.codeIn K cd_law_class "_law_class" = true)
    (k_law_class : PySem.W.keepIn K (.ref f_law_class) = true)
    (a_law_size_by : PySem.W.nsIn K mainGlobals "_law_size_by" = some (some (.ref f_law_size_by)))
    (l_law_size_by : K.lookup f_law_size_by = some ⟨oc_law_size_by, od_law_size_by, .func (PySem.W.fnOf "_law_size_by" "_law_size_by" (defArgs s_law_size_by) (defBody s_law_size_by) (defScope s_law_size_by) .none kV_law_size_by dc_law_size_by pm_law_size_by an_law_size_by cd_law_size_by ct_law_size_by), sl_law_size_by⟩)
    (c_law_size_by : PySem.W.codeIn K cd_law_size_by "_law_size_by" = true)
    (k_law_size_by : PySem.W.keepIn K (.ref f_law_size_by) = true)
    (a_law_made : PySem.W.nsIn K mainGlobals "_law_made" = some (some (.ref f_law_made)))
    (l_law_made : K.lookup f_law_made = some ⟨oc_law_made, od_law_made, .func (PySem.W.fnOf "_law_made" "_law_made" (defArgs s_law_made) (defBody s_law_made) (defScope s_law_made) .none kV_law_made dc_law_made pm_law_made an_law_made cd_law_made ct_law_made), sl_law_made⟩)
    (c_law_made : PySem.W.codeIn K cd_law_made "_law_made" = true)
    (k_law_made : PySem.W.keepIn K (.ref f_law_made) = true)
    (a_law_refused : PySem.W.nsIn K mainGlobals "_law_refused" = some (some (.ref f_law_refused)))
    (l_law_refused : K.lookup f_law_refused = some ⟨oc_law_refused, od_law_refused, .func (PySem.W.fnOf "_law_refused" "_law_refused" (defArgs s_law_refused) (defBody s_law_refused) (defScope s_law_refused) .none kV_law_refused dc_law_refused pm_law_refused an_law_refused cd_law_refused ct_law_refused), sl_law_refused⟩)
    (c_law_refused : PySem.W.codeIn K cd_law_refused "_law_refused" = true)
    (k_law_refused : PySem.W.keepIn K (.ref f_law_refused) = true)
    (a_law_new : PySem.W.nsIn K mainGlobals "_law_new" = some (some (.ref f_law_new)))
    (l_law_new : K.lookup f_law_new = some ⟨oc_law_new, od_law_new, .func (PySem.W.fnOf "_law_new" "_law_new" (defArgs s_law_new) (defBody s_law_new) (defScope s_law_new) .none kV_law_new dc_law_new pm_law_new an_law_new cd_law_new ct_law_new), sl_law_new⟩)
    (c_law_new : PySem.W.codeIn K cd_law_new "_law_new" = true)
    (k_law_new : PySem.W.keepIn K (.ref f_law_new) = true)
    (a_law : PySem.W.nsIn K mainGlobals "law" = some (some (.ref f_law)))
    (l_law : K.lookup f_law = some ⟨oc_law, od_law, .func (PySem.W.fnOf "law" "law" (defArgs s_law) (defBody s_law) (defScope s_law) .none kV_law dc_law pm_law an_law cd_law ct_law), sl_law⟩)
    (c_law : PySem.W.codeIn K cd_law "law" = true)
    (k_law : PySem.W.keepIn K (.ref f_law) = true)
    (pg_Box : PySem.W.plainGet K p_Box Str.empty = true)
    (hd_Box : PySem.W.hasDictIn K p_Box = true)
    (po_Box : PySem.W.plainOver K p_Box = true)
    (sa_Box : PySem.W.findIn K (.ref p_Box) "__setattr__" = some (some (.builtin "object.__setattr__")))
    (mk_Box : PySem.W.makesIn K p_Box = true)
    (kc_Box : PySem.W.keepIn K (.ref p_Box) = true)
    (na_Box_slots : PySem.W.findIn K (.ref p_Box) "slots" = some none)
    (na_Box_in_hands : PySem.W.findIn K (.ref p_Box) "in_hands" = some none)
    (na_Box_deeds : PySem.W.findIn K (.ref p_Box) "deeds" = some none)
    (pg_Chest : PySem.W.plainGet K p_Chest Str.empty = true)
    (hd_Chest : PySem.W.hasDictIn K p_Chest = true)
    (po_Chest : PySem.W.plainOver K p_Chest = true)
    (sa_Chest : PySem.W.findIn K (.ref p_Chest) "__setattr__" = some (some (.builtin "object.__setattr__")))
    (mk_Chest : PySem.W.makesIn K p_Chest = true)
    (kc_Chest : PySem.W.keepIn K (.ref p_Chest) = true)
    (na_Chest_next_box : PySem.W.findIn K (.ref p_Chest) "next_box" = some none)
    (na_Chest_next_pair : PySem.W.findIn K (.ref p_Chest) "next_pair" = some none)
    (na_Chest_kept_boxes : PySem.W.findIn K (.ref p_Chest) "kept_boxes" = some none)
    (na_Chest_kept_pairs : PySem.W.findIn K (.ref p_Chest) "kept_pairs" = some none)
    (sW : PySem.W.subIn K (.ref p_WillError) (.type "BaseException") = some true)
    (dW : PySem.W.hasDictIn K p_WillError = true)
    (tW : PySem.W.typeIn K (.ref p_WillError) = some (.type "type"))
    (xn : PySem.W.specialIn K (.builtin "object.__class__") "__get__" = some (some (.builtin "getset_descriptor.__get__")))
    (xt : PySem.W.takesIn K (.builtin "object.__class__") = some true)
    (ic_NoBox : PySem.W.isClsIn K p_NoBox = true)
    (it_NoBox : PySem.W.typeIn K (.ref p_NoBox) = some (.type "type"))
    (ss_NoBox : PySem.W.subIn K (.ref p_NoBox) (.ref p_NoBox) = some true)
    (ic_NoSlot : PySem.W.isClsIn K p_NoSlot = true)
    (it_NoSlot : PySem.W.typeIn K (.ref p_NoSlot) = some (.type "type"))
    (ss_NoSlot : PySem.W.subIn K (.ref p_NoSlot) (.ref p_NoSlot) = some true)
    (ic_NoHand : PySem.W.isClsIn K p_NoHand = true)
    (it_NoHand : PySem.W.typeIn K (.ref p_NoHand) = some (.type "type"))
    (ss_NoHand : PySem.W.subIn K (.ref p_NoHand) (.ref p_NoHand) = some true)
    (ic_NoPair : PySem.W.isClsIn K p_NoPair = true)
    (it_NoPair : PySem.W.typeIn K (.ref p_NoPair) = some (.type "type"))
    (ss_NoPair : PySem.W.subIn K (.ref p_NoPair) (.ref p_NoPair) = some true)
    (ic_NoWill : PySem.W.isClsIn K p_NoWill = true)
    (it_NoWill : PySem.W.typeIn K (.ref p_NoWill) = some (.type "type"))
    (ss_NoWill : PySem.W.subIn K (.ref p_NoWill) (.ref p_NoWill) = some true)
    (ic_TooMany : PySem.W.isClsIn K p_TooMany = true)
    (it_TooMany : PySem.W.typeIn K (.ref p_TooMany) = some (.type "type"))
    (ss_TooMany : PySem.W.subIn K (.ref p_TooMany) (.ref p_TooMany) = some true)
    (ic_NoText : PySem.W.isClsIn K p_NoText = true)
    (it_NoText : PySem.W.typeIn K (.ref p_NoText) = some (.type "type"))
    (ss_NoText : PySem.W.subIn K (.ref p_NoText) (.ref p_NoText) = some true)
    (x_NoSlot : PySem.W.excIn K p_NoSlot [.type "ValueError", .type "Exception", .type "BaseException", .type "object"] "ValueError.__new__" = true)
    (xk_NoSlot : PySem.W.keepIn K (.ref p_NoSlot) = true)
    (xs_NoSlot : PySem.W.subIn K (.ref p_NoSlot) (.type "BaseException") = some true)
    (xy_NoSlot : PySem.W.typeIn K (.ref p_NoSlot) = some (.type "type"))
    (xg_NoSlot : PySem.W.findIn K (.ref p_NoSlot) "__getattribute__" = some (some (.builtin "BaseException.__getattribute__")))
    (xh_NoSlot : PySem.W.findIn K (.ref p_NoSlot) "__getattr__" = some none)
    (xd_NoSlot : PySem.W.hasDictIn K p_NoSlot = true)
    (xc_NoSlot : PySem.W.findIn K (.ref p_NoSlot) "__class__" = some (some (.builtin "object.__class__")))
    (xm_NoSlot : PySem.W.mroIn K p_NoSlot (.type "object") = some true)
    (xw_NoSlot : PySem.W.subIn K (.ref p_NoSlot) (.ref p_WillError) = some true)
    (is_NoSlot_NoBox : PySem.W.subIn K (.ref p_NoSlot) (.ref p_NoBox) = some false)
    (is_NoSlot_NoSlot : PySem.W.subIn K (.ref p_NoSlot) (.ref p_NoSlot) = some true)
    (is_NoSlot_NoHand : PySem.W.subIn K (.ref p_NoSlot) (.ref p_NoHand) = some false)
    (is_NoSlot_NoPair : PySem.W.subIn K (.ref p_NoSlot) (.ref p_NoPair) = some false)
    (is_NoSlot_NoWill : PySem.W.subIn K (.ref p_NoSlot) (.ref p_NoWill) = some false)
    (is_NoSlot_TooMany : PySem.W.subIn K (.ref p_NoSlot) (.ref p_TooMany) = some false)
    (is_NoSlot_NoText : PySem.W.subIn K (.ref p_NoSlot) (.ref p_NoText) = some false)
    (is_NoSlot_ValueError : PySem.W.subIn K (.ref p_NoSlot) (.type "ValueError") = some true)
    (x_TooMany : PySem.W.excIn K p_TooMany [.type "ValueError", .type "Exception", .type "BaseException", .type "object"] "ValueError.__new__" = true)
    (xk_TooMany : PySem.W.keepIn K (.ref p_TooMany) = true)
    (xs_TooMany : PySem.W.subIn K (.ref p_TooMany) (.type "BaseException") = some true)
    (xy_TooMany : PySem.W.typeIn K (.ref p_TooMany) = some (.type "type"))
    (xg_TooMany : PySem.W.findIn K (.ref p_TooMany) "__getattribute__" = some (some (.builtin "BaseException.__getattribute__")))
    (xh_TooMany : PySem.W.findIn K (.ref p_TooMany) "__getattr__" = some none)
    (xd_TooMany : PySem.W.hasDictIn K p_TooMany = true)
    (xc_TooMany : PySem.W.findIn K (.ref p_TooMany) "__class__" = some (some (.builtin "object.__class__")))
    (xm_TooMany : PySem.W.mroIn K p_TooMany (.type "object") = some true)
    (xw_TooMany : PySem.W.subIn K (.ref p_TooMany) (.ref p_WillError) = some true)
    (is_TooMany_NoBox : PySem.W.subIn K (.ref p_TooMany) (.ref p_NoBox) = some false)
    (is_TooMany_NoSlot : PySem.W.subIn K (.ref p_TooMany) (.ref p_NoSlot) = some false)
    (is_TooMany_NoHand : PySem.W.subIn K (.ref p_TooMany) (.ref p_NoHand) = some false)
    (is_TooMany_NoPair : PySem.W.subIn K (.ref p_TooMany) (.ref p_NoPair) = some false)
    (is_TooMany_NoWill : PySem.W.subIn K (.ref p_TooMany) (.ref p_NoWill) = some false)
    (is_TooMany_TooMany : PySem.W.subIn K (.ref p_TooMany) (.ref p_TooMany) = some true)
    (is_TooMany_NoText : PySem.W.subIn K (.ref p_TooMany) (.ref p_NoText) = some false)
    (is_TooMany_ValueError : PySem.W.subIn K (.ref p_TooMany) (.type "ValueError") = some true)
    (x_NoBox : PySem.W.excIn K p_NoBox [.type "ValueError", .type "Exception", .type "BaseException", .type "object"] "ValueError.__new__" = true)
    (xk_NoBox : PySem.W.keepIn K (.ref p_NoBox) = true)
    (xs_NoBox : PySem.W.subIn K (.ref p_NoBox) (.type "BaseException") = some true)
    (xy_NoBox : PySem.W.typeIn K (.ref p_NoBox) = some (.type "type"))
    (xg_NoBox : PySem.W.findIn K (.ref p_NoBox) "__getattribute__" = some (some (.builtin "BaseException.__getattribute__")))
    (xh_NoBox : PySem.W.findIn K (.ref p_NoBox) "__getattr__" = some none)
    (xd_NoBox : PySem.W.hasDictIn K p_NoBox = true)
    (xc_NoBox : PySem.W.findIn K (.ref p_NoBox) "__class__" = some (some (.builtin "object.__class__")))
    (xm_NoBox : PySem.W.mroIn K p_NoBox (.type "object") = some true)
    (xw_NoBox : PySem.W.subIn K (.ref p_NoBox) (.ref p_WillError) = some true)
    (is_NoBox_NoBox : PySem.W.subIn K (.ref p_NoBox) (.ref p_NoBox) = some true)
    (is_NoBox_NoSlot : PySem.W.subIn K (.ref p_NoBox) (.ref p_NoSlot) = some false)
    (is_NoBox_NoHand : PySem.W.subIn K (.ref p_NoBox) (.ref p_NoHand) = some false)
    (is_NoBox_NoPair : PySem.W.subIn K (.ref p_NoBox) (.ref p_NoPair) = some false)
    (is_NoBox_NoWill : PySem.W.subIn K (.ref p_NoBox) (.ref p_NoWill) = some false)
    (is_NoBox_TooMany : PySem.W.subIn K (.ref p_NoBox) (.ref p_TooMany) = some false)
    (is_NoBox_NoText : PySem.W.subIn K (.ref p_NoBox) (.ref p_NoText) = some false)
    (is_NoBox_ValueError : PySem.W.subIn K (.ref p_NoBox) (.type "ValueError") = some true)
    (g_LARGEST_SIZE : PySem.W.nsIn K mainGlobals "LARGEST_SIZE" = some (some (.int 9 t_LARGEST_SIZE)))
    (g_MOST_BOXES : PySem.W.nsIn K mainGlobals "MOST_BOXES" = some (some (.int 60 t_MOST_BOXES)))
    (g_MOST_PAIRS : PySem.W.nsIn K mainGlobals "MOST_PAIRS" = some (some (.int 60 t_MOST_PAIRS)))
    (z_ValueError : PySem.W.nsIn K mainGlobals "ValueError" = some none)
    (z_all : PySem.W.nsIn K mainGlobals "all" = some none)
    (z_bool : PySem.W.nsIn K mainGlobals "bool" = some none)
    (z_int : PySem.W.nsIn K mainGlobals "int" = some none)
    (z_isinstance : PySem.W.nsIn K mainGlobals "isinstance" = some none)
    (z_len : PySem.W.nsIn K mainGlobals "len" = some none)
    (z_list : PySem.W.nsIn K mainGlobals "list" = some none)
    (z_range : PySem.W.nsIn K mainGlobals "range" = some none)
    (z_sorted : PySem.W.nsIn K mainGlobals "sorted" = some none)
    : ∃ fd : FuncData, (∀ (s : Shared) (v : Value), BindsTo s fd ⟨[v], []⟩ [("_law_script", v)]) ∧ ∀ base : Heap, K.In base → base.Ns mainGlobals mg → FnOk l.prog w K mg base (CN l.prog w) 6 fa fd ["_law_script"] (spLaw K) := by
  have e := hfa.symm.trans (PySem.W.mg_of X G a_law)
  cases e
  have F_Box__init_ := fun_mk (st := s_Box__init_) l_Box__init_ c_Box__init_ k_Box__init_
  have b_Box__init_ := F_Box__init_.binds (ps := ["self", "size"]) fun _ _ _ _ _ _ us hl => match us, hl with | [_, _], _ => rfl
  have F_Chest__init_ := fun_mk (st := s_Chest__init_) l_Chest__init_ c_Chest__init_ k_Chest__init_
  have b_Chest__init_ := F_Chest__init_.binds (ps := ["self"]) fun _ _ _ _ _ _ us hl => match us, hl with | [_], _ => rfl
  have F_Chest_make := fun_mk (st := s_Chest_make) l_Chest_make c_Chest_make k_Chest_make
  have b_Chest_make := F_Chest_make.binds (ps := ["self", "size"]) fun _ _ _ _ _ _ us hl => match us, hl with | [_, _], _ => rfl
  have F_Chest_boxes := fun_mk (st := s_Chest_boxes) l_Chest_boxes c_Chest_boxes k_Chest_boxes
  have b_Chest_boxes := F_Chest_boxes.binds (ps := ["self"]) fun _ _ _ _ _ _ us hl => match us, hl with | [_], _ => rfl
  have F_Chest_size := fun_mk (st := s_Chest_size) l_Chest_size c_Chest_size k_Chest_size
  have b_Chest_size := F_Chest_size.binds (ps := ["self", "box"]) fun _ _ _ _ _ _ us hl => match us, hl with | [_, _], _ => rfl
  have F_Chest_empty := fun_mk (st := s_Chest_empty) l_Chest_empty c_Chest_empty k_Chest_empty
  have b_Chest_empty := F_Chest_empty.binds (ps := ["self", "box", "slot"]) fun _ _ _ _ _ _ us hl => match us, hl with | [_, _, _], _ => rfl
  have F_Chest_told := fun_mk (st := s_Chest_told) l_Chest_told c_Chest_told k_Chest_told
  have b_Chest_told := F_Chest_told.binds (ps := ["self", "box", "slot"]) fun _ _ _ _ _ _ us hl => match us, hl with | [_, _, _], _ => rfl
  have F_Chest_hands := fun_mk (st := s_Chest_hands) l_Chest_hands c_Chest_hands k_Chest_hands
  have b_Chest_hands := F_Chest_hands.binds (ps := ["self"]) fun _ _ _ _ _ _ us hl => match us, hl with | [_], _ => rfl
  have F_Chest_pair := fun_mk (st := s_Chest_pair) l_Chest_pair c_Chest_pair k_Chest_pair
  have b_Chest_pair := F_Chest_pair.binds (ps := ["self", "home", "key", "other"]) fun _ _ _ _ _ _ us hl => match us, hl with | [_, _, _, _], _ => rfl
  have F_Chest_pairs := fun_mk (st := s_Chest_pairs) l_Chest_pairs c_Chest_pairs k_Chest_pairs
  have b_Chest_pairs := F_Chest_pairs.binds (ps := ["self"]) fun _ _ _ _ _ _ us hl => match us, hl with | [_], _ => rfl
  have F_Chest_will := fun_mk (st := s_Chest_will) l_Chest_will c_Chest_will k_Chest_will
  have b_Chest_will := F_Chest_will.binds (ps := ["self", "box"]) fun _ _ _ _ _ _ us hl => match us, hl with | [_, _], _ => rfl
  have F_Chest_kept_box := fun_mk (st := s_Chest_kept_box) l_Chest_kept_box c_Chest_kept_box k_Chest_kept_box
  have b_Chest_kept_box := F_Chest_kept_box.binds (ps := ["self", "box"]) fun _ _ _ _ _ _ us hl => match us, hl with | [_, _], _ => rfl
  have F_Chest_slots_with := fun_mk (st := s_Chest_slots_with) l_Chest_slots_with c_Chest_slots_with k_Chest_slots_with
  have b_Chest_slots_with := F_Chest_slots_with.binds (ps := ["self", "box", "slot"]) fun _ _ _ _ _ _ us hl => match us, hl with | [_, _, _], _ => rfl
  have F_law_cell_at := fun_mk (st := s_law_cell_at) l_law_cell_at c_law_cell_at k_law_cell_at
  have b_law_cell_at := F_law_cell_at.binds (ps := ["_law_script", "_law_k"]) fun _ _ _ _ _ _ us hl => match us, hl with | [_, _], _ => rfl
  have F_law_whole := fun_mk (st := s_law_whole) l_law_whole c_law_whole k_law_whole
  have b_law_whole := F_law_whole.binds (ps := ["_law_found"]) fun _ _ _ _ _ _ us hl => match us, hl with | [_], _ => rfl
  have F_law_mixed := fun_mk (st := s_law_mixed) l_law_mixed c_law_mixed k_law_mixed
  have b_law_mixed := F_law_mixed.binds (ps := ["_law_cell", "_law_k", "_law_many"]) fun _ _ _ _ _ _ us hl => match us, hl with | [_, _, _], _ => rfl
  have F_law_numbers := fun_mk (st := s_law_numbers) l_law_numbers c_law_numbers k_law_numbers
  have b_law_numbers := F_law_numbers.binds (ps := ["_law_found", "_law_due"]) fun _ _ _ _ _ _ us hl => match us, hl with | [_, _], _ => rfl
  have F_law_class := fun_mk (st := s_law_class) l_law_class c_law_class k_law_class
  have b_law_class := F_law_class.binds (ps := ["_law_e"]) fun _ _ _ _ _ _ us hl => match us, hl with | [_], _ => rfl
  have F_law_size_by := fun_mk (st := s_law_size_by) l_law_size_by c_law_size_by k_law_size_by
  have b_law_size_by := F_law_size_by.binds (ps := ["_law_cell"]) fun _ _ _ _ _ _ us hl => match us, hl with | [_], _ => rfl
  have F_law_made := fun_mk (st := s_law_made) l_law_made c_law_made k_law_made
  have b_law_made := F_law_made.binds (ps := ["_law_chest", "_law_size"]) fun _ _ _ _ _ _ us hl => match us, hl with | [_, _], _ => rfl
  have F_law_refused := fun_mk (st := s_law_refused) l_law_refused c_law_refused k_law_refused
  have b_law_refused := F_law_refused.binds (ps := ["_law_chest", "_law_box", "_law_slot", "_law_way"]) fun _ _ _ _ _ _ us hl => match us, hl with | [_, _, _, _], _ => rfl
  have F_law_new := fun_mk (st := s_law_new) l_law_new c_law_new k_law_new
  have b_law_new := F_law_new.binds (ps := ["_law_chest", "_law_box", "_law_size"]) fun _ _ _ _ _ _ us hl => match us, hl with | [_, _, _], _ => rfl
  have F_law := fun_mk (st := s_law) l_law c_law k_law
  have b_law := F_law.binds (ps := ["_law_script"]) fun _ _ _ _ _ _ us hl => match us, hl with | [_], _ => rfl
  have T : Txt { WillError := p_WillError, NoBox := p_NoBox, NoSlot := p_NoSlot, NoHand := p_NoHand, NoPair := p_NoPair, NoWill := p_NoWill, TooMany := p_TooMany, NoText := p_NoText, Box := p_Box, Chest := p_Chest, f_Box__init_ := f_Box__init_, fd_Box__init_ := (PySem.W.fnOf "__init__" "Box.__init__" (defArgs s_Box__init_) (defBody s_Box__init_) (defScope s_Box__init_) .none kV_Box__init_ dc_Box__init_ pm_Box__init_ an_Box__init_ cd_Box__init_ ct_Box__init_), f_Chest__init_ := f_Chest__init_, fd_Chest__init_ := (PySem.W.fnOf "__init__" "Chest.__init__" (defArgs s_Chest__init_) (defBody s_Chest__init_) (defScope s_Chest__init_) .none kV_Chest__init_ dc_Chest__init_ pm_Chest__init_ an_Chest__init_ cd_Chest__init_ ct_Chest__init_), f_Chest_make := f_Chest_make, fd_Chest_make := (PySem.W.fnOf "make" "Chest.make" (defArgs s_Chest_make) (defBody s_Chest_make) (defScope s_Chest_make) .none kV_Chest_make dc_Chest_make pm_Chest_make an_Chest_make cd_Chest_make ct_Chest_make), f_Chest_boxes := f_Chest_boxes, fd_Chest_boxes := (PySem.W.fnOf "boxes" "Chest.boxes" (defArgs s_Chest_boxes) (defBody s_Chest_boxes) (defScope s_Chest_boxes) .none kV_Chest_boxes dc_Chest_boxes pm_Chest_boxes an_Chest_boxes cd_Chest_boxes ct_Chest_boxes), f_Chest_size := f_Chest_size, fd_Chest_size := (PySem.W.fnOf "size" "Chest.size" (defArgs s_Chest_size) (defBody s_Chest_size) (defScope s_Chest_size) .none kV_Chest_size dc_Chest_size pm_Chest_size an_Chest_size cd_Chest_size ct_Chest_size), f_Chest_empty := f_Chest_empty, fd_Chest_empty := (PySem.W.fnOf "empty" "Chest.empty" (defArgs s_Chest_empty) (defBody s_Chest_empty) (defScope s_Chest_empty) .none kV_Chest_empty dc_Chest_empty pm_Chest_empty an_Chest_empty cd_Chest_empty ct_Chest_empty), f_Chest_told := f_Chest_told, fd_Chest_told := (PySem.W.fnOf "told" "Chest.told" (defArgs s_Chest_told) (defBody s_Chest_told) (defScope s_Chest_told) .none kV_Chest_told dc_Chest_told pm_Chest_told an_Chest_told cd_Chest_told ct_Chest_told), f_Chest_hands := f_Chest_hands, fd_Chest_hands := (PySem.W.fnOf "hands" "Chest.hands" (defArgs s_Chest_hands) (defBody s_Chest_hands) (defScope s_Chest_hands) .none kV_Chest_hands dc_Chest_hands pm_Chest_hands an_Chest_hands cd_Chest_hands ct_Chest_hands), f_Chest_pair := f_Chest_pair, fd_Chest_pair := (PySem.W.fnOf "pair" "Chest.pair" (defArgs s_Chest_pair) (defBody s_Chest_pair) (defScope s_Chest_pair) .none kV_Chest_pair dc_Chest_pair pm_Chest_pair an_Chest_pair cd_Chest_pair ct_Chest_pair), f_Chest_pairs := f_Chest_pairs, fd_Chest_pairs := (PySem.W.fnOf "pairs" "Chest.pairs" (defArgs s_Chest_pairs) (defBody s_Chest_pairs) (defScope s_Chest_pairs) .none kV_Chest_pairs dc_Chest_pairs pm_Chest_pairs an_Chest_pairs cd_Chest_pairs ct_Chest_pairs), f_Chest_will := f_Chest_will, fd_Chest_will := (PySem.W.fnOf "will" "Chest.will" (defArgs s_Chest_will) (defBody s_Chest_will) (defScope s_Chest_will) .none kV_Chest_will dc_Chest_will pm_Chest_will an_Chest_will cd_Chest_will ct_Chest_will), f_Chest_kept_box := f_Chest_kept_box, fd_Chest_kept_box := (PySem.W.fnOf "_kept_box" "Chest._kept_box" (defArgs s_Chest_kept_box) (defBody s_Chest_kept_box) (defScope s_Chest_kept_box) .none kV_Chest_kept_box dc_Chest_kept_box pm_Chest_kept_box an_Chest_kept_box cd_Chest_kept_box ct_Chest_kept_box), f_Chest_slots_with := f_Chest_slots_with, fd_Chest_slots_with := (PySem.W.fnOf "_slots_with" "Chest._slots_with" (defArgs s_Chest_slots_with) (defBody s_Chest_slots_with) (defScope s_Chest_slots_with) .none kV_Chest_slots_with dc_Chest_slots_with pm_Chest_slots_with an_Chest_slots_with cd_Chest_slots_with ct_Chest_slots_with), f_law_cell_at := f_law_cell_at, fd_law_cell_at := (PySem.W.fnOf "_law_cell_at" "_law_cell_at" (defArgs s_law_cell_at) (defBody s_law_cell_at) (defScope s_law_cell_at) .none kV_law_cell_at dc_law_cell_at pm_law_cell_at an_law_cell_at cd_law_cell_at ct_law_cell_at), f_law_whole := f_law_whole, fd_law_whole := (PySem.W.fnOf "_law_whole" "_law_whole" (defArgs s_law_whole) (defBody s_law_whole) (defScope s_law_whole) .none kV_law_whole dc_law_whole pm_law_whole an_law_whole cd_law_whole ct_law_whole), f_law_mixed := f_law_mixed, fd_law_mixed := (PySem.W.fnOf "_law_mixed" "_law_mixed" (defArgs s_law_mixed) (defBody s_law_mixed) (defScope s_law_mixed) .none kV_law_mixed dc_law_mixed pm_law_mixed an_law_mixed cd_law_mixed ct_law_mixed), f_law_numbers := f_law_numbers, fd_law_numbers := (PySem.W.fnOf "_law_numbers" "_law_numbers" (defArgs s_law_numbers) (defBody s_law_numbers) (defScope s_law_numbers) .none kV_law_numbers dc_law_numbers pm_law_numbers an_law_numbers cd_law_numbers ct_law_numbers), f_law_class := f_law_class, fd_law_class := (PySem.W.fnOf "_law_class" "_law_class" (defArgs s_law_class) (defBody s_law_class) (defScope s_law_class) .none kV_law_class dc_law_class pm_law_class an_law_class cd_law_class ct_law_class), f_law_size_by := f_law_size_by, fd_law_size_by := (PySem.W.fnOf "_law_size_by" "_law_size_by" (defArgs s_law_size_by) (defBody s_law_size_by) (defScope s_law_size_by) .none kV_law_size_by dc_law_size_by pm_law_size_by an_law_size_by cd_law_size_by ct_law_size_by), f_law_made := f_law_made, fd_law_made := (PySem.W.fnOf "_law_made" "_law_made" (defArgs s_law_made) (defBody s_law_made) (defScope s_law_made) .none kV_law_made dc_law_made pm_law_made an_law_made cd_law_made ct_law_made), f_law_refused := f_law_refused, fd_law_refused := (PySem.W.fnOf "_law_refused" "_law_refused" (defArgs s_law_refused) (defBody s_law_refused) (defScope s_law_refused) .none kV_law_refused dc_law_refused pm_law_refused an_law_refused cd_law_refused ct_law_refused), f_law_new := f_law_new, fd_law_new := (PySem.W.fnOf "_law_new" "_law_new" (defArgs s_law_new) (defBody s_law_new) (defScope s_law_new) .none kV_law_new dc_law_new pm_law_new an_law_new cd_law_new ct_law_new), f_law := fa, fd_law := (PySem.W.fnOf "law" "law" (defArgs s_law) (defBody s_law) (defScope s_law) .none kV_law dc_law pm_law an_law cd_law ct_law), t_LARGEST_SIZE := t_LARGEST_SIZE, t_MOST_BOXES := t_MOST_BOXES, t_MOST_PAIRS := t_MOST_PAIRS } K mg := { F_Box__init_ := F_Box__init_, b_Box__init_ := b_Box__init_, F_Chest__init_ := F_Chest__init_, b_Chest__init_ := b_Chest__init_, F_Chest_make := F_Chest_make, b_Chest_make := b_Chest_make, m_Chest_make := ⟨a_Chest_make, i_Chest_make, k_Chest_make⟩, F_Chest_boxes := F_Chest_boxes, b_Chest_boxes := b_Chest_boxes, m_Chest_boxes := ⟨a_Chest_boxes, i_Chest_boxes, k_Chest_boxes⟩, F_Chest_size := F_Chest_size, b_Chest_size := b_Chest_size, m_Chest_size := ⟨a_Chest_size, i_Chest_size, k_Chest_size⟩, F_Chest_empty := F_Chest_empty, b_Chest_empty := b_Chest_empty, m_Chest_empty := ⟨a_Chest_empty, i_Chest_empty, k_Chest_empty⟩, F_Chest_told := F_Chest_told, b_Chest_told := b_Chest_told, m_Chest_told := ⟨a_Chest_told, i_Chest_told, k_Chest_told⟩, F_Chest_hands := F_Chest_hands, b_Chest_hands := b_Chest_hands, m_Chest_hands := ⟨a_Chest_hands, i_Chest_hands, k_Chest_hands⟩, F_Chest_pair := F_Chest_pair, b_Chest_pair := b_Chest_pair, m_Chest_pair := ⟨a_Chest_pair, i_Chest_pair, k_Chest_pair⟩, F_Chest_pairs := F_Chest_pairs, b_Chest_pairs := b_Chest_pairs, m_Chest_pairs := ⟨a_Chest_pairs, i_Chest_pairs, k_Chest_pairs⟩, F_Chest_will := F_Chest_will, b_Chest_will := b_Chest_will, m_Chest_will := ⟨a_Chest_will, i_Chest_will, k_Chest_will⟩, F_Chest_kept_box := F_Chest_kept_box, b_Chest_kept_box := b_Chest_kept_box, m_Chest_kept_box := ⟨a_Chest_kept_box, i_Chest_kept_box, k_Chest_kept_box⟩, F_Chest_slots_with := F_Chest_slots_with, b_Chest_slots_with := b_Chest_slots_with, m_Chest_slots_with := ⟨a_Chest_slots_with, i_Chest_slots_with, k_Chest_slots_with⟩, F_law_cell_at := F_law_cell_at, b_law_cell_at := b_law_cell_at, mg_law_cell_at := PySem.W.mg_of X G a_law_cell_at, F_law_whole := F_law_whole, b_law_whole := b_law_whole, mg_law_whole := PySem.W.mg_of X G a_law_whole, F_law_mixed := F_law_mixed, b_law_mixed := b_law_mixed, mg_law_mixed := PySem.W.mg_of X G a_law_mixed, F_law_numbers := F_law_numbers, b_law_numbers := b_law_numbers, mg_law_numbers := PySem.W.mg_of X G a_law_numbers, F_law_class := F_law_class, b_law_class := b_law_class, mg_law_class := PySem.W.mg_of X G a_law_class, F_law_size_by := F_law_size_by, b_law_size_by := b_law_size_by, mg_law_size_by := PySem.W.mg_of X G a_law_size_by, F_law_made := F_law_made, b_law_made := b_law_made, mg_law_made := PySem.W.mg_of X G a_law_made, F_law_refused := F_law_refused, b_law_refused := b_law_refused, mg_law_refused := PySem.W.mg_of X G a_law_refused, F_law_new := F_law_new, b_law_new := b_law_new, mg_law_new := PySem.W.mg_of X G a_law_new, F_law := F_law, b_law := b_law, mg_law := PySem.W.mg_of X G a_law, cl_Box := ⟨pg_Box, hd_Box, po_Box, sa_Box⟩, mk_Box := ⟨mk_Box, a_Box__init_, i_Box__init_, kc_Box⟩, mg_Box := PySem.W.mg_of X G a_Box, na_Box_slots := na_Box_slots, na_Box_in_hands := na_Box_in_hands, na_Box_deeds := na_Box_deeds, cl_Chest := ⟨pg_Chest, hd_Chest, po_Chest, sa_Chest⟩, mk_Chest := ⟨mk_Chest, a_Chest__init_, i_Chest__init_, kc_Chest⟩, mg_Chest := PySem.W.mg_of X G a_Chest, na_Chest_next_box := na_Chest_next_box, na_Chest_next_pair := na_Chest_next_pair, na_Chest_kept_boxes := na_Chest_kept_boxes, na_Chest_kept_pairs := na_Chest_kept_pairs, mg_WillError := PySem.W.mg_of X G a_WillError, mg_NoBox := PySem.W.mg_of X G a_NoBox, mg_NoSlot := PySem.W.mg_of X G a_NoSlot, mg_NoHand := PySem.W.mg_of X G a_NoHand, mg_NoPair := PySem.W.mg_of X G a_NoPair, mg_NoWill := PySem.W.mg_of X G a_NoWill, mg_TooMany := PySem.W.mg_of X G a_TooMany, mg_NoText := PySem.W.mg_of X G a_NoText, x_NoSlot := ⟨PySem.W.mg_of X G a_NoSlot, x_NoSlot, xk_NoSlot, xs_NoSlot, xy_NoSlot⟩, ec_NoSlot := ⟨xg_NoSlot, xh_NoSlot, xs_NoSlot, xd_NoSlot, xc_NoSlot, xn, xt, xm_NoSlot⟩, em_NoSlot := PySem.W.exm_ref sW dW tW xw_NoSlot, is_NoSlot_NoBox := kit_cls ic_NoBox it_NoBox is_NoSlot_NoBox ss_NoBox, is_NoSlot_NoSlot := kit_cls ic_NoSlot it_NoSlot is_NoSlot_NoSlot ss_NoSlot, is_NoSlot_NoHand := kit_cls ic_NoHand it_NoHand is_NoSlot_NoHand ss_NoHand, is_NoSlot_NoPair := kit_cls ic_NoPair it_NoPair is_NoSlot_NoPair ss_NoPair, is_NoSlot_NoWill := kit_cls ic_NoWill it_NoWill is_NoSlot_NoWill ss_NoWill, is_NoSlot_TooMany := kit_cls ic_TooMany it_TooMany is_NoSlot_TooMany ss_TooMany, is_NoSlot_NoText := kit_cls ic_NoText it_NoText is_NoSlot_NoText ss_NoText, is_NoSlot_ValueError := kit_ve is_NoSlot_ValueError, x_TooMany := ⟨PySem.W.mg_of X G a_TooMany, x_TooMany, xk_TooMany, xs_TooMany, xy_TooMany⟩, ec_TooMany := ⟨xg_TooMany, xh_TooMany, xs_TooMany, xd_TooMany, xc_TooMany, xn, xt, xm_TooMany⟩, em_TooMany := PySem.W.exm_ref sW dW tW xw_TooMany, is_TooMany_NoBox := kit_cls ic_NoBox it_NoBox is_TooMany_NoBox ss_NoBox, is_TooMany_NoSlot := kit_cls ic_NoSlot it_NoSlot is_TooMany_NoSlot ss_NoSlot, is_TooMany_NoHand := kit_cls ic_NoHand it_NoHand is_TooMany_NoHand ss_NoHand, is_TooMany_NoPair := kit_cls ic_NoPair it_NoPair is_TooMany_NoPair ss_NoPair, is_TooMany_NoWill := kit_cls ic_NoWill it_NoWill is_TooMany_NoWill ss_NoWill, is_TooMany_TooMany := kit_cls ic_TooMany it_TooMany is_TooMany_TooMany ss_TooMany, is_TooMany_NoText := kit_cls ic_NoText it_NoText is_TooMany_NoText ss_NoText, is_TooMany_ValueError := kit_ve is_TooMany_ValueError, x_NoBox := ⟨PySem.W.mg_of X G a_NoBox, x_NoBox, xk_NoBox, xs_NoBox, xy_NoBox⟩, ec_NoBox := ⟨xg_NoBox, xh_NoBox, xs_NoBox, xd_NoBox, xc_NoBox, xn, xt, xm_NoBox⟩, em_NoBox := PySem.W.exm_ref sW dW tW xw_NoBox, is_NoBox_NoBox := kit_cls ic_NoBox it_NoBox is_NoBox_NoBox ss_NoBox, is_NoBox_NoSlot := kit_cls ic_NoSlot it_NoSlot is_NoBox_NoSlot ss_NoSlot, is_NoBox_NoHand := kit_cls ic_NoHand it_NoHand is_NoBox_NoHand ss_NoHand, is_NoBox_NoPair := kit_cls ic_NoPair it_NoPair is_NoBox_NoPair ss_NoPair, is_NoBox_NoWill := kit_cls ic_NoWill it_NoWill is_NoBox_NoWill ss_NoWill, is_NoBox_TooMany := kit_cls ic_TooMany it_TooMany is_NoBox_TooMany ss_TooMany, is_NoBox_NoText := kit_cls ic_NoText it_NoText is_NoBox_NoText ss_NoText, is_NoBox_ValueError := kit_ve is_NoBox_ValueError, mg_LARGEST_SIZE := PySem.W.mg_of X G g_LARGEST_SIZE, mg_MOST_BOXES := PySem.W.mg_of X G g_MOST_BOXES, mg_MOST_PAIRS := PySem.W.mg_of X G g_MOST_PAIRS, no_ValueError := PySem.W.mg_none_of X G z_ValueError, no_all := PySem.W.mg_none_of X G z_all, no_bool := PySem.W.mg_none_of X G z_bool, no_int := PySem.W.mg_none_of X G z_int, no_isinstance := PySem.W.mg_none_of X G z_isinstance, no_len := PySem.W.mg_none_of X G z_len, no_list := PySem.W.mg_none_of X G z_list, no_range := PySem.W.mg_none_of X G z_range, no_sorted := PySem.W.mg_none_of X G z_sorted }
  exact ⟨(PySem.W.fnOf "law" "law" (defArgs s_law) (defBody s_law) (defScope s_law) .none kV_law dc_law pm_law an_law cd_law ct_law), fun s v => .of_eq rfl, fun base _ _ => ok_law T⟩
theorem walk {l : PySem.W.OpenLaw} {q : Program} {loose : List Str} {XP : (Str → Option Value) → Heap → Prop} {YP : World → Heap → Prop} {d : DefRec} {K : Params → PySem.W.Frag} (hn : l.most = some 63) (hdf : d.params.defaults = [])
    (hY : ∀ (w : World) (h : Heap), YP w h → (K w.params).In h)
    (F : ∀ (w : World) (mg : Str → Option Value) (fa : Addr) (h : Heap), (K w.params).In h → h.Ns mainGlobals mg → mg d.name = some (.ref fa) →
      ∃ fd : FuncData, (∀ (s : Shared) (u : Value), BindsTo s fd ⟨[u], []⟩ [("_law_script", u)]) ∧ ∀ base : Heap, (K w.params).In base → base.Ns mainGlobals mg → FnOk l.prog w (K w.params) mg base (CN l.prog w) 6 fa fd ["_law_script"] (spLaw (K w.params))) :
    PySem.W.WalkO q loose XP YP l.row.toRowW d [] (fun f vs => PySem.call f vs) :=
  L2.walk_of (n := 63) (k := 6) (x := "_law_script") (CX := fun w => CN l.prog w) (sp := fun w => spLaw (K w.params)) hn (by decide) hdf ⟨rfl, by decide, by decide⟩ hY F (fun _ _ a ns hl _ hS => ⟨a, ns, rfl, hS, hl, fun _ => rfl⟩) fun _ _ _ _ _ z => by
    obtain ⟨_, _, _, _, _, _, _, _, _, _, _, _, z⟩ := z
    exact z
end LW
open PySem PySem.W PyProof.Rows
set_option maxRecDepth 100000 in
set_option maxHeartbeats 0 in
theorem PySem.Challenge.cw_lastwill_k01_new_boxes_holds : PySem.Challenge.rw_lastwill_k01_new_boxes.Holds := by
  w_on; o_law; k_head; (case hw => w_witness2)
  k_fill
  refine LW.walk (l := PySem.Challenge.rw_lastwill_k01_new_boxes) rfl rfl (fun w h Y => PySem.W.kIn_of Y) ?F
  case F =>
    intro w mg fa h KX G hmg
    refine' LW.all_mk KX G hmg ?a_WillError ?a_NoBox ?a_NoSlot ?a_NoHand ?a_NoPair ?a_NoWill ?a_TooMany ?a_NoText ?a_Box ?a_Chest ?a_Box__init_ ?i_Box__init_ ?l_Box__init_ ?c_Box__init_ ?k_Box__init_ ?a_Chest__init_ ?i_Chest__init_ ?l_Chest__init_ ?c_Chest__init_ ?k_Chest__init_ ?a_Chest_make ?i_Chest_make ?l_Chest_make ?c_Chest_make ?k_Chest_make ?a_Chest_boxes ?i_Chest_boxes ?l_Chest_boxes ?c_Chest_boxes ?k_Chest_boxes ?a_Chest_size ?i_Chest_size ?l_Chest_size ?c_Chest_size ?k_Chest_size ?a_Chest_empty ?i_Chest_empty ?l_Chest_empty ?c_Chest_empty ?k_Chest_empty ?a_Chest_told ?i_Chest_told ?l_Chest_told ?c_Chest_told ?k_Chest_told ?a_Chest_hands ?i_Chest_hands ?l_Chest_hands ?c_Chest_hands ?k_Chest_hands ?a_Chest_pair ?i_Chest_pair ?l_Chest_pair ?c_Chest_pair ?k_Chest_pair ?a_Chest_pairs ?i_Chest_pairs ?l_Chest_pairs ?c_Chest_pairs ?k_Chest_pairs ?a_Chest_will ?i_Chest_will ?l_Chest_will ?c_Chest_will ?k_Chest_will ?a_Chest_kept_box ?i_Chest_kept_box ?l_Chest_kept_box ?c_Chest_kept_box ?k_Chest_kept_box ?a_Chest_slots_with ?i_Chest_slots_with ?l_Chest_slots_with ?c_Chest_slots_with ?k_Chest_slots_with ?a_law_cell_at ?l_law_cell_at ?c_law_cell_at ?k_law_cell_at ?a_law_whole ?l_law_whole ?c_law_whole ?k_law_whole ?a_law_mixed ?l_law_mixed ?c_law_mixed ?k_law_mixed ?a_law_numbers ?l_law_numbers ?c_law_numbers ?k_law_numbers ?a_law_class ?l_law_class ?c_law_class ?k_law_class ?a_law_size_by ?l_law_size_by ?c_law_size_by ?k_law_size_by ?a_law_made ?l_law_made ?c_law_made ?k_law_made ?a_law_refused ?l_law_refused ?c_law_refused ?k_law_refused ?a_law_new ?l_law_new ?c_law_new ?k_law_new ?a_law ?l_law ?c_law ?k_law ?pg_Box ?hd_Box ?po_Box ?sa_Box ?mk_Box ?kc_Box ?na_Box_slots ?na_Box_in_hands ?na_Box_deeds ?pg_Chest ?hd_Chest ?po_Chest ?sa_Chest ?mk_Chest ?kc_Chest ?na_Chest_next_box ?na_Chest_next_pair ?na_Chest_kept_boxes ?na_Chest_kept_pairs ?sW ?dW ?tW ?xn ?xt ?ic_NoBox ?it_NoBox ?ss_NoBox ?ic_NoSlot ?it_NoSlot ?ss_NoSlot ?ic_NoHand ?it_NoHand ?ss_NoHand ?ic_NoPair ?it_NoPair ?ss_NoPair ?ic_NoWill ?it_NoWill ?ss_NoWill ?ic_TooMany ?it_TooMany ?ss_TooMany ?ic_NoText ?it_NoText ?ss_NoText ?x_NoSlot ?xk_NoSlot ?xs_NoSlot ?xy_NoSlot ?xg_NoSlot ?xh_NoSlot ?xd_NoSlot ?xc_NoSlot ?xm_NoSlot ?xw_NoSlot ?is_NoSlot_NoBox ?is_NoSlot_NoSlot ?is_NoSlot_NoHand ?is_NoSlot_NoPair ?is_NoSlot_NoWill ?is_NoSlot_TooMany ?is_NoSlot_NoText ?is_NoSlot_ValueError ?x_TooMany ?xk_TooMany ?xs_TooMany ?xy_TooMany ?xg_TooMany ?xh_TooMany ?xd_TooMany ?xc_TooMany ?xm_TooMany ?xw_TooMany ?is_TooMany_NoBox ?is_TooMany_NoSlot ?is_TooMany_NoHand ?is_TooMany_NoPair ?is_TooMany_NoWill ?is_TooMany_TooMany ?is_TooMany_NoText ?is_TooMany_ValueError ?x_NoBox ?xk_NoBox ?xs_NoBox ?xy_NoBox ?xg_NoBox ?xh_NoBox ?xd_NoBox ?xc_NoBox ?xm_NoBox ?xw_NoBox ?is_NoBox_NoBox ?is_NoBox_NoSlot ?is_NoBox_NoHand ?is_NoBox_NoPair ?is_NoBox_NoWill ?is_NoBox_TooMany ?is_NoBox_NoText ?is_NoBox_ValueError ?g_LARGEST_SIZE ?g_MOST_BOXES ?g_MOST_PAIRS ?z_ValueError ?z_all ?z_bool ?z_int ?z_isinstance ?z_len ?z_list ?z_range ?z_sorted
    (case a_WillError => k_is)
    (case a_NoBox => k_is)
    (case a_NoSlot => k_is)
    (case a_NoHand => k_is)
    (case a_NoPair => k_is)
    (case a_NoWill => k_is)
    (case a_TooMany => k_is)
    (case a_NoText => k_is)
    (case a_Box => k_is)
    (case a_Chest => k_is)
    (case a_Box__init_ => k_is)
    (case i_Box__init_ => k_is)
    (case l_Box__init_ => k_is)
    (case c_Box__init_ => k_is)
    (case k_Box__init_ => k_is)
    (case a_Chest__init_ => k_is)
    (case i_Chest__init_ => k_is)
    (case l_Chest__init_ => k_is)
    (case c_Chest__init_ => k_is)
    (case k_Chest__init_ => k_is)
    (case a_Chest_make => k_is)
    (case i_Chest_make => k_is)
    (case l_Chest_make => k_is)
    (case c_Chest_make => k_is)
    (case k_Chest_make => k_is)
    (case a_Chest_boxes => k_is)
    (case i_Chest_boxes => k_is)
    (case l_Chest_boxes => k_is)
    (case c_Chest_boxes => k_is)
    (case k_Chest_boxes => k_is)
    (case a_Chest_size => k_is)
    (case i_Chest_size => k_is)
    (case l_Chest_size => k_is)
    (case c_Chest_size => k_is)
    (case k_Chest_size => k_is)
    (case a_Chest_empty => k_is)
    (case i_Chest_empty => k_is)
    (case l_Chest_empty => k_is)
    (case c_Chest_empty => k_is)
    (case k_Chest_empty => k_is)
    (case a_Chest_told => k_is)
    (case i_Chest_told => k_is)
    (case l_Chest_told => k_is)
    (case c_Chest_told => k_is)
    (case k_Chest_told => k_is)
    (case a_Chest_hands => k_is)
    (case i_Chest_hands => k_is)
    (case l_Chest_hands => k_is)
    (case c_Chest_hands => k_is)
    (case k_Chest_hands => k_is)
    (case a_Chest_pair => k_is)
    (case i_Chest_pair => k_is)
    (case l_Chest_pair => k_is)
    (case c_Chest_pair => k_is)
    (case k_Chest_pair => k_is)
    (case a_Chest_pairs => k_is)
    (case i_Chest_pairs => k_is)
    (case l_Chest_pairs => k_is)
    (case c_Chest_pairs => k_is)
    (case k_Chest_pairs => k_is)
    (case a_Chest_will => k_is)
    (case i_Chest_will => k_is)
    (case l_Chest_will => k_is)
    (case c_Chest_will => k_is)
    (case k_Chest_will => k_is)
    (case a_Chest_kept_box => k_is)
    (case i_Chest_kept_box => k_is)
    (case l_Chest_kept_box => k_is)
    (case c_Chest_kept_box => k_is)
    (case k_Chest_kept_box => k_is)
    (case a_Chest_slots_with => k_is)
    (case i_Chest_slots_with => k_is)
    (case l_Chest_slots_with => k_is)
    (case c_Chest_slots_with => k_is)
    (case k_Chest_slots_with => k_is)
    (case a_law_cell_at => k_is)
    (case l_law_cell_at => k_is)
    (case c_law_cell_at => k_is)
    (case k_law_cell_at => k_is)
    (case a_law_whole => k_is)
    (case l_law_whole => k_is)
    (case c_law_whole => k_is)
    (case k_law_whole => k_is)
    (case a_law_mixed => k_is)
    (case l_law_mixed => k_is)
    (case c_law_mixed => k_is)
    (case k_law_mixed => k_is)
    (case a_law_numbers => k_is)
    (case l_law_numbers => k_is)
    (case c_law_numbers => k_is)
    (case k_law_numbers => k_is)
    (case a_law_class => k_is)
    (case l_law_class => k_is)
    (case c_law_class => k_is)
    (case k_law_class => k_is)
    (case a_law_size_by => k_is)
    (case l_law_size_by => k_is)
    (case c_law_size_by => k_is)
    (case k_law_size_by => k_is)
    (case a_law_made => k_is)
    (case l_law_made => k_is)
    (case c_law_made => k_is)
    (case k_law_made => k_is)
    (case a_law_refused => k_is)
    (case l_law_refused => k_is)
    (case c_law_refused => k_is)
    (case k_law_refused => k_is)
    (case a_law_new => k_is)
    (case l_law_new => k_is)
    (case c_law_new => k_is)
    (case k_law_new => k_is)
    (case a_law => k_is)
    (case l_law => k_is)
    (case c_law => k_is)
    (case k_law => k_is)
    (case pg_Box => k_is)
    (case hd_Box => k_is)
    (case po_Box => k_is)
    (case sa_Box => k_is)
    (case mk_Box => k_is)
    (case kc_Box => k_is)
    (case na_Box_slots => k_is)
    (case na_Box_in_hands => k_is)
    (case na_Box_deeds => k_is)
    (case pg_Chest => k_is)
    (case hd_Chest => k_is)
    (case po_Chest => k_is)
    (case sa_Chest => k_is)
    (case mk_Chest => k_is)
    (case kc_Chest => k_is)
    (case na_Chest_next_box => k_is)
    (case na_Chest_next_pair => k_is)
    (case na_Chest_kept_boxes => k_is)
    (case na_Chest_kept_pairs => k_is)
    (case sW => k_is)
    (case dW => k_is)
    (case tW => k_is)
    (case xn => k_is)
    (case xt => k_is)
    (case ic_NoBox => k_is)
    (case it_NoBox => k_is)
    (case ss_NoBox => first | rfl | k_is)
    (case ic_NoSlot => k_is)
    (case it_NoSlot => k_is)
    (case ss_NoSlot => first | rfl | k_is)
    (case ic_NoHand => k_is)
    (case it_NoHand => k_is)
    (case ss_NoHand => first | rfl | k_is)
    (case ic_NoPair => k_is)
    (case it_NoPair => k_is)
    (case ss_NoPair => first | rfl | k_is)
    (case ic_NoWill => k_is)
    (case it_NoWill => k_is)
    (case ss_NoWill => first | rfl | k_is)
    (case ic_TooMany => k_is)
    (case it_TooMany => k_is)
    (case ss_TooMany => first | rfl | k_is)
    (case ic_NoText => k_is)
    (case it_NoText => k_is)
    (case ss_NoText => first | rfl | k_is)
    (case x_NoSlot => k_exc)
    (case xk_NoSlot => k_is)
    (case xs_NoSlot => k_is)
    (case xy_NoSlot => k_is)
    (case xg_NoSlot => k_is)
    (case xh_NoSlot => k_is)
    (case xd_NoSlot => k_is)
    (case xc_NoSlot => k_is)
    (case xm_NoSlot => k_is)
    (case xw_NoSlot => k_is)
    (case is_NoSlot_NoBox => k_is)
    (case is_NoSlot_NoSlot => first | rfl | k_is)
    (case is_NoSlot_NoHand => k_is)
    (case is_NoSlot_NoPair => k_is)
    (case is_NoSlot_NoWill => k_is)
    (case is_NoSlot_TooMany => k_is)
    (case is_NoSlot_NoText => k_is)
    (case is_NoSlot_ValueError => k_is)
    (case x_TooMany => k_exc)
    (case xk_TooMany => k_is)
    (case xs_TooMany => k_is)
    (case xy_TooMany => k_is)
    (case xg_TooMany => k_is)
    (case xh_TooMany => k_is)
    (case xd_TooMany => k_is)
    (case xc_TooMany => k_is)
    (case xm_TooMany => k_is)
    (case xw_TooMany => k_is)
    (case is_TooMany_NoBox => k_is)
    (case is_TooMany_NoSlot => k_is)
    (case is_TooMany_NoHand => k_is)
    (case is_TooMany_NoPair => k_is)
    (case is_TooMany_NoWill => k_is)
    (case is_TooMany_TooMany => first | rfl | k_is)
    (case is_TooMany_NoText => k_is)
    (case is_TooMany_ValueError => k_is)
    (case x_NoBox => k_exc)
    (case xk_NoBox => k_is)
    (case xs_NoBox => k_is)
    (case xy_NoBox => k_is)
    (case xg_NoBox => k_is)
    (case xh_NoBox => k_is)
    (case xd_NoBox => k_is)
    (case xc_NoBox => k_is)
    (case xm_NoBox => k_is)
    (case xw_NoBox => k_is)
    (case is_NoBox_NoBox => first | rfl | k_is)
    (case is_NoBox_NoSlot => k_is)
    (case is_NoBox_NoHand => k_is)
    (case is_NoBox_NoPair => k_is)
    (case is_NoBox_NoWill => k_is)
    (case is_NoBox_TooMany => k_is)
    (case is_NoBox_NoText => k_is)
    (case is_NoBox_ValueError => k_is)
    (case g_LARGEST_SIZE => k_is)
    (case g_MOST_BOXES => k_is)
    (case g_MOST_PAIRS => k_is)
    (case z_ValueError => k_is)
    (case z_all => k_is)
    (case z_bool => k_is)
    (case z_int => k_is)
    (case z_isinstance => k_is)
    (case z_len => k_is)
    (case z_list => k_is)
    (case z_range => k_is)
    (case z_sorted => k_is)
