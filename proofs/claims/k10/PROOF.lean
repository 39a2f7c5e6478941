import PyProof.Rows.All
import Wide.All
import OpenK.AllK
import Wide.FinOn
import PyProof.EqAt
import PyProof.EqKinds
import PyProof.TupleCall
import HandS.Base
import HandS.Call
import HandS.List
import HandS.Comp
import HandS.Dict
import HandS.Iter
import HandS.Text
import HandS.Exc
import HandS.ExcOwn
import HandS.ExcCtx
import HandS.ExcIs
import HandS.HotCalls
import HandS.More
import HandS.SortInts
import HandS.Conv
import HandS.Star
import HandS.IsInst
import HandS.CallSlots
import HandS.FStr
import HandS.Flow
import HandS.TupAny
import HandS.Small
import HandS.Words
import HandS.WordsList
import HandS.WordsDict
import HandS.WordsExc
import HandS.ListItems
import HandS.SetKeys
import KE.KDictCopyH
import KE.KDictList
import HandS.DictComp
import HandS.SetFor
import HandS.Remove
import PyProof.RulesMatchSeq
import PyProof.Rows.MatchSeqLen
import KE.KUnpack
import KE.KUnpackStar
import HandS.Zip
import PySem.Challenge.RW_lastwill_k10_whole_wills_once
set_option Elab.async false
set_option linter.all false
set_option maxRecDepth 100000
set_option maxHeartbeats 4000000
/-! # Own rules beside the layer's: defs that raise, methods called within a try, defs that get the caught error -/
namespace LW
open PySem PySem.Spec PyProof.Rows L2

section
variable {P : Program} {w : World} {K : PySem.W.Frag} {mg : Str → Option Value} {base : Heap}
abbrev CN (P : Program) (w : World) : CXT := L2N.CX P w
/-- a def of the text keeps its promise, errors let out with no context -/
theorem okN {x qual : Str} {st : Stmt} {f : Addr} {fd : FuncData} {N ps : List Str} {k : Nat} {sp : Sp}
    (F : Fun K x qual st f fd) (S : FnScope N ps (defScope st))
    (len : ∀ vs H Q E, sp vs H Q E → vs.length = ps.length)
    (hbody : ∀ (cdv : Value) (A : Around) (outer : List Env) (s : Shared) (H : Hp) (vs : List V) (Q : VK) (E : XK),
      Room k (A.deeper (envOfC qual (defScope st) s.heap.objs.size f cdv)) → sp vs H Q E →
      ∃ t, PSs (cxOf (CN P w) P w K mg base N qual (defScope st) f cdv A outer s H E) (defBody st) t ∧
        t { nx := fun _ H' => Q .non H', rt := Q } (start N vs) H) :
    FnOk P w K mg base (CN P w) (k + 1) f fd ps sp := by
  obtain ⟨oc, od, kV, doc, pm, an, cdv, ct, osl, rfl, lk, hcd⟩ := F.ex
  exact fn_of lk hcd S len fun A outer s H vs Q E hr hsp => hbody cdv A outer s H vs Q E hr hsp
/-- where nothing is let out -/
theorem pass0N {X : Cx} : Passes (CN X.prog X.w) X E0 := by
  intro pins σ H s e s' I h
  obtain ⟨a, B, H', cls, d, h1, h2, h3, h4, h5, h6, h7, z⟩ := h
  exact z.elim
theorem takes0N {X : Cx} : L2N.Takes X (fun _ _ _ _ => False) := by
  intro u s' x
  obtain ⟨a, B, sI, pins, σ, H, cls, d, h1, h2, h3, h4, h5, h6, h7, h8, z⟩ := x
  exact z.elim
end

/-! ### a method called where what it raises is wished for at the slots -/
def tMethP (C : Addr) (m : Str) (sp : Sp) (E : L2.St → XK) (ta : TE) (t : TA) : TE := fun σ H Q =>
  ta σ H fun x H1 => ∃ a dx fs, x = .ref a ∧ H1 a = some (.ins C dx fs) ∧ fs.lookup m = none ∧
    t σ H1 fun vs H2 => sp (x :: vs) H2 Q (E σ)
section
variable {X : Cx} {CX : CXT} {k : Nat} {f C : Addr} {fd : FuncData} {ps : List Str} {sp : Sp} {E : L2.St → XK} {x m : Str}
  {p pos apos : Pos} {e o : Expr} {es : List Expr} {ta : TE} {t : TA}
theorem pe_methP {pl : Sem Bool} (he : PE X o ta) (c : Cls X.K C) (hm : Meth X.K C m f)
    (F : FnOk X.prog X.w X.K X.mg X.base CX k f fd ps sp) (hr : Room k X.A) (hb : Binds X.K fd ps [])
    (hx : ∀ σ, PassesAt CX X σ (E σ)) (ha : PA X (e :: es) t)
    (hst : starEach (e :: es) X.env = (false, eval e X.env) :: starEach es X.env := by rfl)
    (hpl : (backTo pos (starEach es X.env)).any (·.1) = false := by rfl)
    (ht : eval (.Call (.Attribute o m apos) (e :: es) [] pos) X.env = (do
      let ov ← eval o X.env
      standAt apos.atName
      let (f, first) ← holding [ov] (getMethod ov m pl)
      callWith pos f first (backTo pos (starEach (e :: es) X.env)) (backToKw pos (keywordEach [] X.env))) := by rfl) :
    PE X (.Call (.Attribute o m apos) (e :: es) [] pos) (tMethP C m sp E ta t) := by
  constructor
  intro pins s σ H Q I h
  refine PySem.W.methodCall_KW (pl := pl) (thn (he.run pins s σ H _ I h) fun u s1 hu => ?_) ht
  obtain ⟨x, H1, I1, rx, a, dx, fs, ex, ea, l, q⟩ := hu
  subst ex
  cases (show u = Value.ref a from rx)
  refine getmeth_ok I1 ea c hm l ?_
  refine PySem.W.callWith_K (first := [.ref a]) (h₀ := X.base) I.ok.mod.kin hm.kp
    (thn (ha.run pos pins s1 σ H1 _ I1 q) fun us s2 hv => ?_) hst hpl
  obtain ⟨vs, H2, I2, r, q2⟩ := hv
  exact ⟨I2.kIn, run_fnS (us := .ref a :: us) (vs := .ref a :: vs) F hr hb (hx σ) I2 (.cons rfl r) q2⟩
theorem pe_methP0 {pl : Sem Bool} (he : PE X o ta) (c : Cls X.K C) (hm : Meth X.K C m f)
    (F : FnOk X.prog X.w X.K X.mg X.base CX k f fd ps sp) (hr : Room k X.A) (hb : Binds X.K fd ps [])
    (hx : ∀ σ, PassesAt CX X σ (E σ))
    (ht : eval (.Call (.Attribute o m apos) [] [] pos) X.env = (do
      let ov ← eval o X.env
      standAt apos.atName
      let (f, first) ← holding [ov] (getMethod ov m pl)
      callWith pos f first (backTo pos (starEach [] X.env)) (backToKw pos (keywordEach [] X.env))) := by rfl) :
    PE X (.Call (.Attribute o m apos) [] [] pos) (tMethP C m sp E ta tNil) := by
  constructor
  intro pins s σ H Q I h
  refine PySem.W.methodCall_KW (pl := pl) (thn (he.run pins s σ H _ I h) fun u s1 hu => ?_) ht
  obtain ⟨x, H1, I1, rx, a, dx, fs, ex, ea, l, q⟩ := hu
  subst ex
  cases (show u = Value.ref a from rx)
  refine getmeth_ok I1 ea c hm l ?_
  exact PySem.W.callWith_K0 (first := [.ref a]) I1.kIn hm.kp
    (run_fnS (us := [.ref a]) (vs := [.ref a]) F hr hb (hx σ) I1 (.cons rfl .nil) q)
end

/-! ### a def called in an except suite with the error itself: its promise may speak of the error's object -/
structure FnE (P : Program) (w : World) (K : PySem.W.Frag) (mg : Str → Option Value) (base : Heap) (CX : CXT) (k : Nat)
    (f : Addr) (fd : FuncData) (ps : List Str) (sp : Addr × Obj → Sp) : Prop where
  len : ∀ p vs H Q E, sp p vs H Q E → vs.length = ps.length
  run : ∀ (A : Around) (outer : List Env) (s : Shared) (H : Hp) (args : Args) (us : List Value) (vs : List V) (Q : VK)
    (E : XK) (p : Addr × Obj), L2H.RoomH k A → L2H.Hot1 A p → L2H.PinOk outer H s p →
    Env0 P w K mg base A outer s H → BindsTo s fd args (ps.zip us) → Vals vs us → sp p vs H Q E →
    codeAny (model P w) A (.call (.ref f) args) (CR CX outer P w H s Q E) s
theorem fn_ofE {CX : CXT} {P : Program} {w : World} {K : PySem.W.Frag} {mg : Str → Option Value} {base : Heap} {k : Nat}
    {f : Addr} {name qual : Str} {st : Stmt} {fd : FuncData} {N ps : List Str} {sp : Addr × Obj → Sp}
    (F : Fun K name qual st f fd) (S : FnScope N ps (defScope st))
    (len : ∀ p vs H Q E, sp p vs H Q E → vs.length = ps.length)
    (hbody : ∀ (cdv : Value) (A : Around) (outer : List Env) (s : Shared) (H : Hp) (vs : List V) (Q : VK) (E : XK)
      (p : Addr × Obj), L2H.Hot1 A p → L2H.RoomH k (A.deeper (envOfC qual (defScope st) s.heap.objs.size f cdv)) →
      sp p vs H Q E →
      ∃ t, PSs (L2H.cxH CX P w K mg base N qual (defScope st) f cdv A outer s H E p) (defBody st) t ∧
        t { nx := fun _ H' => Q .non H', rt := Q } (L2.start N vs) H) :
    FnE P w K mg base CX (k + 1) f fd ps sp := by
  obtain ⟨oc, od, kV, doc, pm, an, cdv, ct, osl, rfl, lk, hcd⟩ := F.ex
  refine ⟨len, ?_⟩
  intro A outer s H args us vs Q E p room hot pin e0 binds rel prom
  have hlen := len _ _ _ _ _ prom
  have KX : K.In s.heap := e0.mod.kin.keeps fun b o hb => (e0.bs b o hb).1
  have noLim : s.heap.NoLimit := e0.mod.nolimit.keeps fun b o hb => (e0.bs b o hb).1
  have kinds : ∀ y ∈ ps.zip us, (defScope st).names.lookup y.1 = some .local ∨
      ((defScope st).names.lookup y.1 = some .cell ∧
        ((cellsFrom (s.heap.objs.size + 1) (defScope st).names []).lookup y.1).isSome = true) := by
    rintro ⟨n, v⟩ hy
    rcases S.par n (List.of_mem_zip hy).1 with q | q
    · exact .inl q
    · exact .inr ⟨q, PySem.W.cellsFrom_some _ _ _ (.inl q)⟩
  refine codeAny_call_function room.depth (KX _ _ lk) rfl S.co S.gen rfl (PySem.W.codeRec_of KX hcd)
    (binds _ _ _ _ ?_)
  refine wpAny_newFunctionEnv_cells S.kind kinds ?_
  intro env henv s1 made
  subst henv
  refine ⟨noLim.keeps made.toInCall.keep, codeAny_func ?_⟩
  obtain ⟨t, ht, hq⟩ := hbody cdv A outer s H vs Q E p hot (room.deeper _) prom
  have I := L2H.inv_startH (CX := CX) (base := base) (E := E) S pin e0 hlen rel made
  refine wpAny_mono (ht.run [] s1 (L2.start N vs) H _ I hq) ?_ (fun e s' he => he)
  intro fl s' hs
  cases fl with
  | ret u => obtain ⟨v, σ', H', J, rv, q⟩ := hs; exact ⟨v, H', J.os, J.bare, J.base, J.hok, rv, q⟩
  | next => obtain ⟨σ', H', J, q⟩ := hs; exact ⟨V.non, H', J.os, J.bare, J.base, J.hok, rfl, q⟩
  | brk => obtain ⟨_, _, _, q⟩ := hs; exact q.elim
  | cont => obtain ⟨_, _, _, q⟩ := hs; exact q.elim
section
variable {X : Cx} {CX : CXT} {k : Nat} {f C : Addr} {fd : FuncData} {ps : List Str} {sp : Addr × Obj → Sp} {x m : Str}
  {q pos apos : Pos} {e o : Expr} {es : List Expr} {ta : TE} {t : TA}
def tCallE (sp : Sp) (t : TA) : TE := fun σ H Q => t σ H fun vs H1 => sp vs H1 Q E0
/-- f(e, ..) in the suite that handles p's object -/
theorem pe_callE {p : Addr × Obj} {sp' : Sp} (hsp : ∀ vs H Q, sp' vs H Q E0 → sp p vs H Q E0) (F : FnE X.prog X.w X.K X.mg X.base CX k f fd ps sp) (hr : L2H.RoomH k X.A)
    (hot : L2H.Hot1 X.A p) (hp : p ∈ X.pn) (hg : Gl X x) (hm : X.mg x = some (.ref f))
    (hk : PySem.W.keepIn X.K (.ref f) = true) (hb : Binds X.K fd ps []) (hx : Passes CX X E0)
    (ha : PA X (e :: es) t) (hdb : (x == ("__debug__" : Str)) = false := by decide)
    (he : starEach (e :: es) X.env = (false, eval e X.env) :: starEach es X.env := by rfl)
    (hpl : (backTo pos (starEach es X.env)).any (·.1) = false := by rfl) :
    PE X (.Call (.Name x q) (e :: es) [] pos) (tCallE sp' t) := by
  constructor
  intro pins s σ H Q I h
  refine wpAny_Call_Name_kw (ld_glob I hg hm ?_ hdb)
  refine PySem.W.callWith_K (h₀ := X.base) I.ok.mod.kin hk (thn (ha.run pos pins s σ H _ I h) ?_) he hpl
  intro us s1 hh
  obtain ⟨vs, H1, I1, r, hs⟩ := hh
  have hs := hsp _ _ _ hs
  refine ⟨I1.kIn, ?_⟩
  have hl : us.length = ps.length := by rw [← r.length]; exact F.len _ _ _ _ _ hs
  have b := hb s1 us I1.kIn (by rw [List.append_nil]; exact hl)
  rw [List.append_nil] at b
  have P1 := I1.pin p (List.mem_append_left _ hp)
  have pok : L2H.PinOk X.stack H1 s1 p :=
    ⟨P1.1, P1.2.1, fun z => (List.mem_cons.mp (I1.stkSub p.1 z)).elim P1.2.2.1 P1.2.2.2.1, P1.2.2.2.2⟩
  refine wpAny_call (codeAny_mono (F.run X.A X.stack s1 H1 ⟨us, []⟩ us vs Q E0 p hr hot pok I1.env0 b r hs) ?_)
  intro res s2 hq
  cases res with
  | error e2 => exact hx pins σ H1 s1 e2 s2 I1 hq
  | ok fl =>
    cases fl with
    | ret u => exact I1.after hq
    | next => exact hq.elim
    | brk => exact hq.elim
    | cont => exact hq.elim
end

/-! ### isinstance of the error that is pinned -/
theorem call_isP {X : Cx} {D : Addr} {p : Addr × Obj} (C : ExcC X.K D) (hz : Zc (.ref D) none p.2)
    (hf : ∃ vs, p.2.data = .fields vs) (hp : p ∈ X.pn) : CallR X (.builtin "isinstance") (rIsE X.K D p.1) := by
  intro pins s σ H xs us Q I r h
  obtain ⟨c, cv, b, rfl, hcv, e, q⟩ := h
  obtain ⟨u1, u2, rfl, rx, rt⟩ := vals2 r
  cases (show u1 = Value.ref p.1 from rx)
  cases hcv _ rt
  have hget := (I.pin p (List.mem_append_left _ hp)).1
  obtain ⟨vs, hv⟩ := hf
  have J : PySem.W.InstAt s.heap p.1 p.2 D none := by
    obtain ⟨a, ⟨oc, od, oda, osl⟩⟩ := p
    obtain ⟨h1, h2⟩ := hz
    dsimp only at h1 h2 hv hget
    subst h1 h2 hv
    exact ⟨hget, rfl, rfl, trivial⟩
  refine PySem.W.kia_one (PySem.W.handS_kitx_exc C.hg C.hk C.hs C.hd C.ha C.hn C.ht C.hm) I.kIn J e (fun z => nomatch z) ?_
  intro tk
  exact ⟨.bl b, H, I.kept (t' := tk) fun _ _ z => z, rfl, q⟩

/-! ### an own error class, raised with one argument of any form -/
structure XC (K : PySem.W.Frag) (mg : Str → Option Value) (x : Str) (C : Addr) : Prop where
  gC : mg x = some (.ref C)
  q : PySem.W.excIn K C [.type "ValueError", .type "Exception", .type "BaseException", .type "object"] "ValueError.__new__" = true
  kC : PySem.W.keepIn K (.ref C) = true
  bP : PySem.W.subIn K (.ref C) (.type "BaseException") = some true
  tP : PySem.W.typeIn K (.ref C) = some (.type "type")
theorem pmk_N {X : Cx} {x : Str} {C : Addr} {e : Expr} {ta : TE} {p pos : Pos} (T : XC X.K X.mg x C) (hg : Gl X x)
    (he : PE X e ta) (hs : starEach [e] X.env = (false, eval e X.env) :: starEach [] X.env := by rfl)
    (hdb : (x == ("__debug__" : Str)) = false := by decide) :
    L2N.PMk X (.Call (.Name x p) [e] [] pos) (fun σ H Q => ta σ H fun _ H1 => Q (.ref C) none H1) := by
  intro pins s σ H Q I h
  refine wpAny_Call_Name_kw (ld_glob I hg T.gC ?_ hdb)
  refine PySem.W.callWith_K (h₀ := X.base) I.ok.mod.kin T.kC ?_ hs (by rfl)
  rw [hs]
  show wpAny _ _ (spliced ((false, eval e X.env) :: backTo pos (starEach [] X.env))) _ _ s
  refine Calls.spliced_cons (thn (he.run pins s σ H _ I h) ?_)
  intro u s1 hu
  obtain ⟨v, H1, I1, r1, q1⟩ := hu
  refine Calls.spliced_nil ⟨I1.kIn, ?_⟩
  show wpAny _ _ (call (.ref C) [u]) _ _ _
  obtain ⟨bm, N, nm, qn, bs, hdct, sn, sub, ab, col, dd, k0, k1, k2, k3, k5, mN, hC, hN, hni, TT⟩ := exc_obj I1.kIn T.q
  refine wpAny_call_exc_subT PySem.F.excBase_ValueError TT hC hN hni ?_ (by show 1 ≤ sizeLine; rw [sizeLine_eq]; omega)
  intro h' e' hm
  exact L2N.mk_of I1 hm (raises_own T.bP T.tP) q1 (I1.hok.gone hm.new)
end LW
/-! # Going through a reading step by step: one lemma a word of the layer, and the tactic that tries them -/
namespace LW
open PySem PySem.Spec PyProof.Rows L2

/-! ### named readings of built-ins -/
section
variable {X : Cx}
def rLen (K : PySem.W.Frag) : List V → Hp → VK → Prop := fun xs H Q => ∃ p ys, xs = [.ref p] ∧ (SqL K H p ys ∨ SqT K H p ys) ∧ Q (.int ys.length) H
theorem call_lenS : CallR X (.builtin "len") (rLen X.K) := call_len_seq
def rLenD : List V → Hp → VK → Prop := fun xs H Q => ∃ a kvs, xs = [V.ref a] ∧ H a = some (.dK kvs) ∧ Q (.int kvs.length) H
theorem call_lenD' : CallR X (.builtin "len") rLenD := call_lenD
def rList (K : PySem.W.Frag) : List V → Hp → VK → Prop := fun xs H Q => ∃ p ys, xs = [.ref p] ∧ (SqL K H p ys ∨ SqT K H p ys) ∧ ∀ l, H l = none → Q (.ref l) (upd H l (.lst ys))
theorem call_listS : CallR X (.type "list") (rList X.K) := call_list_of
def rSortD : List V → Hp → VK → Prop := fun xs H Q => ∃ (a : Addr) (kvs : List (Key × V)) (ks : List Int), xs = [.ref a] ∧ Rd H a (.dK kvs) ∧ kvs.map (·.1) = ks.map Sum.inl ∧ ks.length < 64 ∧
  ∀ (ys : List Int) (p : Addr), ys.Perm ks → ys.Pairwise (· ≤ ·) → H p = none → Q (.ref p) (upd H p (.lst (ys.map V.int)))
theorem call_sortedDI' (hc : X.calm = true) : CallR X (.builtin "sorted") rSortD := call_sortedDI hc
def rIsN : R2 := fun x y H Q => y = .non ∧ Q (.bl (decide (x = .non))) H
theorem op_isN' : OpR X (compareOp .Is) rIsN := op_isN
def rNotN : R2 := fun x y H Q => y = .non ∧ Q (.bl (!decide (x = .non))) H
theorem op_notN' : OpR X (compareOp .IsNot) rNotN := op_notN
def rMax2 : List V → Hp → VK → Prop := fun xs H Q => ∃ i j, xs = [.int i, .int j] ∧ Q (.int (if j > i then j else i)) H
theorem call_max2' (hc : X.calm = true) : CallR X (.builtin "max") rMax2 := call_max2 hc
def rMin2 : List V → Hp → VK → Prop := fun xs H Q => ∃ i j, xs = [.int i, .int j] ∧ Q (.int (if j < i then j else i)) H
theorem call_min2' (hc : X.calm = true) : CallR X (.builtin "min") rMin2 := call_min2 hc
def rInt1 : List V → Hp → VK → Prop := fun xs H Q => (∃ i, xs = [.int i] ∧ Q (.int i) H) ∨ ∃ k, xs = [.bl k] ∧ Q (.int (if k then 1 else 0)) H
theorem call_int_bool' : CallR X (.type "int") rInt1 := call_int1
end

/-! ### one lemma a word -/
section
variable {σ : L2.St} {H : Hp} {Q : VK} {D : Ends} {te ta tb : TE} {t u : TS} {c tt uu : TT} {K : PySem.W.Frag} {i j n : Int} {v x y : V} {B : Bool → Hp → Prop}
theorem g_seq (h : t { D with nx := u D } σ H) : tSeq t u D σ H := h
theorem g_next (h : D.nx σ H) : tNext D σ H := h
theorem g_asg {g : TG} (h : te σ H fun v H1 => g v σ H1 D.nx) : tAsg te g D σ H := h
theorem g_name {k : Nat} {R : L2.St → Hp → Prop} (h : R (σ.set k (some v)) H) : gName k v σ H R := h
theorem g_ret (h : te σ H D.rt) : tRet te D σ H := h
theorem g_drop (h : te σ H fun _ H1 => D.nx σ H1) : tDrop te D σ H := h
theorem g_ifs (h : c σ H fun b H1 => if b = true then t D σ H1 else u D σ H1) : tIfS c t u D σ H := h
theorem g_var {k : Nat} (e : σ[k]? = some (some v)) (h : Q v H) : tVar k σ H Q := ⟨v, e, h⟩
theorem g_c (h : Q v H) : tC v σ H Q := h
theorem g_op {r : R2} (h : ta σ H fun x H1 => tb σ H1 fun y H2 => r x y H2 Q) : tOp r ta tb σ H Q := h
theorem g_un {r : V → Hp → VK → Prop} (h : ta σ H fun x H1 => r x H1 Q) : tUn r ta σ H Q := h
theorem g_test (h : te σ H fun x H1 => ∃ k, x = .bl k ∧ B k H1) : tTest te σ H B := h
theorem g_tb (h : te σ H fun x H1 => ∃ k, x = .bl k ∧ B k H1) : tB te σ H B := h
theorem g_isbl {b : Bool} (h : B b H) : ∃ k, V.bl b = .bl k ∧ B k H := ⟨b, rfl, h⟩
theorem g_or (h : tt σ H fun c H1 => if c = true then B true H1 else uu σ H1 B) : tOr tt uu σ H B := h
theorem g_and (h : tt σ H fun c H1 => if c = true then uu σ H1 B else B false H1) : tAnd tt uu σ H B := h
theorem g_not (h : tt σ H fun c H1 => B (!c) H1) : tNot tt σ H B := h
theorem g_orV (h : ta σ H fun x H1 => ∃ c, x = .bl c ∧ if c = true then Q (.bl true) H1 else tb σ H1 Q) : tOrV ta tb σ H Q := h
theorem g_andV (h : ta σ H fun x H1 => ∃ c, x = .bl c ∧ if c = true then tb σ H1 Q else Q (.bl false) H1) : tAndV ta tb σ H Q := h
theorem g_notV (h : ta σ H fun x H1 => ∃ c, x = .bl c ∧ Q (.bl (!c)) H1) : tNotV ta σ H Q := h
theorem g_isblA {b : Bool} {P : Bool → Prop} (h : P b) : ∃ c, V.bl b = .bl c ∧ P c := ⟨b, rfl, h⟩
theorem g_ifE (h : tt σ H fun c H1 => if c = true then ta σ H1 Q else tb σ H1 Q) : tIf tt ta tb σ H Q := h
theorem g_rI0 {g : Int → Int → V} (h : Q (g i j) H) : rI0 g (.int i) (.int j) H Q := ⟨i, j, rfl, rfl, h⟩
theorem g_rI {C : Int → Int → Prop} {g : Int → Int → V} (hc : C i j) (h : Q (g i j) H) : rI C g (.int i) (.int j) H Q := ⟨i, j, rfl, rfl, hc, h⟩
theorem g_rU {g : Int → V} (h : Q (g i) H) : rU g (.int i) H Q := ⟨i, rfl, h⟩
theorem dec_int : decide (V.int i = V.int j) = decide (i = j) := by
  by_cases h : i = j
  · subst h; simp
  · rw [decide_eq_false h, decide_eq_false (fun e => h (V.int.inj e))]
theorem dec_str {a b : Str} : decide (V.str a = V.str b) = decide (a = b) := by
  by_cases h : a = b
  · subst h; simp
  · rw [decide_eq_false h, decide_eq_false (fun e => h (V.str.inj e))]
theorem g_eqI (h : Q (.bl (decide (i = j))) H) : rEq (.int i) (.int j) H Q := ⟨rfl, by rw [dec_int]; exact h⟩
theorem g_neI (h : Q (.bl (!decide (i = j))) H) : rNe (.int i) (.int j) H Q := ⟨rfl, by rw [dec_int]; exact h⟩
theorem g_eqS {a b : Str} (h : Q (.bl (decide (a = b))) H) : rEq (.str a) (.str b) H Q := ⟨rfl, by rw [dec_str]; exact h⟩
theorem g_neS {a b : Str} (h : Q (.bl (!decide (a = b))) H) : rNe (.str a) (.str b) H Q := ⟨rfl, by rw [dec_str]; exact h⟩
theorem g_isN (h : Q (.bl (decide (x = .non))) H) : rIsN x .non H Q := ⟨rfl, h⟩
theorem g_notN (h : Q (.bl (!decide (x = .non))) H) : rNotN x .non H Q := ⟨rfl, h⟩
theorem g_nil {QA : List V → Hp → Prop} (h : QA [] H) : tNil σ H QA := h
theorem g_cons {tr : TA} {QA : List V → Hp → Prop} (h : ta σ H fun x H1 => tr σ H1 fun xs H2 => QA (x :: xs) H2) : tCons ta tr σ H QA := h
theorem g_cb {r : List V → Hp → VK → Prop} {t : TA} (h : t σ H fun vs H1 => r vs H1 Q) : tCB r t σ H Q := h
theorem g_fld {f : Str} (h : ta σ H fun x H1 => ∃ a C dx fs v, x = .ref a ∧ H1 a = some (.ins C dx fs) ∧ Cls K C ∧ NoAttr K C f ∧ fs.lookup f = some v ∧ Q v H1) : tFld K ta f σ H Q := h
theorem g_call {sp : Sp} {dvs : List V} {E : XK} {t : TA} (h : t σ H fun vs H1 => sp (vs ++ dvs) H1 Q E) : tCall sp dvs E t σ H Q := h
theorem g_tup {t : TA} (h : t σ H fun xs H1 => xs.length ≤ sizeLine ∧ ∀ p, H1 p = none → Q (.ref p) (upd H1 p (.tup xs))) : tTup t σ H Q := h
theorem g_lst {t : TA} (h : t σ H fun xs H1 => xs.length ≤ sizeLine ∧ ∀ p, H1 p = none → Q (.ref p) (upd H1 p (.lst xs))) : tLst t σ H Q := h
theorem g_lenL {p : Addr} {ys : List V} (e : SqL K H p ys) (h : Q (.int ys.length) H) : rLen K [.ref p] H Q := ⟨p, ys, rfl, .inl e, h⟩
theorem g_lenT {p : Addr} {ys : List V} (e : SqT K H p ys) (h : Q (.int ys.length) H) : rLen K [.ref p] H Q := ⟨p, ys, rfl, .inr e, h⟩
theorem g_lenD {p : Addr} {kvs : List (Key × V)} (e : H p = some (.dK kvs)) (h : Q (.int kvs.length) H) : rLenD [.ref p] H Q := ⟨p, kvs, rfl, e, h⟩
theorem g_ixL {p : Addr} {xs : List V} (e : SqL K H p xs) (a : atI xs i = some v) (h : Q v H) : rIxL K (.ref p) (.int i) H Q := ⟨p, xs, i, v, rfl, rfl, e, a, h⟩
theorem g_ixT {p : Addr} {xs : List V} (e : SqT K H p xs) (a : atI xs i = some v) (h : Q v H) : rIxT K (.ref p) (.int i) H Q := ⟨p, xs, i, v, rfl, rfl, e, a, h⟩
theorem g_max2 (h : Q (.int (if j > i then j else i)) H) : rMax2 [.int i, .int j] H Q := ⟨i, j, rfl, h⟩
theorem g_min2 (h : Q (.int (if j < i then j else i)) H) : rMin2 [.int i, .int j] H Q := ⟨i, j, rfl, h⟩
theorem g_intb {k : Bool} (h : Q (.int (if k then 1 else 0)) H) : rInt1 [.bl k] H Q := .inr ⟨k, rfl, h⟩
theorem g_dnotin {ty td : TE} (h : ty σ H fun y H1 => td σ H1 fun x H2 => ∃ a o, x = .ref a ∧ DGet H2 a y o ∧ Q (.bl (!o.isSome)) H2) : tDNotIn ty td σ H Q := h
theorem g_din {ty td : TE} (h : ty σ H fun y H1 => td σ H1 fun x H2 => ∃ a o, x = .ref a ∧ DGet H2 a y o ∧ Q (.bl o.isSome) H2) : tDIn ty td σ H Q := h
theorem g_dget {ty td : TE} (h : td σ H fun x H1 => ty σ H1 fun y H2 => ∃ a v, x = .ref a ∧ DGet H2 a y (some v) ∧ Q v H2) : tDGet td ty σ H Q := h
theorem g_dput {td ty tv : TE} (h : tv σ H fun v H1 => td σ H1 fun x H2 => ty σ H2 fun y H3 => ∃ a H4, x = .ref a ∧ DPut H3 a y v H4 ∧ D.nx σ H4) : sDPut td ty tv D σ H := h
theorem g_sfld {f : Str} {tv : TE} (h : tv σ H fun y H1 => ta σ H1 fun x H2 => ∃ a C dx fs, x = .ref a ∧ H2 a = some (.ins C dx fs) ∧ Cls K C ∧ NoAttr K C f ∧ fs.length < 1000 ∧ D.nx σ (upd H2 a (.ins C dx (putF f y fs)))) : sFld K ta tv f D σ H := h
theorem g_meth {C : Addr} {m : Str} {sp : Sp} {dvs : List V} {E : XK} {t : TA} (h : ta σ H fun x H1 => ∃ a dx fs, x = .ref a ∧ H1 a = some (.ins C dx fs) ∧ fs.lookup m = none ∧ t σ H1 fun vs H2 => sp (x :: (vs ++ dvs)) H2 Q E) : tMeth C m sp dvs E ta t σ H Q := h
theorem g_methP {C : Addr} {m : Str} {sp : Sp} {E : L2.St → XK} {t : TA} (h : ta σ H fun x H1 => ∃ a dx fs, x = .ref a ∧ H1 a = some (.ins C dx fs) ∧ fs.lookup m = none ∧ t σ H1 fun vs H2 => sp (x :: vs) H2 Q (E σ)) : tMethP C m sp E ta t σ H Q := h
theorem g_dnew (h : ∀ p, H p = none → Q (.ref p) (upd H p (.dK []))) : tDNewK σ H Q := h
theorem g_lenDI {d : Addr} {kvs : List (Key × V)} (e : H d = some (.dK kvs)) (h : Q (.int kvs.length) H) : rLenD [.ref d] H Q := ⟨d, kvs, rfl, e, h⟩
theorem g_listL {p : Addr} {ys : List V} (e : SqL K H p ys) (h : ∀ l, H l = none → Q (.ref l) (upd H l (.lst ys))) : rList K [.ref p] H Q := ⟨p, ys, rfl, .inl e, h⟩
theorem g_bm {T : String} {r : V → List V → Hp → VK → Prop} {t : TA} (h : ta σ H fun x H1 => tyV K T x H1 ∧ t σ H1 fun xs H2 => r x xs H2 Q) : tBM K T r ta t σ H Q := h
theorem g_append {l : Addr} {xs : List V} (e : H l = some (.lst xs)) (z : xs.length ≤ 1000) (h : Q .non (upd H l (.lst (xs ++ [v])))) : rAppend (.ref l) [v] H Q := ⟨l, xs, v, rfl, rfl, e, small1000 z, h⟩
theorem g_gsub {to ti : TE} {t : TSet} {R : L2.St → Hp → Prop} (h : to σ H fun o H1 => ti σ H1 fun i H2 => t o i v H2 fun H3 => R σ H3) : gSub to ti t v σ H R := h
theorem g_setL {p : Addr} {xs : List V} {k : Int} {jj : Nat} {R : Hp → Prop} (e : H p = some (.lst xs)) (hj : ixN xs.length k = some jj) (h : R (upd H p (.lst (xs.set jj v)))) : rSetL (.ref p) (.int k) v H R := ⟨p, xs, k, jj, rfl, rfl, e, hj, h⟩
theorem g_rep {l : Addr} {xs : List V} {k : Int} (e : H l = some (.lst xs)) (h0 : 0 ≤ k) (h1 : k ≤ 1000) (h2 : xs.length ≤ 1000) (h : ∀ p, H p = none → Q (.ref p) (upd H p (.lst (List.replicate k.toNat xs).flatten))) : rRep (.ref l) (.int k) H Q :=
  ⟨l, k, xs, rfl, rfl, e, by omega, by omega, by
    have : k.toNat ≤ 1000 := by omega
    have := Nat.mul_le_mul h2 this
    exact Nat.le_trans this (by decide), h⟩
theorem putF_lt {f : Str} {v : V} : ∀ {fs : List (Str × V)} {n : Nat}, fs.length < n → (putF f v fs).length < n + 1
  | [], n, h => by show 1 < n + 1; have : 0 < n := h; omega
  | (g, x) :: r, n, h => by
    show (if g = f then (g, v) :: r else (g, x) :: putF f v r).length < n + 1
    have h' : r.length + 1 < n := h
    split
    · show r.length + 1 < n + 1; omega
    · have := putF_lt (f := f) (v := v) (fs := r) (n := n - 1) (by omega)
      show (putF f v r).length + 1 < n + 1; omega
/-- a test whose outcome is open -/
theorem g_ite {p A B : Prop} [Decidable p] (h1 : p → A) (h2 : ¬ p → B) : if decide p = true then A else B := by
  by_cases h : p
  · rw [if_pos (decide_eq_true h)]; exact h1 h
  · rw [if_neg (by simpa using h)]; exact h2 h
theorem g_iteN {p A B : Prop} [Decidable p] (h1 : ¬ p → A) (h2 : p → B) : if (!decide p) = true then A else B := by
  by_cases h : p
  · rw [if_neg (by simpa using h)]; exact h2 h
  · rw [if_pos (by simpa using h)]; exact h1 h
theorem g_iteNN {b : Bool} {A B : Prop} (h : if b = true then A else B) : if (!!b) = true then A else B := by rw [Bool.not_not]; exact h
theorem g_iteB {b : Bool} {A B : Prop} (h1 : b = true → A) (h2 : b = false → B) : if b = true then A else B := by
  cases b with
  | true => rw [if_pos rfl]; exact h1 rfl
  | false => rw [if_neg (by decide)]; exact h2 rfl
theorem g_iteNB {b : Bool} {A B : Prop} (h1 : b = false → A) (h2 : b = true → B) : if (!b) = true then A else B := by
  cases b with
  | true => rw [if_neg (by decide)]; exact h2 rfl
  | false => rw [if_pos (by decide)]; exact h1 rfl
theorem g_iteT {A B : Prop} (h : A) : if true = true then A else B := by rw [if_pos rfl]; exact h
theorem g_iteF {A B : Prop} (h : B) : if false = true then A else B := by rw [if_neg (by decide)]; exact h
theorem g_iteNF {A B : Prop} (h : A) : if (!false) = true then A else B := by rw [if_pos (by decide)]; exact h
theorem g_iteNT {A B : Prop} (h : B) : if (!true) = true then A else B := by rw [if_neg (by decide)]; exact h
end
theorem g_lc {σ : L2.St} {H : Hp} {Q : VK} {wi : TI} {g : TG} {tt : TT} {te : TE} {vs : List Nat}
    (h : wi σ H fun J H1 => ∀ D, H1 D = none → ∃ W : Nat → Nat → Hp → Prop, (∃ m, W 0 m (upd H1 D (.lst []))) ∧ ∀ i m H, W i m H →
      (J.stop i H ∧ Q (.ref D) H) ∨ (J.go i H ∧ ∃ Nx : Hp → Prop, (∀ H', Nx H' → ∃ m', m' < m ∧ W (i + 1) m' H') ∧ ∀ x H', J.yld i H x H' → g x (wipe σ vs) H' fun σ2 H2 => wipe σ2 vs = wipe σ vs ∧ tt σ2 H2 fun b H3 =>
        if b = true then te σ2 H3 fun y H4 => ∃ acc, H4 D = some (.lst acc) ∧ acc.length < sizeLine ∧ Nx (upd H4 D (.lst (acc ++ [y]))) else Nx H3)) : tLc wi g tt te vs σ H Q := h
theorem g_iList {σ : L2.St} {H : Hp} {K : PySem.W.Frag} {tl : TE} {R : It → Hp → Prop} (h : tl σ H fun x H1 => ∃ a, x = .ref a ∧ (∃ xs, SqL K H1 a xs) ∧ R (Itl K a) H1) : iList K tl σ H R := h
theorem g_iTup {σ : L2.St} {H : Hp} {K : PySem.W.Frag} {tl : TE} {R : It → Hp → Prop} (h : tl σ H fun x H1 => ∃ a, x = .ref a ∧ (∃ xs, SqT K H1 a xs) ∧ R (Itt K a) H1) : iTup K tl σ H R := h
theorem g_iRng1 {σ : L2.St} {H : Hp} {ta : TA} {R : It → Hp → Prop} (h : ta σ H fun vs H1 => ∃ j : Int, vs = [.int j] ∧ -(2 ^ 62) ≤ j ∧ j < 2 ^ 62 ∧ R (Itr 0 j.toNat) H1) : iRng1 ta σ H R := h
theorem g_for {σ : L2.St} {H : Hp} {D : Ends} {wi : TI} {g : TG} {tb : TS} (h : wi σ H fun J H1 => ∃ W : Nat → Nat → L2.St → Hp → Prop, (∃ m, W 0 m σ H1) ∧ ∀ i m σ H, W i m σ H →
  (J.stop i H ∧ D.nx σ H) ∨ (J.go i H ∧ ∃ N : L2.St → Hp → Prop, (∀ σ' H', N σ' H' → ∃ m', m' < m ∧ W (i + 1) m' σ' H') ∧ ∀ x H', J.yld i H x H' → g x σ H' fun σ2 H2 => tb { D with nx := N, ct := N, bk := D.nx } σ2 H2)) : tFor wi g tb D σ H := h
theorem g_sl {σ : L2.St} {H : Hp} {Q : VK} {r : V → Option Int → Option Int → Hp → VK → Prop} {te : TE} {tl th : TO} (h : te σ H fun x H1 => tl σ H1 fun l H2 => th σ H2 fun u H3 => r x l u H3 Q) : tSl r te tl th σ H Q := h
theorem g_part {σ : L2.St} {H : Hp} {te : TE} {R : Option Int → Hp → Prop} (h : te σ H fun x H1 => ∃ i, x = .int i ∧ R (some i) H1) : tPart te σ H R := h
theorem g_nopart {σ : L2.St} {H : Hp} {R : Option Int → Hp → Prop} (h : R none H) : tNoPart σ H R := h
theorem g_partI {H : Hp} {i : Int} {R : Option Int → Hp → Prop} (h : R (some i) H) : ∃ j, V.int i = .int j ∧ R (some j) H := ⟨i, rfl, h⟩
theorem g_isiI {K : PySem.W.Frag} {H : Hp} {Q : VK} {x : V} {t : Value} {T : String} {b : Bool} (ty : TyOf K H x t) (e : PySem.W.kitOne K t (.type T) = some b) (h : Q (.bl b) H) : rIsi K [x, .ty T] H Q :=
  ⟨x, .ty T, t, .type T, b, rfl, .ty T, .base ty, e, h⟩
theorem g_callE {σ : L2.St} {H : Hp} {Q : VK} {sp : Sp} {t : TA} (h : t σ H fun vs H1 => sp vs H1 Q E0) : tCallE sp t σ H Q := h
theorem g_lstRg {σ : L2.St} {H : Hp} {Q : VK} {te : L2.St → Hp → (Int → Int → Hp → Prop) → Prop} (h : te σ H fun a b H1 => RgOk a b ∧ ∀ q, H1 q = none → Q (.ref q) (upd H1 q (.lst (rgV a b)))) : tLstRg te σ H Q := h
theorem g_rg1 {σ : L2.St} {H : Hp} {ta : TE} {R : Int → Int → Hp → Prop} (h : ta σ H fun x H1 => ∃ n, x = .int n ∧ R 0 n H1) : tRg1 ta σ H R := h
theorem g_rg1I {H : Hp} {i : Int} {R : Int → Hp → Prop} (h : R i H) : ∃ n, V.int i = .int n ∧ R n H := ⟨i, rfl, h⟩
theorem g_isE {K : PySem.W.Frag} {H : Hp} {Q : VK} {D p c : Addr} {b : Bool} (e : PySem.W.kitOne K (.ref D) (.ref c) = some b) (h : Q (.bl b) H) : rIsE K D p [.ref p, .ref c] H Q :=
  ⟨.ref c, .ref c, b, rfl, fun _ r => r, e, h⟩
theorem g_isET {K : PySem.W.Frag} {H : Hp} {Q : VK} {D p : Addr} {T : String} {b : Bool} (e : PySem.W.kitOne K (.ref D) (.type T) = some b) (h : Q (.bl b) H) : rIsE K D p [.ref p, .ty T] H Q :=
  ⟨.ty T, .type T, b, rfl, fun _ r => r, e, h⟩
theorem g_neD {K : PySem.W.Frag} {H : Hp} {Q : VK} {x y : V} {d e : PyData} (hx : Dp K H x d) (hy : Dp K H y e) (sd : SeqAt.shaped d = true) (se : SeqAt.shaped e = true) (h : Q (.bl (!PyData.eqv d e)) H) : rNeD K x y H Q := ⟨d, e, hx, hy, sd, se, h⟩
theorem g_eqD {K : PySem.W.Frag} {H : Hp} {Q : VK} {x y : V} {d e : PyData} (hx : Dp K H x d) (hy : Dp K H y e) (sd : SeqAt.shaped d = true) (se : SeqAt.shaped e = true) (h : Q (.bl (PyData.eqv d e)) H) : rEqD K x y H Q := ⟨d, e, hx, hy, sd, se, h⟩
theorem eqv_same {d : PyData} (s : SeqAt.shaped d = true) : PyData.eqv d d = true := by
  unfold SeqAt.shaped at s
  exact SeqAt.eqv_refl d (Bool.and_eq_true _ _ ▸ s).1
/-- equal data: the same answer -/
theorem g_neDS {K : PySem.W.Frag} {H : Hp} {Q : VK} {x y : V} {d : PyData} (hx : Dp K H x d) (hy : Dp K H y d) (sd : SeqAt.shaped d = true) (h : Q (.bl false) H) : rNeD K x y H Q := ⟨d, d, hx, hy, sd, sd, by rw [eqv_same sd]; exact h⟩
theorem g_eqDS {K : PySem.W.Frag} {H : Hp} {Q : VK} {x y : V} {d : PyData} (hx : Dp K H x d) (hy : Dp K H y d) (sd : SeqAt.shaped d = true) (h : Q (.bl true) H) : rEqD K x y H Q := ⟨d, d, hx, hy, sd, sd, by rw [eqv_same sd]; exact h⟩
theorem g_all {K : PySem.W.Frag} {H : Hp} {Q : VK} {p : Addr} {bs : List Bool} (e : SqL K H p (bs.map V.bl)) (hb : ∀ b ∈ bs, b = true) (h : Q (.bl true) H) : rAll K [.ref p] H Q :=
  ⟨p, bs, rfl, e, by rw [show bs.all id = true from List.all_eq_true.mpr fun b m => hb b m]; exact h⟩
theorem g_yes {σ : L2.St} {H : Hp} {B : Bool → Hp → Prop} (h : B true H) : tYes σ H B := h
/-- what follows a statement, kept closed: J is what is to be reached -/
theorem g_cut {σ : L2.St} {H : Hp} {t : TS} {D : Ends} (J : L2.St → Hp → Prop) (h : ∀ D' : Ends, D'.rt = D.rt → (∀ σ' H', J σ' H' → D'.nx σ' H') → t D' σ H) (k : ∀ σ' H', J σ' H' → D.nx σ' H') : t D σ H := h D rfl k
theorem g_make {σ : L2.St} {H : Hp} {Q : VK} {C : Addr} {sp : Sp} {dvs : List V} {E : XK} {t : TA} (h : t σ H fun vs H1 => ∀ x dx, H1 x = none → H1 dx = none → dx ≠ x → sp (.ref x :: (vs ++ dvs)) (upd (upd H1 dx (.own x)) x (.ins C dx [])) (fun v H2 => v = .non ∧ Q (.ref x) H2) E) : tMake C sp dvs E t σ H Q := h
theorem g_ddel {σ : L2.St} {H : Hp} {D : Ends} {td ty : TE} (h : td σ H fun x H1 => ty σ H1 fun y H2 => ∃ a kvs k, x = .ref a ∧ H2 a = some (.dK kvs) ∧ y = kV k ∧ (valV kvs k).isSome = true ∧ D.nx σ (upd H2 a (.dK (dropK kvs k)))) : sDDel td ty D σ H := h
theorem g_star {σ : L2.St} {H : Hp} {K : PySem.W.Frag} {te : TE} {t : TA} {R : List V → Hp → Prop} (h : te σ H fun x H1 => ∃ p xs, x = V.ref p ∧ (SqT K H1 p xs ∨ SqL K H1 p xs) ∧ t σ H1 fun ys H2 => R (xs ++ ys) H2) : StX.tStar K te t σ H R := h
theorem g_dpop1 {σ : L2.St} {H : Hp} {Q : VK} {td ty : TE} (h : td σ H fun x H1 => ∃ a, x = .ref a ∧ IsD H1 a ∧ ty σ H1 fun y H2 => ∃ kvs k v, H2 a = some (.dK kvs) ∧ y = kV k ∧ valV kvs k = some v ∧ Q v (upd H2 a (.dK (dropK kvs k)))) : tDPop1 td ty σ H Q := h
theorem g_dget2 {σ : L2.St} {H : Hp} {Q : VK} {td ty tx : TE} (h : td σ H fun x H1 => ∃ a, x = .ref a ∧ IsD H1 a ∧ ty σ H1 fun y H2 => tx σ H2 fun z H3 => ∃ o, DGet H3 a y o ∧ Q (o.getD z) H3) : tDGet2 td ty tx σ H Q := h
theorem g_iteNS {α : Type} {x : α} {A B : Prop} (h : B) : if (!(some x).isSome) = true then A else B := by rw [if_neg (by simp)]; exact h
theorem g_iteNO {α : Type} {A B : Prop} (h : A) : if (!(none : Option α).isSome) = true then A else B := by rw [if_pos (by simp)]; exact h
theorem g_iteS {α : Type} {x : α} {A B : Prop} (h : A) : if (some x).isSome = true then A else B := by rw [if_pos (by simp)]; exact h
theorem g_iteO {α : Type} {A B : Prop} (h : B) : if (none : Option α).isSome = true then A else B := by rw [if_neg (by simp)]; exact h
/-- free behind a store: free ahead of it -/
theorem none_upd {H : Hp} {b c : Addr} {o : HO} (h : upd H c o b = none) : b ≠ c ∧ H b = none := by
  have n : b ≠ c := fun z => by rw [z, upd_same] at h; cases h
  exact ⟨n, by rw [upd_ne n] at h; exact h⟩
/-- a written list fits -/
theorem sz1 {n : Nat} (h : n ≤ 100000) : n ≤ sizeLine := Nat.le_trans h (by decide)

/-- a message of three parts -/
theorem g_msg {σ : L2.St} {H : Hp} {R : Str → Hp → Prop} {s1 s2 : Str} {i : Int} (h1 : (Str.empty ++ s1).length ≤ sizeLine) (hi : i.natAbs.log2 < 1920) (h2 : (Str.empty ++ s1 ++ Str.ofString (toString i)).length ≤ sizeLine) (h3 : (Str.empty ++ s1 ++ Str.ofString (toString i) ++ s2).length ≤ sizeLine)
    (h : R (Str.empty ++ s1 ++ Str.ofString (toString i) ++ s2) H) : tJs [tC (.str s1), tFmt (tC (.int i)), tC (.str s2)] Str.empty σ H R :=
  ⟨s1, rfl, h1, .inr ⟨i, rfl, hi, _, rfl, h2, s2, rfl, h3, h⟩⟩
theorem sl_tupK {X : Cx} {K : PySem.W.Frag} (h : X.K = K) : SlR X (rSlT K) := by
  subst h
  exact sl_tup

/-! ### the tactics. "hl": what stands at an address; "ne": two addresses differ; "go": on, as far as nothing is to be decided -/
end LW
/-! # min of a tuple of numbers -/
namespace LW
open PySem PySem.Spec PyProof.Rows L2
section
variable {prog : Program} {w : World} {A : Around} {E : Value → Shared → Prop} {s : Shared} {l : Addr}
theorem min_intTup {xs : Array (Int × Tok)} {Q : Value → Shared → Prop} (hh : A.handled = none) (hl : s.heap.IsTuple l (intItems xs)) (hne : 0 < xs.size)
    (h : ∀ v h' tk, (intItems xs)[argBest (fun i j => decide (numAt xs i < numAt xs j)) (xs.size - 1)]? = some v → (∀ b o, s.heap.get? b = some o → h'.get? b = some o) → Q v { s with heap := h', toks := tk }) :
    wpAny (model prog w) A (call (.builtin "min") [.ref l]) Q E s := by
  have hlt : l < s.heap.objs.size := by obtain ⟨_, e, _⟩ := hl; exact Heap.lt_size e
  refine call_min_walk (wpAny_pyIter_tuple hl ?_)
  refine ⟨_, _, _, _, _, _, _, rfl, Walks.tuple (A := A.in1) hh _ l (Nat.ne_of_lt hlt) (intItems xs), ⟨⟨_, Heap.get?_push_size _ rfl, rfl, rfl⟩, hl.push _⟩, fun b hb => ?_, by simpa [intItems] using hne, CmpOf.ints_lt (numAt xs) (fun _ _ => intItems_at), fun v h' tk hP hk => ?_⟩
  · show b < (s.heap.push _).objs.size
    rw [Heap.size_push]
    rcases List.mem_cons.mp hb with rfl | hb
    · exact Nat.lt_succ_self _
    · rcases List.mem_cons.mp hb with rfl | hb
      · exact Nat.lt_succ_of_lt hlt
      · cases hb
  · refine h v h' tk (by simpa [intItems] using hP) fun b o e => hk b o (fun hm => ?_) (Heap.get?_push_of_some _ e)
    rcases List.mem_cons.mp hm with e1 | hm
    · exact absurd (e1 ▸ Heap.lt_size e) (Nat.lt_irrefl _)
    · cases hm
theorem min_tup_raw {its : List Value} {ns : List Int} {Q : Value → Shared → Prop} (hh : A.handled = none) (hl : s.heap.IsTuple l its.toArray) (hi : IntsAre its ns) (hne : 0 < ns.length)
    (h : ∀ h' tk M t', (∀ b o, s.heap.get? b = some o → h'.get? b = some o) → M ∈ ns → (∀ a, a ∈ ns → M ≤ a) → Q (.int M t') { s with heap := h', toks := tk }) : wpAny (model prog w) A (call (.builtin "min") [.ref l]) Q E s := by
  obtain ⟨xs, e⟩ := hi.allInts.items
  have hn : numsOf (intItems xs).toList = ns := by rw [← e]; exact hi.numsOf
  rw [nums_intItems] at hn
  subst hn
  rw [e] at hl
  have hsz : 0 < xs.size := by simpa using hne
  refine min_intTup hh hl hsz fun v h' tk hv hk => ?_
  obtain ⟨t, rfl⟩ := intItems_at hv
  obtain ⟨h1, h2⟩ := argBest_lt (numAt xs) (xs.size - 1)
  refine h h' tk _ t hk ?_ fun a ha => ?_
  · rw [numAt_eq]; exact PySem.getD_mem (by rw [List.length_map, Array.length_toList]; omega)
  · obtain ⟨j, hj, rfl⟩ := mem_getD ha
    rw [List.length_map, Array.length_toList] at hj
    rw [← numAt_eq]; exact h2 j (by omega)
end
section
variable {X : Cx}
/-- min(t) of a tuple of numbers -/
def rMinT (K : PySem.W.Frag) : List V → Hp → VK → Prop := fun vs H Q => ∃ (a : Addr) (ns : List Int), vs = [V.ref a] ∧ SqT K H a (ns.map V.int) ∧ 0 < ns.length ∧ ∀ m, m ∈ ns → (∀ y, y ∈ ns → m ≤ y) → Q (.int m) H
theorem call_minT (hc : X.calm = true) : CallR X (.builtin "min") (rMinT X.K) := by
  intro pins s σ H vs us Q I r h
  obtain ⟨a, ns, rfl, hs, hne, q⟩ := h
  obtain ⟨its, rv, hl, _⟩ := I.tuple hs
  rw [Vals.ref1 r]
  exact min_tup_raw (I.ok.hd hc) hl rv.ints hne fun h' tk m t' hk h1 h2 => ⟨.int _, H, I.kept hk, ⟨_, rfl⟩, q m h1 h2⟩
end
end LW
/-! # How a chest stands in the heap -/
namespace LW
open PySem PySem.Spec PyProof.Rows L2

/-! ### frames -/
/-- all that stood outside of O stands -/
def Fr (O : List Addr) (H H' : Hp) : Prop := ∀ b o, H b = some o → b ∉ O → H' b = some o
/-- what is owned behind was owned, or is new -/
def Gr (O O' : List Addr) (H : Hp) : Prop := ∀ b, b ∈ O' → b ∈ O ∨ H b = none
theorem Fr.refl (O : List Addr) (H : Hp) : Fr O H H := fun _ _ h _ => h
theorem Fr.trans {O : List Addr} {H H1 H2 : Hp} (f : Fr O H H1) (g : Fr O H1 H2) : Fr O H H2 := fun b o h n => g b o (f b o h n) n
theorem Fr.same {O : List Addr} {H H' : Hp} (f : Same H H') : Fr O H H' := fun b o h _ => f b o h
theorem Fr.sub {O O' : List Addr} {H H' : Hp} (f : Fr O H H') (s : ∀ b, b ∈ O → b ∈ O') : Fr O' H H' := fun b o h n => f b o h fun m => n (s b m)
theorem Fr.free {O : List Addr} {H H' : Hp} (f : Fr O H H') {b : Addr} (h : H' b = none) (n : b ∉ O) : H b = none := by
  cases e : H b with
  | none => rfl
  | some o => rw [f b o e n] at h; cases h
theorem Fr.upd {O : List Addr} {H : Hp} {b : Addr} {o : HO} (h : b ∈ O) : Fr O H (upd H b o) := fun c u e n => by
  rw [upd_ne (fun z => n (by rw [z]; exact h))]; exact e
theorem Same.new {H : Hp} {b : Addr} {o : HO} (h : H b = none) : Same H (upd H b o) := fun c u e => by
  rw [upd_ne (ne_of_none e h)]; exact e

/-! ### attributes -/
def fBox (l : Addr) (h : Bool) (w : Addr) : List (Str × V) := [("slots", .ref l), ("in_hands", .bl h), ("deeds", .ref w)]
def fChest (nb np : Int) (d1 d2 : Addr) : List (Str × V) := [("next_box", .int nb), ("next_pair", .int np), ("kept_boxes", .ref d1), ("kept_pairs", .ref d2)]
section
variable {l w d1 d2 : Addr} {h : Bool} {nb np z : Int} {m : Str}
theorem fBox_slots : (fBox l h w).lookup ("slots" : Str) = some (.ref l) := by rfl
theorem fBox_hand : (fBox l h w).lookup ("in_hands" : Str) = some (.bl h) := by rfl
theorem fBox_deeds : (fBox l h w).lookup ("deeds" : Str) = some (.ref w) := by rfl
theorem fBox_putHand {b : Bool} : putF "in_hands" (.bl b) (fBox l h w) = fBox l b w := by rfl
theorem fBox_putDeeds {v : Addr} : putF "deeds" (.ref v) (fBox l h w) = fBox l h v := by rfl
theorem fBox_init : putF "deeds" (.ref w) (putF "in_hands" (.bl h) (putF "slots" (.ref l) [])) = fBox l h w := by rfl
theorem fChest_nb : (fChest nb np d1 d2).lookup ("next_box" : Str) = some (.int nb) := by rfl
theorem fChest_np : (fChest nb np d1 d2).lookup ("next_pair" : Str) = some (.int np) := by rfl
theorem fChest_kb : (fChest nb np d1 d2).lookup ("kept_boxes" : Str) = some (.ref d1) := by rfl
theorem fChest_kp : (fChest nb np d1 d2).lookup ("kept_pairs" : Str) = some (.ref d2) := by rfl
theorem fChest_putNb : putF "next_box" (.int z) (fChest nb np d1 d2) = fChest z np d1 d2 := by rfl
theorem fChest_putNp : putF "next_pair" (.int z) (fChest nb np d1 d2) = fChest nb z d1 d2 := by rfl
theorem fChest_init : putF "kept_pairs" (.ref d2) (putF "kept_boxes" (.ref d1) (putF "next_pair" (.int np) (putF "next_box" (.int nb) []))) = fChest nb np d1 d2 := by rfl
theorem fChest_no (h1 : (m == ("next_box" : Str)) = false) (h2 : (m == ("next_pair" : Str)) = false) (h3 : (m == ("kept_boxes" : Str)) = false) (h4 : (m == ("kept_pairs" : Str)) = false) : (fChest nb np d1 d2).lookup m = none := by
  unfold fChest
  simp only [List.lookup_cons, h1, h2, h3, h4, List.lookup_nil]
end

/-! ### what is said of it -/
inductive Deed where
  | up
  | down (o : Int)
  | hang (o s : Int) (h : Bool)
  deriving DecidableEq
inductive DeedV (H : Hp) : V → Deed → Prop where
  | up {t : Addr} (e : H t = some (.tup [.str "up"])) : DeedV H (.ref t) .up
  | down {t : Addr} {o : Int} (e : H t = some (.tup [.str "down", .int o])) : DeedV H (.ref t) (.down o)
  | hang {t : Addr} {o s : Int} {h : Bool} (e : H t = some (.tup [.str "hang", .int o, .int s, .bl h])) : DeedV H (.ref t) (.hang o s h)
inductive SlotV (H : Hp) : V → Option (Int × Bool) → Prop where
  | non : SlotV H .non none
  | tup {t : Addr} {o : Int} {h : Bool} (e : H t = some (.tup [.int o, .bl h])) : SlotV H (.ref t) (some (o, h))
def PairV (H : Hp) (t : Addr) (p : Int × Int × Int) : Prop := H t = some (.tup [.int p.1, .int p.2.1, .int p.2.2])
structure Bx where
  sl : List (Option (Int × Bool))
  hand : Bool
  will : List Deed
structure Ch where
  nb : Int
  np : Int
  bs : List (Int × Bx)
  ps : List (Int × (Int × Int × Int))

/-! ### where it stands -/
structure LBx where
  a : Addr
  dx : Addr
  l : Addr
  w : Addr
  vs : List V
  hand : Bool
  ds : List V
structure LCh where
  dx : Addr
  d1 : Addr
  d2 : Addr
  nb : Int
  np : Int
  B : List (Int × LBx)
  R : List (Int × Addr)
def ownB (b : LBx) : List Addr := [b.a, b.l, b.w]
def ownBs (B : List (Int × LBx)) : List Addr := B.flatMap fun e => ownB e.2
def own (p : Addr) (C : LCh) : List Addr := p :: C.d1 :: C.d2 :: ownBs C.B
def kvB (B : List (Int × LBx)) : List (Key × V) := B.map fun e => ((Sum.inl e.1 : Key), V.ref e.2.a)
def kvR (R : List (Int × Addr)) : List (Key × V) := R.map fun e => ((Sum.inl e.1 : Key), V.ref e.2)
structure BxAt (cB : Addr) (H : Hp) (b : LBx) : Prop where
  ob : H b.a = some (.ins cB b.dx (fBox b.l b.hand b.w))
  sl : H b.l = some (.lst b.vs)
  wl : H b.w = some (.lst b.ds)
  sz : b.vs.length ≤ 9 ∧ b.ds.length ≤ 9
structure CAt (cC cB : Addr) (H : Hp) (p : Addr) (C : LCh) : Prop where
  ob : H p = some (.ins cC C.dx (fChest C.nb C.np C.d1 C.d2))
  d1 : H C.d1 = some (.dK (kvB C.B))
  d2 : H C.d2 = some (.dK (kvR C.R))
  bx : ∀ e ∈ C.B, BxAt cB H e.2
  nd : (own p C).Nodup
  kB : (C.B.map (·.1)).Pairwise (· < ·)
  lB : ∀ e ∈ C.B, 0 ≤ e.1 ∧ e.1 < C.nb
  kR : (C.R.map (·.1)).Pairwise (· < ·)
  lR : ∀ e ∈ C.R, 0 ≤ e.1 ∧ e.1 < C.np
  sB : C.B.length ≤ 60
  sR : C.R.length ≤ 60
  nn : 0 ≤ C.nb ∧ 0 ≤ C.np
def BxS (H : Hp) (b : LBx) (x : Bx) : Prop := Paired (SlotV H) b.vs x.sl ∧ b.hand = x.hand ∧ Paired (DeedV H) b.ds x.will
structure CS (H : Hp) (C : LCh) (S : Ch) : Prop where
  nb : C.nb = S.nb
  np : C.np = S.np
  bs : Paired (fun e f => e.1 = f.1 ∧ BxS H e.2 f.2) C.B S.bs
  ps : Paired (fun e f => e.1 = f.1 ∧ PairV H e.2 f.2) C.R S.ps
/-- tuples stand -/
def Tups (H H' : Hp) : Prop := ∀ t xs, H t = some (.tup xs) → H' t = some (.tup xs)
theorem DeedV.keep {H H' : Hp} (f : Tups H H') {v : V} {d : Deed} : DeedV H v d → DeedV H' v d
  | .up e => .up (f _ _ e)
  | .down e => .down (f _ _ e)
  | .hang e => .hang (f _ _ e)
theorem SlotV.keep {H H' : Hp} (f : Tups H H') {v : V} {d : Option (Int × Bool)} : SlotV H v d → SlotV H' v d
  | .non => .non
  | .tup e => .tup (f _ _ e)
theorem BxS.keep {H H' : Hp} (f : Tups H H') {b : LBx} {x : Bx} (h : BxS H b x) : BxS H' b x := ⟨L2.Paired.mapP h.1 fun _ _ => SlotV.keep f, h.2.1, L2.Paired.mapP h.2.2 fun _ _ => DeedV.keep f⟩
theorem CS.keep {H H' : Hp} (f : Tups H H') {C : LCh} {S : Ch} (h : CS H C S) : CS H' C S :=
  ⟨h.nb, h.np, L2.Paired.mapP h.bs fun _ _ k => ⟨k.1, k.2.keep f⟩, L2.Paired.mapP h.ps fun _ _ k => ⟨k.1, f _ _ k.2⟩⟩

section
variable {cC cB : Addr} {H H' : Hp} {p : Addr} {C : LCh}
theorem ownBs_mem {B : List (Int × LBx)} {b : Addr} : b ∈ ownBs B ↔ ∃ e ∈ B, b = e.2.a ∨ b = e.2.l ∨ b = e.2.w := by
  unfold ownBs ownB
  simp only [List.mem_flatMap, List.mem_cons, List.not_mem_nil, or_false]
theorem own_mem {b : Addr} : b ∈ own p C ↔ b = p ∨ b = C.d1 ∨ b = C.d2 ∨ b ∈ ownBs C.B := by
  unfold own
  simp only [List.mem_cons]
/-- what is owned stands, and is no tuple -/
theorem CAt.dom (A : CAt cC cB H p C) {b : Addr} (h : b ∈ own p C) : ∃ o, H b = some o ∧ ∀ xs, o ≠ .tup xs := by
  rcases own_mem.mp h with rfl | rfl | rfl | h
  · exact ⟨_, A.ob, fun _ z => by cases z⟩
  · exact ⟨_, A.d1, fun _ z => by cases z⟩
  · exact ⟨_, A.d2, fun _ z => by cases z⟩
  · obtain ⟨e, he, rfl | rfl | rfl⟩ := ownBs_mem.mp h
    · exact ⟨_, (A.bx e he).ob, fun _ z => by cases z⟩
    · exact ⟨_, (A.bx e he).sl, fun _ z => by cases z⟩
    · exact ⟨_, (A.bx e he).wl, fun _ z => by cases z⟩
theorem CAt.tups (A : CAt cC cB H p C) (f : Fr (own p C) H H') : Tups H H' := fun t xs e => f t _ e fun m => by
  obtain ⟨o, h, n⟩ := A.dom m
  rw [e] at h
  exact n xs (Option.some.inj h).symm
theorem BxAt.keep {b : LBx} (f : ∀ c o, c ∈ ownB b → H c = some o → H' c = some o) (A : BxAt cB H b) : BxAt cB H' b :=
  ⟨f _ _ (by simp [ownB]) A.ob, f _ _ (by simp [ownB]) A.sl, f _ _ (by simp [ownB]) A.wl, A.sz⟩
/-- a chest stands while what it owns stands -/
theorem CAt.keep (f : ∀ c o, c ∈ own p C → H c = some o → H' c = some o) (A : CAt cC cB H p C) : CAt cC cB H' p C :=
  ⟨f _ _ (own_mem.mpr (.inl rfl)) A.ob, f _ _ (own_mem.mpr (.inr (.inl rfl))) A.d1, f _ _ (own_mem.mpr (.inr (.inr (.inl rfl)))) A.d2,
    fun e he => (A.bx e he).keep fun c o hc => f c o (own_mem.mpr (.inr (.inr (.inr (ownBs_mem.mpr ⟨e, he, by simpa [ownB] using hc⟩))))), A.nd, A.kB, A.lB, A.kR, A.lR, A.sB, A.sR, A.nn⟩
theorem CAt.same (A : CAt cC cB H p C) (f : Same H H') : CAt cC cB H' p C := A.keep fun c o _ => f c o
end

/-! ### look-ups -/
theorem lk_pos {α : Type} {x : α} {r : List (Int × α)} {n : Int} : ((n, x) :: r).lookup n = some x := by simp
theorem lk_neg {α : Type} {e : Int × α} {r : List (Int × α)} {n : Int} (h : ¬ n = e.1) : (e :: r).lookup n = r.lookup n := by
  obtain ⟨k, x⟩ := e
  have h : ¬ n = k := h
  have hb : (n == k) = false := by simpa using h
  rw [List.lookup_cons, hb]
theorem lk_mem {α : Type} {n : Int} {x : α} : ∀ {l : List (Int × α)}, l.lookup n = some x → (n, x) ∈ l
  | [], h => by simp at h
  | (k, y) :: r, h => by
    by_cases e : n = k
    · subst e; rw [lk_pos] at h; cases h; exact List.mem_cons_self
    · rw [lk_neg (by simpa using e)] at h; exact List.mem_cons_of_mem _ (lk_mem h)
theorem lk_none {α : Type} {n : Int} : ∀ {l : List (Int × α)}, l.lookup n = none ↔ n ∉ l.map (·.1)
  | [] => by simp
  | (k, y) :: r => by
    by_cases e : n = k
    · subst e; simp
    · rw [lk_neg (by simpa using e), lk_none]; simp [e]
theorem valV_kvB {n : Int} : ∀ (B : List (Int × LBx)), valV (kvB B) (Sum.inl n : Key) = (B.lookup n).map fun b => V.ref b.a
  | [] => rfl
  | (k, b) :: r => by
    show valV (((Sum.inl k : Key), V.ref b.a) :: kvB r) (Sum.inl n : Key) = _
    by_cases e : n = k
    · subst e; rw [valV_pos rfl, lk_pos]; rfl
    · rw [valV_neg (fun z => e (Sum.inl.inj z).symm), valV_kvB r, lk_neg (by simpa using e)]
theorem valV_kvR {n : Int} : ∀ (B : List (Int × Addr)), valV (kvR B) (Sum.inl n : Key) = (B.lookup n).map fun b => V.ref b
  | [] => rfl
  | (k, b) :: r => by
    show valV (((Sum.inl k : Key), V.ref b) :: kvR r) (Sum.inl n : Key) = _
    by_cases e : n = k
    · subst e; rw [valV_pos rfl, lk_pos]; rfl
    · rw [valV_neg (fun z => e (Sum.inl.inj z).symm), valV_kvR r, lk_neg (by simpa using e)]
theorem kvB_some {n : Int} {B : List (Int × LBx)} {b : LBx} (h : B.lookup n = some b) : valV (kvB B) (Sum.inl n : Key) = some (V.ref b.a) := by rw [valV_kvB, h]; rfl
theorem kvB_none {n : Int} {B : List (Int × LBx)} (h : B.lookup n = none) : valV (kvB B) (Sum.inl n : Key) = none := by rw [valV_kvB, h]; rfl
theorem kvR_some {n : Int} {B : List (Int × Addr)} {b : Addr} (h : B.lookup n = some b) : valV (kvR B) (Sum.inl n : Key) = some (V.ref b) := by rw [valV_kvR, h]; rfl
theorem kvR_none {n : Int} {B : List (Int × Addr)} (h : B.lookup n = none) : valV (kvR B) (Sum.inl n : Key) = none := by rw [valV_kvR, h]; rfl
theorem kvB_keys (B : List (Int × LBx)) : (kvB B).map (·.1) = (B.map (·.1)).map Sum.inl := by
  unfold kvB; simp [List.map_map]
theorem kvR_keys (B : List (Int × Addr)) : (kvR B).map (·.1) = (B.map (·.1)).map Sum.inl := by
  unfold kvR; simp [List.map_map]
theorem kvB_len (B : List (Int × LBx)) : (kvB B).length = B.length := by unfold kvB; simp
theorem kvR_len (B : List (Int × Addr)) : (kvR B).length = B.length := by unfold kvR; simp
theorem kvB_snoc (B : List (Int × LBx)) (n : Int) (b : LBx) : kvB (B ++ [(n, b)]) = kvB B ++ [((Sum.inl n : Key), V.ref b.a)] := by unfold kvB; simp
/-- a new key -/
theorem kvB_put {B : List (Int × LBx)} {n : Int} {b : LBx} (h : ∀ e ∈ B, e.1 < n) : putK (kvB B) (Sum.inl n : Key) (V.ref b.a) = kvB (B ++ [(n, b)]) := by
  have e : valV (kvB B) (Sum.inl n : Key) = none := by
    rw [valV_kvB, (lk_none (l := B) (n := n)).mpr]
    · rfl
    · intro m
      obtain ⟨x, hx, e⟩ := List.mem_map.mp m
      have := h x hx
      omega
  rw [putK_new _ e, kvB_snoc]
theorem kvR_put {B : List (Int × Addr)} {n : Int} {b : Addr} (h : ∀ e ∈ B, e.1 < n) : putK (kvR B) (Sum.inl n : Key) (V.ref b) = kvR (B ++ [(n, b)]) := by
  have e : valV (kvR B) (Sum.inl n : Key) = none := by
    rw [valV_kvR, (lk_none (l := B) (n := n)).mpr]
    · rfl
    · intro m
      obtain ⟨x, hx, e⟩ := List.mem_map.mp m
      have := h x hx
      omega
  rw [putK_new _ e]
  unfold kvR; simp
/-- sorted keys are the keys -/
theorem perm_sorted : ∀ {xs ys : List Int}, xs.Perm ys → xs.Pairwise (· ≤ ·) → ys.Pairwise (· < ·) → xs = ys
  | [], ys, p, _, _ => by simpa using p.symm.eq_nil
  | x :: xs, [], p, _, _ => by simpa using p.eq_nil
  | x :: xs, y :: ys, p, h1, h2 => by
    obtain ⟨a1, a2⟩ := List.pairwise_cons.mp h1
    obtain ⟨b1, b2⟩ := List.pairwise_cons.mp h2
    have hx : x ∈ y :: ys := p.subset List.mem_cons_self
    have hy : y ∈ x :: xs := p.symm.subset List.mem_cons_self
    have e : x = y := by
      rcases List.mem_cons.mp hx with e | hx
      · exact e
      · rcases List.mem_cons.mp hy with e | hy
        · exact e.symm
        · have := b1 x hx; have := a1 y hy; omega
    subst e
    rw [perm_sorted ((List.perm_cons x).mp p) a2 b2]
/-- one element by another at a key -/
def setB {α : Type} (l : List (Int × α)) (n : Int) (f : α → α) : List (Int × α) := l.map fun e => if e.1 = n then (e.1, f e.2) else e
theorem setB_keys {α : Type} (l : List (Int × α)) (n : Int) (f : α → α) : (setB l n f).map (·.1) = l.map (·.1) := by
  unfold setB
  rw [List.map_map]
  refine List.map_congr_left fun e _ => ?_
  show (if e.1 = n then (e.1, f e.2) else e).1 = e.1
  split <;> rfl

theorem ownBs_snoc {B : List (Int × LBx)} {n : Int} {b : LBx} : ownBs (B ++ [(n, b)]) = ownBs B ++ ownB b := by
  unfold ownBs; simp
theorem nd_app {α : Type} {xs ys : List α} (h1 : xs.Nodup) (h2 : ys.Nodup) (h : ∀ c, c ∈ ys → c ∉ xs) : (xs ++ ys).Nodup := by
  rw [List.nodup_append]
  exact ⟨h1, h2, fun x hx y hy e => h y hy (e ▸ hx)⟩
theorem pw_snoc {xs : List Int} {n : Int} (h : xs.Pairwise (· < ·)) (k : ∀ x ∈ xs, x < n) : (xs ++ [n]).Pairwise (· < ·) := by
  rw [List.pairwise_append]
  exact ⟨h, List.pairwise_singleton _ _, fun x hx y hy => by rw [List.mem_singleton.mp hy]; exact k x hx⟩
theorem CAt.fresh {cC cB : Addr} {H : Hp} {p c : Addr} {C : LCh} (A : CAt cC cB H p C) (h : H c = none) : c ∉ own p C := fun m => by
  obtain ⟨o, e, _⟩ := A.dom m
  rw [h] at e; cases e

theorem lk_of_mem {α : Type} {n : Int} {x : α} : ∀ {l : List (Int × α)}, (l.map (·.1)).Pairwise (· < ·) → (n, x) ∈ l → l.lookup n = some x
  | [], _, h => by simp at h
  | (k, y) :: r, pw, h => by
    have pw : (k :: r.map (·.1)).Pairwise (· < ·) := pw
    obtain ⟨h1, h2⟩ := List.pairwise_cons.mp pw
    rcases List.mem_cons.mp h with e | h
    · cases e; exact lk_pos
    · have := h1 n (List.mem_map.mpr ⟨_, h, rfl⟩)
      rw [lk_neg (by show ¬ n = k; omega)]
      exact lk_of_mem h2 h
theorem take_snoc {α : Type} : ∀ {l : List α} {i : Nat} {x : α}, l[i]? = some x → l.take (i + 1) = l.take i ++ [x]
  | [], i, x, h => by simp at h
  | b :: l, 0, x, h => by cases (Option.some.inj h : b = x); rfl
  | b :: l, i + 1, x, h => by
    have ih := take_snoc (l := l) (i := i) (x := x) h
    show b :: l.take (i + 1) = b :: l.take i ++ [x]
    rw [ih]; rfl

/-- isinstance's answer for a class over another one -/
theorem kit_cls {K : PySem.W.Frag} {D C : Addr} {b : Bool} (hc : PySem.W.isClsIn K C = true) (ht : PySem.W.typeIn K (.ref C) = some (.type "type")) (hs : PySem.W.subIn K (.ref D) (.ref C) = some b) (hr : PySem.W.subIn K (.ref C) (.ref C) = some true) : PySem.W.kitOne K (.ref D) (.ref C) = some b := by
  unfold PySem.W.kitOne
  by_cases e : D = C
  · rw [e, hr] at hs
    rw [if_pos (by rw [e]; exact beq_self_eq_true _), ← hs]
  · rw [if_neg (by simpa using e)]
    have hc' : (PySem.W.clsIn K C).isSome = true := hc
    show (if ((PySem.W.clsIn K C).isSome && PySem.W.typeIn K (.ref C) == some (.type "type")) = true then PySem.W.subIn K (.ref D) (.ref C) else none) = some b
    rw [if_pos (by rw [hc', ht]; rfl), hs]
theorem kit_ve {K : PySem.W.Frag} {D : Addr} (hs : PySem.W.subIn K (.ref D) (.type "ValueError") = some true) : PySem.W.kitOne K (.ref D) (.type "ValueError") = some true := by
  unfold PySem.W.kitOne
  rw [if_neg (show ¬ (Value.ref D == Value.type "ValueError") = true from fun z => nomatch (show false = true from z))]
  show (if PySem.W.kitMeta "ValueError" = true then PySem.W.subIn K (.ref D) (.type "ValueError") else none) = some true
  rw [if_pos (by decide +kernel), hs]

/-! ### one box changed -/
theorem lk_split {α : Type} {n : Int} {b : α} : ∀ {l : List (Int × α)}, (l.map (·.1)).Pairwise (· < ·) → l.lookup n = some b → ∃ l1 l2, l = l1 ++ (n, b) :: l2 ∧ (∀ e ∈ l1, e.1 ≠ n) ∧ ∀ e ∈ l2, e.1 ≠ n
  | [], _, h => by simp at h
  | (k, y) :: r, pw, h => by
    have pw : (k :: r.map (·.1)).Pairwise (· < ·) := pw
    obtain ⟨h1, h2⟩ := List.pairwise_cons.mp pw
    by_cases e : n = k
    · subst e
      rw [lk_pos] at h; cases h
      exact ⟨[], r, rfl, fun e he => (by cases he), fun e he z => by have := h1 e.1 (List.mem_map.mpr ⟨e, he, rfl⟩); omega⟩
    · rw [lk_neg (by simpa using e)] at h
      obtain ⟨l1, l2, e1, e2, e3⟩ := lk_split h2 h
      refine ⟨(k, y) :: l1, l2, by rw [e1]; rfl, fun x hx => ?_, e3⟩
      rcases List.mem_cons.mp hx with rfl | hx
      · exact fun z => e z.symm
      · exact e2 x hx
theorem setB_no {α : Type} {n : Int} {f : α → α} : ∀ {l : List (Int × α)}, (∀ e ∈ l, e.1 ≠ n) → setB l n f = l
  | [], _ => rfl
  | e :: r, h => by
    show (if e.1 = n then (e.1, f e.2) else e) :: setB r n f = e :: r
    rw [if_neg (h e List.mem_cons_self), setB_no fun x hx => h x (List.mem_cons_of_mem _ hx)]
theorem setB_app {α : Type} {n : Int} {f : α → α} {l1 l2 : List (Int × α)} {b : α} (h1 : ∀ e ∈ l1, e.1 ≠ n) (h2 : ∀ e ∈ l2, e.1 ≠ n) : setB (l1 ++ (n, b) :: l2) n f = l1 ++ (n, f b) :: l2 := by
  have e : setB (l1 ++ (n, b) :: l2) n f = setB l1 n f ++ (if n = n then (n, f b) else (n, b)) :: setB l2 n f := by
    unfold setB; simp
  rw [e, setB_no h1, setB_no h2, if_pos rfl]
theorem setB_len {α : Type} {n : Int} {f : α → α} {l : List (Int × α)} : (setB l n f).length = l.length := by unfold setB; simp
theorem setB_mem {α : Type} {n : Int} {f : α → α} {l : List (Int × α)} {e : Int × α} (h : e ∈ setB l n f) : ∃ x, (e.1, x) ∈ l ∧ ((e.1 = n ∧ e.2 = f x) ∨ (e.1 ≠ n ∧ e.2 = x)) := by
  obtain ⟨y, hy, rfl⟩ := List.mem_map.mp h
  by_cases q : y.1 = n
  · rw [if_pos q]; exact ⟨y.2, hy, .inl ⟨q, rfl⟩⟩
  · rw [if_neg q]; exact ⟨y.2, hy, .inr ⟨q, rfl⟩⟩
theorem setB_lk {α : Type} {n m : Int} {f : α → α} : ∀ {l : List (Int × α)}, (setB l n f).lookup m = (l.lookup m).map fun x => if m = n then f x else x
  | [] => rfl
  | (k, y) :: r => by
    have e : setB ((k, y) :: r) n f = (k, if k = n then f y else y) :: setB r n f := by
      show (if k = n then (k, f y) else (k, y)) :: setB r n f = _
      split <;> rfl
    rw [e]
    by_cases q : m = k
    · subst q; rw [lk_pos, lk_pos]; rfl
    · rw [lk_neg (by simpa using q), lk_neg (by simpa using q), setB_lk]
theorem kvB_set {B : List (Int × LBx)} {n : Int} {b b' : LBx} (pw : (B.map (·.1)).Pairwise (· < ·)) (h : B.lookup n = some b) (ea : b'.a = b.a) : kvB (setB B n fun _ => b') = kvB B := by
  obtain ⟨l1, l2, e, h1, h2⟩ := lk_split pw h
  rw [e, setB_app h1 h2]
  unfold kvB
  simp [ea]
theorem own_disj {p : Addr} {C : LCh} (nd : (own p C).Nodup) : ∀ e ∈ C.B, ∀ c ∈ ownB e.2, c ≠ p ∧ c ≠ C.d1 ∧ c ≠ C.d2 := by
  intro e he c hc
  unfold own at nd
  simp only [List.nodup_cons, List.mem_cons, not_or] at nd
  have m : c ∈ ownBs C.B := ownBs_mem.mpr ⟨e, he, by simpa [ownB] using hc⟩
  exact ⟨fun z => nd.1.2.2 (z ▸ m), fun z => nd.2.1.2 (z ▸ m), fun z => nd.2.2.1 (z ▸ m)⟩
/-- the box n stands otherwise behind, all else as it stood -/
theorem CAt.upd {cC cB : Addr} {H H' : Hp} {p : Addr} {C : LCh} {n : Int} {b b' : LBx} (hC : CAt cC cB H p C) (hb : C.B.lookup n = some b) (ea : b'.a = b.a) (el : b'.l = b.l)
    (ew : b'.w = b.w ∨ H b'.w = none) (hx : BxAt cB H' b') (fr : ∀ c o, H c = some o → c ∉ ownB b → H' c = some o) : CAt cC cB H' p { C with B := setB C.B n fun _ => b' } := by
  obtain ⟨l1, l2, eB, h1, h2⟩ := lk_split hC.kB hb
  have hm := lk_mem hb
  have dj := own_disj hC.nd _ hm
  have nin : ∀ c, c ∈ ownB b → c ≠ p ∧ c ≠ C.d1 ∧ c ≠ C.d2 := dj
  have nd := hC.nd
  have eo : own p C = (p :: C.d1 :: C.d2 :: ownBs l1) ++ ([b.a, b.l] ++ b.w :: ownBs l2) := by
    unfold own; rw [eB]; unfold ownBs; simp [ownB]
  have eo' : own p { C with B := setB C.B n fun _ => b' } = (p :: C.d1 :: C.d2 :: ownBs l1) ++ ([b.a, b.l] ++ b'.w :: ownBs l2) := by
    unfold own; show p :: C.d1 :: C.d2 :: ownBs (setB C.B n fun _ => b') = _
    rw [eB, setB_app h1 h2]; unfold ownBs; simp [ownB, ea, el]
  have nd' : (own p { C with B := setB C.B n fun _ => b' }).Nodup := by
    rw [eo']
    rcases ew with ew | ew
    · rw [ew, ← eo]; exact nd
    · have f := hC.fresh ew
      rw [eo] at nd f
      obtain ⟨n1, n23, n6⟩ := List.nodup_append.mp nd
      obtain ⟨n2, n34, n5⟩ := List.nodup_append.mp n23
      obtain ⟨n3, n4⟩ := List.nodup_cons.mp n34
      simp only [List.mem_append, List.mem_cons, List.not_mem_nil, or_false, not_or] at f
      refine List.nodup_append.mpr ⟨n1, List.nodup_append.mpr ⟨n2, List.nodup_cons.mpr ⟨f.2.2.2, n4⟩, ?_⟩, ?_⟩
      · intro x hx y hy
        rcases List.mem_cons.mp hy with rfl | hy
        · simp only [List.mem_cons, List.not_mem_nil, or_false] at hx
          rcases hx with rfl | rfl
          · exact fun z => f.2.1.1 z.symm
          · exact fun z => f.2.1.2 z.symm
        · exact n5 x hx y (List.mem_cons_of_mem _ hy)
      · intro x hx y hy
        rcases List.mem_append.mp hy with hy | hy
        · exact n6 x hx y (List.mem_append_left _ hy)
        · rcases List.mem_cons.mp hy with rfl | hy
          · intro z
            simp only [List.mem_cons] at hx
            rcases hx with rfl | rfl | rfl | hx
            · exact f.1.1 z.symm
            · exact f.1.2.1 z.symm
            · exact f.1.2.2.1 z.symm
            · exact f.1.2.2.2 (z ▸ hx)
          · exact n6 x hx y (List.mem_append_right _ (List.mem_cons_of_mem _ hy))
  have dis : ∀ e ∈ C.B, e.1 ≠ n → ∀ c ∈ ownB e.2, c ∉ ownB b := by
    intro e he en c hc hcb
    have nd2 := nd
    rw [eo] at nd2
    rw [eB] at he
    obtain ⟨n1, n23, n6⟩ := List.nodup_append.mp nd2
    obtain ⟨n2, n34, n5⟩ := List.nodup_append.mp n23
    obtain ⟨n3, n4⟩ := List.nodup_cons.mp n34
    simp only [ownB, List.mem_cons, List.not_mem_nil, or_false] at hcb
    rcases List.mem_append.mp he with he | he
    · have m : c ∈ ownBs l1 := ownBs_mem.mpr ⟨e, he, by simpa [ownB] using hc⟩
      refine n6 c (by simp [m]) c ?_ rfl
      simp only [List.mem_append, List.mem_cons, List.not_mem_nil, or_false]
      rcases hcb with h | h | h
      · exact .inl (.inl h)
      · exact .inl (.inr h)
      · exact .inr (.inl h)
    · rcases List.mem_cons.mp he with he | he
      · exact en (congrArg Prod.fst he)
      · have m : c ∈ ownBs l2 := ownBs_mem.mpr ⟨e, he, by simpa [ownB] using hc⟩
        rcases hcb with h | h | h
        · exact n5 c (by simp [h]) c (by simp [m]) rfl
        · exact n5 c (by simp [h]) c (by simp [m]) rfl
        · exact n3 (h ▸ m)
  refine ⟨fr _ _ hC.ob fun m => (nin _ m).1 rfl, ?_, fr _ _ hC.d2 fun m => (nin _ m).2.2 rfl, ?_, nd', by rw [show ({ C with B := setB C.B n fun _ => b' } : LCh).B = setB C.B n fun _ => b' from rfl, setB_keys]; exact hC.kB, ?_, hC.kR, hC.lR, by rw [show ({ C with B := setB C.B n fun _ => b' } : LCh).B = setB C.B n fun _ => b' from rfl, setB_len]; exact hC.sB, hC.sR, hC.nn⟩
  · show H' C.d1 = some (.dK (kvB (setB C.B n fun _ => b')))
    rw [kvB_set hC.kB hb ea]
    exact fr _ _ hC.d1 fun m => (nin _ m).2.1 rfl
  · intro e he
    have he : e ∈ setB C.B n fun _ => b' := he
    obtain ⟨x, hx2, ⟨q1, q2⟩ | ⟨q1, q2⟩⟩ := setB_mem he
    · rw [q2]; exact hx
    · rw [q2]
      exact (hC.bx _ hx2).keep fun c o hc e => fr c o e (dis _ hx2 q1 c hc)
  · intro e he
    have he : e ∈ setB C.B n fun _ => b' := he
    obtain ⟨x, hx2, _⟩ := setB_mem he
    exact hC.lB (e.1, x) hx2

theorem Gr.same {O O' : List Addr} {H : Hp} (e : O' = O) : Gr O O' H := fun b hb => .inl (e ▸ hb)
theorem own_setB {cC cB : Addr} {H : Hp} {p : Addr} {C : LCh} {n : Int} {b b' : LBx} (hC : CAt cC cB H p C) (e : C.B.lookup n = some b) (ea : b'.a = b.a) (el : b'.l = b.l) (ew : b'.w = b.w) : own p { C with B := setB C.B n fun _ => b' } = own p C := by
  obtain ⟨l1, l2, eB, h1, h2⟩ := lk_split hC.kB e
  show p :: C.d1 :: C.d2 :: ownBs (setB C.B n fun _ => b') = p :: C.d1 :: C.d2 :: ownBs C.B
  rw [eB, setB_app h1 h2]
  unfold ownBs
  simp [ownB, ea, el, ew]
theorem own_setW {cC cB : Addr} {H : Hp} {p w : Addr} {C : LCh} {n : Int} {b : LBx} {ds : List V} (hC : CAt cC cB H p C) (e : C.B.lookup n = some b) {c : Addr} (h : c ∈ own p { C with B := setB C.B n fun _ => { b with w := w, ds := ds } }) : c ∈ own p C ∨ c = w := by
  rcases own_mem.mp h with h | h | h | h
  · exact .inl (own_mem.mpr (.inl h))
  · exact .inl (own_mem.mpr (.inr (.inl h)))
  · exact .inl (own_mem.mpr (.inr (.inr (.inl h))))
  · obtain ⟨x, hx, hc⟩ := ownBs_mem.mp h
    have hx : x ∈ setB C.B n fun _ => { b with w := w, ds := ds } := hx
    obtain ⟨y, hy, ⟨q1, q2⟩ | ⟨q1, q2⟩⟩ := setB_mem hx
    · rw [q2] at hc
      rcases hc with hc | hc | hc
      · exact .inl (own_mem.mpr (.inr (.inr (.inr (ownBs_mem.mpr ⟨_, lk_mem e, .inl hc⟩)))))
      · exact .inl (own_mem.mpr (.inr (.inr (.inr (ownBs_mem.mpr ⟨_, lk_mem e, .inr (.inl hc)⟩)))))
      · exact .inr hc
    · rw [q2] at hc
      exact .inl (own_mem.mpr (.inr (.inr (.inr (ownBs_mem.mpr ⟨_, hy, hc⟩)))))
end LW
/-! # What a deed does, said of a chest as such -/
namespace LW
open PySem PySem.Spec PyProof.Rows L2

def Deed.isNeg : Deed → Bool
  | .up => false
  | .down o => decide (o < 0)
  | .hang o s _ => decide (o < 0) || decide (s < 0)
inductive LD where
  | make (n : Int)
  | put (b s o : Int) (h : Bool)
  | empty (b s : Int)
  | take (b : Int)
  | drop (b : Int)
  | pair (h k o : Int)
  | unpair (n : Int)
  | will (b : Int) (ds : List Deed)
def Ch.get (S : Ch) (n : Int) : Option Bx := S.bs.lookup n
def Ch.box (S : Ch) (n : Int) (x : Bx) : Ch := { S with bs := setB S.bs n fun _ => x }
def Ch.made (S : Ch) (n : Int) : Ch := { S with nb := S.nb + 1, bs := S.bs ++ [(S.nb, ⟨List.replicate n.toNat none, true, []⟩)] }
def Ch.tied (S : Ch) (h k o : Int) : Ch := { S with np := S.np + 1, ps := S.ps ++ [(S.np, (h, k, o))] }
def Ch.loose (S : Ch) (n : Int) : Ch := { S with ps := S.ps.filter fun e => decide (e.1 ≠ n) }
/-- the word of a refusal, the number that is given, the chest behind -/
def Ch.step (S : Ch) : LD → Str × Option Int × Ch
  | .make n => if n < 0 ∨ 9 < n then ("slot", none, S) else if S.bs.length = 60 then ("many", none, S) else ("", some S.nb, S.made n)
  | .put b s o h => match S.get b with
    | none => ("box", none, S)
    | some x => if s < 0 ∨ (x.sl.length : Int) ≤ s then ("slot", none, S) else match S.get o with
      | none => ("box", none, S)
      | some _ => ("", none, S.box b { x with sl := x.sl.set s.toNat (some (o, h)) })
  | .empty b s => match S.get b with
    | none => ("box", none, S)
    | some x => if s < 0 ∨ (x.sl.length : Int) ≤ s then ("slot", none, S) else ("", none, S.box b { x with sl := x.sl.set s.toNat none })
  | .take b => match S.get b with
    | none => ("box", none, S)
    | some x => ("", none, S.box b { x with hand := true })
  | .drop b => match S.get b with
    | none => ("box", none, S)
    | some x => if x.hand = false then ("hand", none, S) else ("", none, S.box b { x with hand := false })
  | .pair h k o => if S.get h = none ∨ S.get k = none ∨ S.get o = none then ("box", none, S) else if S.ps.length = 60 then ("many", none, S) else ("", some S.np, S.tied h k o)
  | .unpair n => match S.ps.lookup n with
    | none => ("pair", none, S)
    | some _ => ("", none, S.loose n)
  | .will b ds => match S.get b with
    | none => ("box", none, S)
    | some x => if 9 < ds.length ∨ ds.any Deed.isNeg = true then ("will", none, S) else ("", none, S.box b { x with will := ds })

section
variable {S : Ch} {n b s o h k : Int} {g : Bool} {ds : List Deed}
theorem st_make : S.step (.make n) = if n < 0 ∨ 9 < n then (("slot" : Str), none, S) else if S.bs.length = 60 then (("many" : Str), none, S) else (("" : Str), some S.nb, S.made n) := rfl
theorem st_put0 (e : S.get b = none) : S.step (.put b s o g) = (("box" : Str), none, S) := by simp only [Ch.step, e]
theorem st_put1 {x : Bx} (e : S.get b = some x) (c : s < 0 ∨ (x.sl.length : Int) ≤ s) : S.step (.put b s o g) = (("slot" : Str), none, S) := by simp only [Ch.step, e]; exact if_pos c
theorem st_put2 {x : Bx} (e : S.get b = some x) (c : ¬ (s < 0 ∨ (x.sl.length : Int) ≤ s)) (eo : S.get o = none) : S.step (.put b s o g) = (("box" : Str), none, S) := by
  simp only [Ch.step, e]; rw [if_neg c]; simp only [eo]
theorem st_put3 {x y : Bx} (e : S.get b = some x) (c : ¬ (s < 0 ∨ (x.sl.length : Int) ≤ s)) (eo : S.get o = some y) : S.step (.put b s o g) = (("" : Str), none, S.box b { x with sl := x.sl.set s.toNat (some (o, g)) }) := by
  simp only [Ch.step, e]; rw [if_neg c]; simp only [eo]
theorem st_empty0 (e : S.get b = none) : S.step (.empty b s) = (("box" : Str), none, S) := by simp only [Ch.step, e]
theorem st_empty1 {x : Bx} (e : S.get b = some x) (c : s < 0 ∨ (x.sl.length : Int) ≤ s) : S.step (.empty b s) = (("slot" : Str), none, S) := by simp only [Ch.step, e]; exact if_pos c
theorem st_empty2 {x : Bx} (e : S.get b = some x) (c : ¬ (s < 0 ∨ (x.sl.length : Int) ≤ s)) : S.step (.empty b s) = (("" : Str), none, S.box b { x with sl := x.sl.set s.toNat none }) := by
  simp only [Ch.step, e]; exact if_neg c
theorem st_take0 (e : S.get b = none) : S.step (.take b) = (("box" : Str), none, S) := by simp only [Ch.step, e]
theorem st_take1 {x : Bx} (e : S.get b = some x) : S.step (.take b) = (("" : Str), none, S.box b { x with hand := true }) := by simp only [Ch.step, e]
theorem st_drop0 (e : S.get b = none) : S.step (.drop b) = (("box" : Str), none, S) := by simp only [Ch.step, e]
theorem st_drop1 {x : Bx} (e : S.get b = some x) (c : x.hand = false) : S.step (.drop b) = (("hand" : Str), none, S) := by simp only [Ch.step, e]; exact if_pos c
theorem st_drop2 {x : Bx} (e : S.get b = some x) (c : ¬ x.hand = false) : S.step (.drop b) = (("" : Str), none, S.box b { x with hand := false }) := by simp only [Ch.step, e]; exact if_neg c
theorem st_pair : S.step (.pair h k o) = if S.get h = none ∨ S.get k = none ∨ S.get o = none then (("box" : Str), none, S) else if S.ps.length = 60 then (("many" : Str), none, S) else (("" : Str), some S.np, S.tied h k o) := rfl
theorem st_unpair0 (e : S.ps.lookup n = none) : S.step (.unpair n) = (("pair" : Str), none, S) := by simp only [Ch.step, e]
theorem st_unpair1 {x : Int × Int × Int} (e : S.ps.lookup n = some x) : S.step (.unpair n) = (("" : Str), none, S.loose n) := by simp only [Ch.step, e]
theorem st_will0 (e : S.get b = none) : S.step (.will b ds) = (("box" : Str), none, S) := by simp only [Ch.step, e]
theorem st_will1 {x : Bx} (e : S.get b = some x) (c : 9 < ds.length ∨ ds.any Deed.isNeg = true) : S.step (.will b ds) = (("will" : Str), none, S) := by simp only [Ch.step, e]; exact if_pos c
theorem st_will2 {x : Bx} (e : S.get b = some x) (c : ¬ (9 < ds.length ∨ ds.any Deed.isNeg = true)) : S.step (.will b ds) = (("" : Str), none, S.box b { x with will := ds }) := by simp only [Ch.step, e]; exact if_neg c
end
section
variable {H H' : Hp} {C : LCh} {S : Ch} {n : Int}
theorem paired_lk {α β : Type} {G : α → β → Prop} : ∀ {l : List (Int × α)} {m : List (Int × β)}, Paired (fun e f => e.1 = f.1 ∧ G e.2 f.2) l m →
    (l.lookup n = none ↔ m.lookup n = none) ∧ (∀ x, l.lookup n = some x → ∃ y, m.lookup n = some y ∧ G x y)
  | _, _, .nil => ⟨by simp, fun x h => by simp at h⟩
  | (k, x) :: l, (k', y) :: m, .cons h r => by
    obtain ⟨e, g⟩ := h
    have e : k = k' := e
    subst e
    by_cases q : n = k
    · subst q
      rw [lk_pos, lk_pos]
      exact ⟨by simp, fun z hz => ⟨y, rfl, by cases hz; exact g⟩⟩
    · rw [lk_neg (by simpa using q), lk_neg (by simpa using q)]
      exact paired_lk r
theorem CS.nn (h : CS H C S) : C.B.lookup n = none ↔ S.get n = none := (paired_lk h.bs).1
theorem CS.ss (h : CS H C S) {b : LBx} (e : C.B.lookup n = some b) : ∃ x, S.get n = some x ∧ BxS H b x := (paired_lk h.bs).2 b e
theorem CS.pnone (h : CS H C S) : C.R.lookup n = none ↔ S.ps.lookup n = none := (paired_lk h.ps).1
theorem CS.blen (h : CS H C S) : C.B.length = S.bs.length := h.bs.length
theorem CS.plen (h : CS H C S) : C.R.length = S.ps.length := h.ps.length
theorem paired_set {α β : Type} {G G' : α → β → Prop} {x : α} {y : β} (hg : ∀ a b, G a b → G' a b) (hx : G' x y) : ∀ {l : List (Int × α)} {m : List (Int × β)}, Paired (fun e f => e.1 = f.1 ∧ G e.2 f.2) l m →
    Paired (fun e f => e.1 = f.1 ∧ G' e.2 f.2) (setB l n fun _ => x) (setB m n fun _ => y)
  | _, _, .nil => .nil
  | (k, u) :: l, (k', v) :: m, .cons h r => by
    obtain ⟨e, g⟩ := h
    have e : k = k' := e
    subst e
    show Paired _ ((if k = n then (k, x) else (k, u)) :: setB l n fun _ => x) ((if k = n then (k, y) else (k, v)) :: setB m n fun _ => y)
    by_cases q : k = n
    · rw [if_pos q, if_pos q]; exact .cons ⟨rfl, hx⟩ (paired_set hg hx r)
    · rw [if_neg q, if_neg q]; exact .cons ⟨rfl, hg _ _ g⟩ (paired_set hg hx r)
theorem paired_filter {α β : Type} {G : α → β → Prop} : ∀ {l : List (Int × α)} {m : List (Int × β)}, Paired (fun e f => e.1 = f.1 ∧ G e.2 f.2) l m →
    Paired (fun e f => e.1 = f.1 ∧ G e.2 f.2) (l.filter fun e => decide (e.1 ≠ n)) (m.filter fun e => decide (e.1 ≠ n))
  | _, _, .nil => .nil
  | (k, u) :: l, (k', v) :: m, .cons h r => by
    obtain ⟨e, g⟩ := h
    have e : k = k' := e
    subst e
    by_cases q : k = n
    · rw [List.filter_cons, List.filter_cons, if_neg (by simp [q]), if_neg (by simp [q])]; exact paired_filter r
    · rw [List.filter_cons, List.filter_cons, if_pos (by simp [q]), if_pos (by simp [q])]; exact .cons ⟨rfl, g⟩ (paired_filter r)
theorem CS.bset (f : Tups H H') (h : CS H C S) {b : LBx} {x : Bx} (hb : BxS H' b x) : CS H' { C with B := setB C.B n fun _ => b } (S.box n x) :=
  ⟨h.nb, h.np, paired_set (fun _ _ g => g.keep f) hb h.bs, L2.Paired.mapP h.ps fun _ _ k => ⟨k.1, f _ _ k.2⟩⟩
theorem slots_nil (k : Nat) : Paired (SlotV H) (List.replicate k V.non) (List.replicate k Option.none) := by
  induction k with
  | zero => exact .nil
  | succ k ih => exact .cons .non ih
theorem CS.made (f : Tups H H') (h : CS H C S) {b : LBx} (hv : b.vs = List.replicate n.toNat .non) (hh : b.hand = true) (hd : b.ds = []) : CS H' { C with nb := C.nb + 1, B := C.B ++ [(C.nb, b)] } (S.made n) := by
  have h2 := h.keep f
  refine ⟨?_, h.np, ?_, h2.ps⟩
  · show C.nb + 1 = S.nb + 1; rw [h.nb]
  · refine Paired.snoc h2.bs ⟨h.nb, ?_, hh, ?_⟩
    · rw [hv]; exact slots_nil _
    · rw [hd]; exact .nil
theorem CS.tied (f : Tups H H') (h : CS H C S) {t : Addr} {p k o : Int} (ht : H' t = some (.tup [.int p, .int k, .int o])) : CS H' { C with np := C.np + 1, R := C.R ++ [(C.np, t)] } (S.tied p k o) := by
  have h2 := h.keep f
  refine ⟨h.nb, ?_, h2.bs, ?_⟩
  · show C.np + 1 = S.np + 1; rw [h.np]
  · exact Paired.snoc h2.ps ⟨h.np, ht⟩
theorem CS.loose (f : Tups H H') (h : CS H C S) : CS H' { C with R := C.R.filter fun e => decide (e.1 ≠ n) } (S.loose n) := by
  have h2 := h.keep f
  exact ⟨h.nb, h.np, h2.bs, paired_filter h2.ps⟩
theorem slots_set {vs : List V} {sl : List (Option (Int × Bool))} {v : V} {s : Option (Int × Bool)} (h : Paired (SlotV H) vs sl) (hv : SlotV H v s) : ∀ (i : Nat), Paired (SlotV H) (vs.set i v) (sl.set i s) := by
  induction h with
  | nil => intro i; exact .nil
  | cons f r ih =>
    intro i
    cases i with
    | zero => exact .cons hv r
    | succ i => exact .cons f (ih i)
end

/-! ### a chest, as such -/
def ChestAt (cC cB : Addr) (H : Hp) (p : Addr) (S : Ch) (O : List Addr) : Prop := ∃ C, CAt cC cB H p C ∧ CS H C S ∧ O = own p C
theorem ChestAt.dom {cC cB : Addr} {H : Hp} {p : Addr} {S : Ch} {O : List Addr} (h : ChestAt cC cB H p S O) {b : Addr} (m : b ∈ O) : ∃ o, H b = some o ∧ ∀ xs, o ≠ .tup xs := by
  obtain ⟨C, hC, hS, rfl⟩ := h
  exact hC.dom m
theorem ChestAt.keep {cC cB : Addr} {H H' : Hp} {p : Addr} {S : Ch} {O O2 : List Addr} (h : ChestAt cC cB H p S O) (f : Fr O2 H H') (t : Tups H H') (d : ∀ b, b ∈ O → b ∉ O2) : ChestAt cC cB H' p S O := by
  obtain ⟨C, hC, hS, rfl⟩ := h
  exact ⟨C, hC.keep fun c o hc e => f c o e (d c hc), hS.keep t, rfl⟩
theorem ChestAt.same {cC cB : Addr} {H H' : Hp} {p : Addr} {S : Ch} {O : List Addr} (h : ChestAt cC cB H p S O) (f : Same H H') : ChestAt cC cB H' p S O :=
  h.keep (O2 := []) (fun b o e _ => f b o e) (fun t xs e => f t _ e) (fun b _ m => nomatch m)
/-- a deed as the law tells it -/
def LDAt (H : Hp) (t : Addr) : LD → Prop
  | .make n => H t = some (.tup [.str "make", .int n])
  | .put b s o h => H t = some (.tup [.str "put", .int b, .int s, .int o, .bl h])
  | .empty b s => H t = some (.tup [.str "empty", .int b, .int s])
  | .take b => H t = some (.tup [.str "take", .int b])
  | .drop b => H t = some (.tup [.str "drop", .int b])
  | .pair h k o => H t = some (.tup [.str "pair", .int h, .int k, .int o])
  | .unpair n => H t = some (.tup [.str "unpair", .int n])
  | .will b ds => ∃ l us, H t = some (.tup [.str "bequeath", .int b, .ref l]) ∧ H l = some (.lst us) ∧ us.length ≤ 1000 ∧ Paired (DeedV H) us ds
theorem LDAt.same {H H' : Hp} {t : Addr} (f : Same H H') {d : LD} (h : LDAt H t d) : LDAt H' t d := by
  cases d with
  | will b ds =>
    obtain ⟨l, us, e1, e2, e3, e4⟩ := h
    exact ⟨l, us, f _ _ e1, f _ _ e2, e3, L2.Paired.mapP e4 fun _ _ g => g.keep fun t xs e => f _ _ e⟩
  | make => exact f _ _ h
  | put => exact f _ _ h
  | empty => exact f _ _ h
  | take => exact f _ _ h
  | drop => exact f _ _ h
  | pair => exact f _ _ h
  | unpair => exact f _ _ h
def retV (r : Option Int) : V := match r with | none => .non | some i => .int i
end LW
/-! # How the law's own reckoning stands in the heap: a list of four dicts and a list of two numbers -/
namespace LW
open PySem PySem.Spec PyProof.Rows L2

theorem nodup_len : ∀ {xs ys : List Int}, xs.Nodup → (∀ x ∈ xs, x ∈ ys) → xs.length ≤ ys.length
  | [], ys, _, _ => Nat.zero_le _
  | x :: xs, ys, nd, h => by
    obtain ⟨h1, h2⟩ := List.nodup_cons.mp nd
    have hx := h x List.mem_cons_self
    have := nodup_len (ys := ys.erase x) h2 fun y hy => by
      have hne : y ≠ x := fun e => h1 (e ▸ hy)
      exact (List.mem_erase_of_ne hne).mpr (h y (List.mem_cons_of_mem _ hy))
    rw [List.length_erase_of_mem hx] at this
    have : 0 < ys.length := List.length_pos_of_mem hx
    show xs.length + 1 ≤ ys.length
    omega
/-- a number's place: an address and what stands there -/
abbrev AL := List (Int × Addr × List V)
def kvA (A : AL) : List (Key × V) := A.map fun e => ((Sum.inl e.1 : Key), V.ref e.2.1)
def kvH (h : List Int) : List (Key × V) := h.map fun n => ((Sum.inl n : Key), V.bl true)
structure LWd where
  d0 : Addr
  d1 : Addr
  d2 : Addr
  d3 : Addr
  l4 : Addr
  nb : Int
  np : Int
  A : AL
  h : List Int
  R : List (Int × Addr)
  W : AL
  tl : List V
  o4 : List V
def ownW (q : Addr) (L : LWd) : List Addr := [q, L.d0, L.d1, L.d2, L.d3, L.l4] ++ (L.A.map (·.2.1) ++ L.W.map (·.2.1))
structure WdAt (H : Hp) (q : Addr) (L : LWd) : Prop where
  ob : H q = some (.lst (.ref L.d0 :: .ref L.d1 :: .ref L.d2 :: .ref L.d3 :: L.tl))
  e0 : H L.d0 = some (.dK (kvA L.A))
  e1 : H L.d1 = some (.dK (kvH L.h))
  e2 : H L.d2 = some (.dK (kvR L.R))
  e3 : H L.d3 = some (.dK (kvA L.W))
  e4 : H L.l4 = some (.lst L.o4)
  sA : ∀ e ∈ L.A, H e.2.1 = some (.lst e.2.2)
  sW : ∀ e ∈ L.W, H e.2.1 = some (.lst e.2.2)
  nd : (ownW q L).Nodup
  kA : (L.A.map (·.1)).Pairwise (· < ·)
  kh : L.h.Nodup
  kR : (L.R.map (·.1)).Pairwise (· < ·)
  kW : (L.W.map (·.1)).Nodup
  lA : ∀ e ∈ L.A, 0 ≤ e.1 ∧ e.1 < L.nb
  lR : ∀ e ∈ L.R, 0 ≤ e.1 ∧ e.1 < L.np
  hA : ∀ n ∈ L.h, n ∈ L.A.map (·.1)
  WA : ∀ e ∈ L.W, e.1 ∈ L.A.map (·.1)
  zA : L.A.length ≤ 60 ∧ ∀ e ∈ L.A, e.2.2.length ≤ 9
  zR : L.R.length ≤ 60
  zW : ∀ e ∈ L.W, e.2.2.length ≤ 9
  nn : 0 ≤ L.nb ∧ 0 ≤ L.np
structure WSem (H : Hp) (L : LWd) (S : Ch) : Prop where
  nb : L.nb = S.nb
  np : L.np = S.np
  bs : Paired (fun e f => e.1 = f.1 ∧ Paired (SlotV H) e.2.2 f.2.sl) L.A S.bs
  ps : Paired (fun e f => e.1 = f.1 ∧ PairV H e.2 f.2) L.R S.ps
  hs : ∀ n, n ∈ L.h ↔ ∃ x, S.get n = some x ∧ x.hand = true
  w0 : ∀ n x, L.W.lookup n = none → S.get n = some x → x.will = []
  w1 : ∀ n l, L.W.lookup n = some l → ∃ x, S.get n = some x ∧ x.will ≠ [] ∧ Paired (DeedV H) l.2 x.will
def WorldAt (H : Hp) (q : Addr) (S : Ch) (O : List Addr) : Prop := ∃ L, WdAt H q L ∧ WSem H L S ∧ O = ownW q L
/-- with the numbers that come next; the first of them is right -/
def Five (L : LWd) : Prop := L.tl = [.ref L.l4] ∧ ∃ x, L.o4 = [.int L.nb, x]
def World5 (H : Hp) (q : Addr) (S : Ch) (O : List Addr) : Prop := ∃ L, WdAt H q L ∧ WSem H L S ∧ O = ownW q L ∧ Five L
theorem World5.world {H : Hp} {q : Addr} {S : Ch} {O : List Addr} (h : World5 H q S O) : WorldAt H q S O := h.elim fun L z => ⟨L, z.1, z.2.1, z.2.2.1⟩
/-- both are right -/
def True5 (L : LWd) : Prop := L.tl = [.ref L.l4] ∧ L.o4 = [.int L.nb, .int L.np]
def WorldT (H : Hp) (q : Addr) (S : Ch) (O : List Addr) : Prop := ∃ L, WdAt H q L ∧ WSem H L S ∧ O = ownW q L ∧ True5 L
theorem WorldT.five {H : Hp} {q : Addr} {S : Ch} {O : List Addr} (h : WorldT H q S O) : World5 H q S O := h.elim fun L z => ⟨L, z.1, z.2.1, z.2.2.1, z.2.2.2.1, _, z.2.2.2.2⟩
theorem WorldT.world {H : Hp} {q : Addr} {S : Ch} {O : List Addr} (h : WorldT H q S O) : WorldAt H q S O := h.five.world

section
variable {H H' : Hp} {q : Addr} {L : LWd} {S : Ch} {n : Int}
theorem ownW_mem {b : Addr} : b ∈ ownW q L ↔ b = q ∨ b = L.d0 ∨ b = L.d1 ∨ b = L.d2 ∨ b = L.d3 ∨ b = L.l4 ∨ (∃ e ∈ L.A, b = e.2.1) ∨ ∃ e ∈ L.W, b = e.2.1 := by
  unfold ownW
  simp only [List.mem_append, List.mem_cons, List.not_mem_nil, or_false, List.mem_map]
  constructor
  · rintro ((h | h | h | h | h | h) | ⟨e, he, rfl⟩ | ⟨e, he, rfl⟩)
    · exact .inl h
    · exact .inr (.inl h)
    · exact .inr (.inr (.inl h))
    · exact .inr (.inr (.inr (.inl h)))
    · exact .inr (.inr (.inr (.inr (.inl h))))
    · exact .inr (.inr (.inr (.inr (.inr (.inl h)))))
    · exact .inr (.inr (.inr (.inr (.inr (.inr (.inl ⟨e, he, rfl⟩))))))
    · exact .inr (.inr (.inr (.inr (.inr (.inr (.inr ⟨e, he, rfl⟩))))))
  · rintro (h | h | h | h | h | h | ⟨e, he, rfl⟩ | ⟨e, he, rfl⟩)
    · exact .inl (.inl h)
    · exact .inl (.inr (.inl h))
    · exact .inl (.inr (.inr (.inl h)))
    · exact .inl (.inr (.inr (.inr (.inl h))))
    · exact .inl (.inr (.inr (.inr (.inr (.inl h)))))
    · exact .inl (.inr (.inr (.inr (.inr (.inr h)))))
    · exact .inr (.inl ⟨e, he, rfl⟩)
    · exact .inr (.inr ⟨e, he, rfl⟩)
theorem WdAt.dom (A : WdAt H q L) {b : Addr} (h : b ∈ ownW q L) : ∃ o, H b = some o ∧ ∀ xs, o ≠ .tup xs := by
  rcases ownW_mem.mp h with rfl | rfl | rfl | rfl | rfl | rfl | ⟨e, he, rfl⟩ | ⟨e, he, rfl⟩
  · exact ⟨_, A.ob, fun _ z => nomatch z⟩
  · exact ⟨_, A.e0, fun _ z => nomatch z⟩
  · exact ⟨_, A.e1, fun _ z => nomatch z⟩
  · exact ⟨_, A.e2, fun _ z => nomatch z⟩
  · exact ⟨_, A.e3, fun _ z => nomatch z⟩
  · exact ⟨_, A.e4, fun _ z => nomatch z⟩
  · exact ⟨_, A.sA e he, fun _ z => nomatch z⟩
  · exact ⟨_, A.sW e he, fun _ z => nomatch z⟩
theorem WdAt.fresh (A : WdAt H q L) {c : Addr} (h : H c = none) : c ∉ ownW q L := fun m => by
  obtain ⟨o, e, _⟩ := A.dom m
  rw [h] at e; cases e
theorem WdAt.tups (A : WdAt H q L) (f : Fr (ownW q L) H H') : Tups H H' := fun t xs e => f t _ e fun m => by
  obtain ⟨o, h, n⟩ := A.dom m
  rw [e] at h
  exact n xs (Option.some.inj h).symm
theorem WdAt.keep (f : ∀ c o, c ∈ ownW q L → H c = some o → H' c = some o) (A : WdAt H q L) : WdAt H' q L :=
  ⟨f _ _ (ownW_mem.mpr (.inl rfl)) A.ob, f _ _ (ownW_mem.mpr (.inr (.inl rfl))) A.e0, f _ _ (ownW_mem.mpr (.inr (.inr (.inl rfl)))) A.e1, f _ _ (ownW_mem.mpr (.inr (.inr (.inr (.inl rfl))))) A.e2,
    f _ _ (ownW_mem.mpr (.inr (.inr (.inr (.inr (.inl rfl)))))) A.e3, f _ _ (ownW_mem.mpr (.inr (.inr (.inr (.inr (.inr (.inl rfl))))))) A.e4,
    fun e he => f _ _ (ownW_mem.mpr (.inr (.inr (.inr (.inr (.inr (.inr (.inl ⟨e, he, rfl⟩)))))))) (A.sA e he), fun e he => f _ _ (ownW_mem.mpr (.inr (.inr (.inr (.inr (.inr (.inr (.inr ⟨e, he, rfl⟩)))))))) (A.sW e he),
    A.nd, A.kA, A.kh, A.kR, A.kW, A.lA, A.lR, A.hA, A.WA, A.zA, A.zR, A.zW, A.nn⟩
theorem WdAt.same (A : WdAt H q L) (f : Same H H') : WdAt H' q L := A.keep fun c o _ => f c o
theorem WSem.keep (f : Tups H H') (h : WSem H L S) : WSem H' L S :=
  ⟨h.nb, h.np, L2.Paired.mapP h.bs fun _ _ k => ⟨k.1, L2.Paired.mapP k.2 fun _ _ => SlotV.keep f⟩, L2.Paired.mapP h.ps fun _ _ k => ⟨k.1, f _ _ k.2⟩, h.hs, h.w0, fun n l e => by
    obtain ⟨x, e1, e2, e3⟩ := h.w1 n l e
    exact ⟨x, e1, e2, L2.Paired.mapP e3 fun _ _ => DeedV.keep f⟩⟩
theorem WorldAt.keep {O O2 : List Addr} (h : WorldAt H q S O) (f : Fr O2 H H') (t : Tups H H') (d : ∀ b, b ∈ O → b ∉ O2) : WorldAt H' q S O := by
  obtain ⟨L, hL, hS, rfl⟩ := h
  exact ⟨L, hL.keep fun c o hc e => f c o e (d c hc), hS.keep t, rfl⟩
theorem WorldAt.dom {O : List Addr} (h : WorldAt H q S O) {b : Addr} (m : b ∈ O) : ∃ o, H b = some o ∧ ∀ xs, o ≠ .tup xs := by
  obtain ⟨L, hL, hS, rfl⟩ := h
  exact hL.dom m
theorem WorldAt.same {O : List Addr} (h : WorldAt H q S O) (f : Same H H') : WorldAt H' q S O :=
  h.keep (O2 := []) (fun b o e _ => f b o e) (fun t xs e => f t _ e) (fun b _ m => nomatch m)
/-- what differs -/
structure WdNe (q : Addr) (L : LWd) : Prop where
  q0 : q ≠ L.d0
  q1 : q ≠ L.d1
  q2 : q ≠ L.d2
  q3 : q ≠ L.d3
  q4 : q ≠ L.l4
  n01 : L.d0 ≠ L.d1
  n02 : L.d0 ≠ L.d2
  n03 : L.d0 ≠ L.d3
  n04 : L.d0 ≠ L.l4
  n12 : L.d1 ≠ L.d2
  n13 : L.d1 ≠ L.d3
  n14 : L.d1 ≠ L.l4
  n23 : L.d2 ≠ L.d3
  n24 : L.d2 ≠ L.l4
  n34 : L.d3 ≠ L.l4
  a : ∀ c, c ∈ L.A.map (·.2.1) ++ L.W.map (·.2.1) → q ≠ c ∧ L.d0 ≠ c ∧ L.d1 ≠ c ∧ L.d2 ≠ c ∧ L.d3 ≠ c ∧ L.l4 ≠ c
  nd : (L.A.map (·.2.1) ++ L.W.map (·.2.1)).Nodup
theorem WdAt.ne (A : WdAt H q L) : WdNe q L := by
  have nd := A.nd
  unfold ownW at nd
  obtain ⟨n1, n2, n3⟩ := List.nodup_append.mp nd
  simp only [List.nodup_cons, List.mem_cons, List.not_mem_nil, or_false, not_or] at n1
  obtain ⟨⟨a1, a2, a3, a4, a5⟩, ⟨b1, b2, b3, b4⟩, ⟨c1, c2, c3⟩, ⟨e1, e2⟩, f1, _⟩ := n1
  exact ⟨a1, a2, a3, a4, a5, b1, b2, b3, b4, c1, c2, c3, e1, e2, f1, fun c hc => ⟨n3 _ (by simp) c hc, n3 _ (by simp) c hc, n3 _ (by simp) c hc, n3 _ (by simp) c hc, n3 _ (by simp) c hc, n3 _ (by simp) c hc⟩, n2⟩
end

theorem WSem.lk {H : Hp} {L : LWd} {S : Ch} (h : WSem H L S) (n : Int) : (L.A.lookup n = none ↔ S.get n = none) ∧ ∀ x, L.A.lookup n = some x → ∃ y, S.get n = some y ∧ Paired (SlotV H) x.2 y.sl :=
  paired_lk (G := fun (x : Addr × List V) (y : Bx) => Paired (SlotV H) x.2 y.sl) h.bs
theorem WSem.plk {H : Hp} {L : LWd} {S : Ch} (h : WSem H L S) (n : Int) : (L.R.lookup n = none ↔ S.ps.lookup n = none) ∧ ∀ x, L.R.lookup n = some x → ∃ y, S.ps.lookup n = some y ∧ PairV H x y :=
  paired_lk h.ps
/-! ### the dicts' look-ups -/
theorem valV_kvA {n : Int} : ∀ (A : AL), valV (kvA A) (Sum.inl n : Key) = (A.lookup n).map fun b => V.ref b.1
  | [] => rfl
  | (k, b) :: r => by
    show valV (((Sum.inl k : Key), V.ref b.1) :: kvA r) (Sum.inl n : Key) = _
    by_cases e : n = k
    · subst e; rw [valV_pos rfl, lk_pos]; rfl
    · rw [valV_neg (fun z => e (Sum.inl.inj z).symm), valV_kvA r, lk_neg (by simpa using e)]
theorem kvA_some {n : Int} {A : AL} {b : Addr × List V} (h : A.lookup n = some b) : valV (kvA A) (Sum.inl n : Key) = some (V.ref b.1) := by rw [valV_kvA, h]; rfl
theorem kvA_none {n : Int} {A : AL} (h : A.lookup n = none) : valV (kvA A) (Sum.inl n : Key) = none := by rw [valV_kvA, h]; rfl
theorem kvA_keys (A : AL) : (kvA A).map (·.1) = (A.map (·.1)).map Sum.inl := by unfold kvA; simp [List.map_map]
theorem kvA_len (A : AL) : (kvA A).length = A.length := by unfold kvA; simp
theorem kvH_keys (h : List Int) : (kvH h).map (·.1) = h.map Sum.inl := by unfold kvH; simp [List.map_map]
theorem kvH_len (h : List Int) : (kvH h).length = h.length := by unfold kvH; simp
theorem kvH_in {n : Int} : ∀ {h : List Int}, n ∈ h → valV (kvH h) (Sum.inl n : Key) = some (V.bl true)
  | [], m => nomatch m
  | k :: r, m => by
    show valV (((Sum.inl k : Key), V.bl true) :: kvH r) (Sum.inl n : Key) = _
    by_cases e : n = k
    · subst e; rw [valV_pos rfl]
    · rw [valV_neg (fun z => e (Sum.inl.inj z).symm)]
      exact kvH_in ((List.mem_cons.mp m).resolve_left e)
theorem kvH_out {n : Int} : ∀ {h : List Int}, n ∉ h → valV (kvH h) (Sum.inl n : Key) = none
  | [], _ => rfl
  | k :: r, m => by
    show valV (((Sum.inl k : Key), V.bl true) :: kvH r) (Sum.inl n : Key) = _
    rw [valV_neg (fun z => m (List.mem_cons.mpr (.inl (Sum.inl.inj z).symm)))]
    exact kvH_out fun q => m (List.mem_cons_of_mem _ q)
theorem putK_old {κ : Type} [DecidableEq κ] {kvs : List (κ × V)} {k : κ} (v : V) (h : (valV kvs k).isSome = true) : putK kvs k v = kvs.map fun kv => if kv.1 = k then (kv.1, v) else kv := by
  unfold putK
  rw [valV_any, if_pos h]
theorem kvH_put {n : Int} {h : List Int} : putK (kvH h) (Sum.inl n : Key) (V.bl true) = kvH (if n ∈ h then h else h ++ [n]) := by
  by_cases m : n ∈ h
  · rw [if_pos m, putK_old _ (by rw [kvH_in m]; rfl)]
    unfold kvH
    rw [List.map_map]
    refine List.map_congr_left fun k _ => ?_
    show (if (Sum.inl k : Key) = Sum.inl n then ((Sum.inl k : Key), V.bl true) else ((Sum.inl k : Key), V.bl true)) = _
    split <;> rfl
  · rw [if_neg m, putK_new _ (kvH_out m)]
    unfold kvH; simp
theorem kvH_drop {n : Int} {h : List Int} : dropK (kvH h) (Sum.inl n : Key) = kvH (h.filter fun k => decide (k ≠ n)) := by
  unfold dropK kvH
  rw [List.filter_map]
  congr 1
  refine List.filter_congr fun e _ => ?_
  show decide ((Sum.inl e : Key) ≠ Sum.inl n) = decide (e ≠ n)
  by_cases q : e = n
  · simp [q]
  · simp [q]
theorem kvA_new {A : AL} {n : Int} {b : Addr} {vs : List V} (h : A.lookup n = none) : putK (kvA A) (Sum.inl n : Key) (V.ref b) = kvA (A ++ [(n, b, vs)]) := by
  rw [putK_new _ (kvA_none h)]
  unfold kvA; simp
theorem kvA_old {A : AL} {n : Int} {b : Addr} {vs : List V} (h : A.lookup n ≠ none) : putK (kvA A) (Sum.inl n : Key) (V.ref b) = kvA (setB A n fun _ => (b, vs)) := by
  rw [putK_old]
  · unfold kvA setB
    rw [List.map_map, List.map_map]
    refine List.map_congr_left fun e _ => ?_
    show (if (Sum.inl e.1 : Key) = Sum.inl n then ((Sum.inl e.1 : Key), V.ref b) else ((Sum.inl e.1 : Key), V.ref e.2.1)) = _
    show _ = ((Sum.inl (if e.1 = n then (e.1, b, vs) else e).1 : Key), V.ref (if e.1 = n then (e.1, b, vs) else e).2.1)
    by_cases q : e.1 = n
    · rw [if_pos q, if_pos (by rw [q])]
    · rw [if_neg q, if_neg (fun z => q (Sum.inl.inj z))]
  · cases e : A.lookup n with
    | none => exact absurd e h
    | some x => rw [kvA_some e]; rfl
theorem kvA_drop {A : AL} {n : Int} : dropK (kvA A) (Sum.inl n : Key) = kvA (A.filter fun e => decide (e.1 ≠ n)) := by
  unfold dropK kvA
  rw [List.filter_map]
  congr 1
  refine List.filter_congr fun e _ => ?_
  show decide ((Sum.inl e.1 : Key) ≠ Sum.inl n) = decide (e.1 ≠ n)
  by_cases q : e.1 = n
  · simp [q]
  · simp [q]

/-! ### one part changed -/
section
variable {H H' : Hp} {q : Addr} {L : LWd} {S : Ch} {n : Int}
theorem setA_addr {A : AL} {l : Addr × List V} {vs : List V} (pw : (A.map (·.1)).Pairwise (· < ·)) (e : A.lookup n = some l) : (setB A n fun _ => (l.1, vs)).map (·.2.1) = A.map (·.2.1) := by
  obtain ⟨l1, l2, eA, h1, h2⟩ := lk_split pw e
  rw [eA, setB_app h1 h2]; simp
theorem setA_kv {A : AL} {l : Addr × List V} {vs : List V} (pw : (A.map (·.1)).Pairwise (· < ·)) (e : A.lookup n = some l) : kvA (setB A n fun _ => (l.1, vs)) = kvA A := by
  obtain ⟨l1, l2, eA, h1, h2⟩ := lk_split pw e
  rw [eA, setB_app h1 h2]; unfold kvA; simp
theorem WdAt.inA (A : WdAt H q L) {e : Int × Addr × List V} (he : e ∈ L.A) : e.2.1 ∈ L.A.map (·.2.1) ++ L.W.map (·.2.1) := List.mem_append_left _ (List.mem_map.mpr ⟨e, he, rfl⟩)
theorem WdAt.inW (A : WdAt H q L) {e : Int × Addr × List V} (he : e ∈ L.W) : e.2.1 ∈ L.A.map (·.2.1) ++ L.W.map (·.2.1) := List.mem_append_right _ (List.mem_map.mpr ⟨e, he, rfl⟩)
theorem WdAt.slot (hW : WdAt H q L) {l : Addr × List V} (e : L.A.lookup n = some l) {vs : List V} (hv : vs.length ≤ 9) (h1 : H' l.1 = some (.lst vs)) (fr : ∀ c o, H c = some o → c ≠ l.1 → H' c = some o) :
    WdAt H' q { L with A := setB L.A n fun _ => (l.1, vs) } := by
  have N := hW.ne
  have m := hW.inA (lk_mem e)
  obtain ⟨m1, m2, m3, m4, m5, m6⟩ := N.a _ m
  have nd := N.nd
  obtain ⟨k4, k5, k6⟩ := List.nodup_append.mp nd
  have eA := setA_addr (vs := vs) hW.kA e
  refine ⟨fr _ _ hW.ob m1, ?_, fr _ _ hW.e1 m3, fr _ _ hW.e2 m4, fr _ _ hW.e3 m5, fr _ _ hW.e4 m6, ?_, ?_, ?_, by rw [setB_keys]; exact hW.kA, hW.kh, hW.kR, hW.kW, ?_, hW.lR, by rw [setB_keys]; exact hW.hA, by rw [setB_keys]; exact hW.WA, ⟨by rw [setB_len]; exact hW.zA.1, ?_⟩, hW.zR, hW.zW, hW.nn⟩
  · show H' L.d0 = some (.dK (kvA (setB L.A n fun _ => (l.1, vs))))
    rw [setA_kv hW.kA e]; exact fr _ _ hW.e0 m2
  · intro x hx
    have hx : x ∈ setB L.A n fun _ => (l.1, vs) := hx
    obtain ⟨y, hy, ⟨q1, q2⟩ | ⟨q1, q2⟩⟩ := setB_mem hx
    · rw [q2]; exact h1
    · rw [q2]
      refine fr _ _ (hW.sA _ hy) fun z => q1 ?_
      have nk := k4
      obtain ⟨l1, l2, eL, h1, h2⟩ := lk_split hW.kA e
      rw [eL] at hy nk
      rw [List.map_append] at nk
      obtain ⟨n1, n2, n3⟩ := List.nodup_append.mp nk
      rcases List.mem_append.mp hy with hy | hy
      · exact absurd z (n3 y.1 (List.mem_map.mpr ⟨_, hy, rfl⟩) l.1 (by simp))
      · rcases List.mem_cons.mp hy with hy | hy
        · exact congrArg Prod.fst hy
        · have := (List.nodup_cons.mp n2).1
          exact absurd (List.mem_map.mpr ⟨_, hy, z⟩) this
  · intro x hx
    exact fr _ _ (hW.sW x hx) fun z => k6 l.1 (List.mem_map.mpr ⟨_, lk_mem e, rfl⟩) x.2.1 (List.mem_map.mpr ⟨x, hx, rfl⟩) z.symm
  · show ([q, L.d0, L.d1, L.d2, L.d3, L.l4] ++ ((setB L.A n fun _ => (l.1, vs)).map (·.2.1) ++ L.W.map (·.2.1))).Nodup
    rw [eA]; exact hW.nd
  · intro x hx
    have hx : x ∈ setB L.A n fun _ => (l.1, vs) := hx
    obtain ⟨y, hy, _⟩ := setB_mem hx
    exact hW.lA (x.1, y) hy
  · intro x hx
    have hx : x ∈ setB L.A n fun _ => (l.1, vs) := hx
    obtain ⟨y, hy, ⟨q1, q2⟩ | ⟨q1, q2⟩⟩ := setB_mem hx
    · rw [q2]; exact hv
    · rw [q2]; exact hW.zA.2 _ hy
theorem ownW_slot (hW : WdAt H q L) {l : Addr × List V} (e : L.A.lookup n = some l) {vs : List V} : ownW q { L with A := setB L.A n fun _ => (l.1, vs) } = ownW q L := by
  unfold ownW
  rw [setA_addr hW.kA e]
theorem sget_box {x y : Bx} {m : Int} (e : S.get n = some x) : (S.box n y).get m = if m = n then some y else S.get m := by
  unfold Ch.box Ch.get
  show (setB S.bs n fun _ => y).lookup m = _
  rw [setB_lk]
  by_cases c : m = n
  · subst c
    rw [if_pos rfl, show S.bs.lookup m = some x from e]; simp
  · rw [if_neg c]
    cases S.bs.lookup m <;> simp [c]
theorem WSem.slot (hS : WSem H L S) (f : Tups H H') {l : Addr × List V} {x : Bx} {sl : List (Option (Int × Bool))} {vs : List V} (ex : S.get n = some x) (hv : Paired (SlotV H') vs sl) :
    WSem H' { L with A := setB L.A n fun _ => (l.1, vs) } (S.box n { x with sl := sl }) := by
  have h2 := hS.keep f
  refine ⟨hS.nb, hS.np, ?_, h2.ps, ?_, ?_, ?_⟩
  · exact paired_set (G := fun (u : Addr × List V) (v : Bx) => Paired (SlotV H') u.2 v.sl) (G' := fun (u : Addr × List V) (v : Bx) => Paired (SlotV H') u.2 v.sl) (fun _ _ g => g) hv h2.bs
  · intro m
    rw [sget_box ex, hS.hs]
    by_cases c : m = n
    · subst c; rw [if_pos rfl, ex]
      exact ⟨fun ⟨y, e1, e2⟩ => by cases e1; exact ⟨_, rfl, e2⟩, fun ⟨y, e1, e2⟩ => by cases e1; exact ⟨_, rfl, e2⟩⟩
    · rw [if_neg c]
  · intro m y e1 e2
    rw [sget_box ex] at e2
    by_cases c : m = n
    · subst c; rw [if_pos rfl] at e2; cases e2; exact hS.w0 m x e1 ex
    · rw [if_neg c] at e2; exact hS.w0 m y e1 e2
  · intro m u e1
    obtain ⟨y, e2, e3, e4⟩ := h2.w1 m u e1
    rw [sget_box ex]
    by_cases c : m = n
    · subst c; rw [if_pos rfl]; rw [ex] at e2; cases e2; exact ⟨_, rfl, e3, e4⟩
    · rw [if_neg c]; exact ⟨y, e2, e3, e4⟩
/-- the hands changed -/
theorem WdAt.hand (hW : WdAt H q L) {h : List Int} (hn : h.Nodup) (hk : ∀ m ∈ h, m ∈ L.A.map (·.1)) (h1 : H' L.d1 = some (.dK (kvH h))) (fr : ∀ c o, H c = some o → c ≠ L.d1 → H' c = some o) : WdAt H' q { L with h := h } := by
  have N := hW.ne
  exact ⟨fr _ _ hW.ob N.q1, fr _ _ hW.e0 N.n01, h1, fr _ _ hW.e2 N.n12.symm, fr _ _ hW.e3 N.n13.symm, fr _ _ hW.e4 N.n14.symm,
    fun e he => fr _ _ (hW.sA e he) (N.a _ (hW.inA he)).2.2.1.symm, fun e he => fr _ _ (hW.sW e he) (N.a _ (hW.inW he)).2.2.1.symm, hW.nd, hW.kA, hn, hW.kR, hW.kW, hW.lA, hW.lR, hk, hW.WA, hW.zA, hW.zR, hW.zW, hW.nn⟩
theorem paired_keys {α β : Type} {G : α → β → Prop} : ∀ {l : List (Int × α)} {m : List (Int × β)}, Paired (fun e f => e.1 = f.1 ∧ G e.2 f.2) l m → l.map (·.1) = m.map (·.1)
  | _, _, .nil => rfl
  | _, _, .cons h r => by rw [List.map_cons, List.map_cons, h.1, paired_keys r]
theorem paired_right {α β : Type} {G : α → β → Prop} {x x' : β} (hg : ∀ a, G a x → G a x') : ∀ {l : List (Int × α)} {m : List (Int × β)}, (l.map (·.1)).Pairwise (· < ·) → Paired (fun e f => e.1 = f.1 ∧ G e.2 f.2) l m → m.lookup n = some x →
    Paired (fun e f => e.1 = f.1 ∧ G e.2 f.2) l (setB m n fun _ => x')
  | _, _, _, .nil, h => by simp at h
  | (k, u) :: l, (k', y) :: m, pw, .cons h r, ex => by
    obtain ⟨e, g⟩ := h
    have e : k = k' := e
    subst e
    have pw : (k :: l.map (·.1)).Pairwise (· < ·) := pw
    obtain ⟨p1, p2⟩ := List.pairwise_cons.mp pw
    show Paired _ ((k, u) :: l) ((if k = n then (k, x') else (k, y)) :: setB m n fun _ => x')
    by_cases c : k = n
    · subst c
      rw [lk_pos] at ex
      cases ex
      rw [if_pos rfl, setB_no]
      · exact .cons ⟨rfl, hg _ g⟩ r
      · intro z hz q
        have : z.1 ∈ l.map (·.1) := by rw [paired_keys r]; exact List.mem_map.mpr ⟨z, hz, rfl⟩
        have := p1 _ this
        omega
    · rw [if_neg c]
      rw [lk_neg (fun z => c z.symm)] at ex
      exact .cons ⟨rfl, g⟩ (paired_right hg p2 r ex)
theorem WSem.hand (hS : WSem H L S) (f : Tups H H') (pw : (L.A.map (·.1)).Pairwise (· < ·)) {h : List Int} {x : Bx} {g : Bool} (ex : S.get n = some x) (hh : ∀ m, m ∈ h ↔ if m = n then g = true else m ∈ L.h) : WSem H' { L with h := h } (S.box n { x with hand := g }) := by
  have h2 := hS.keep f
  refine ⟨hS.nb, hS.np, ?_, h2.ps, ?_, ?_, ?_⟩
  · exact paired_right (x := x) (x' := { x with hand := g }) (G := fun (u : Addr × List V) (v : Bx) => Paired (SlotV H') u.2 v.sl) (fun _ g => g) pw h2.bs ex
  · intro m
    rw [sget_box ex, hh]
    by_cases c : m = n
    · rw [if_pos c, if_pos c]
      exact ⟨fun hg => ⟨_, rfl, hg⟩, fun ⟨y, e1, e2⟩ => by cases e1; exact e2⟩
    · rw [if_neg c, if_neg c, hS.hs]
  · intro m y e1 e2
    rw [sget_box ex] at e2
    by_cases c : m = n
    · subst c; rw [if_pos rfl] at e2; cases e2; exact hS.w0 m x e1 ex
    · rw [if_neg c] at e2; exact hS.w0 m y e1 e2
  · intro m u e1
    obtain ⟨y, e2, e3, e4⟩ := h2.w1 m u e1
    rw [sget_box ex]
    by_cases c : m = n
    · subst c; rw [if_pos rfl]; rw [ex] at e2; cases e2; exact ⟨_, rfl, e3, e4⟩
    · rw [if_neg c]; exact ⟨y, e2, e3, e4⟩
/-- a pair more -/
theorem WdAt.tie (hW : WdAt H q L) {t : Addr} (h4 : H' L.l4 = some (.lst [.int L.nb, .int (L.np + 1)])) (h2 : H' L.d2 = some (.dK (kvR (L.R ++ [(L.np, t)])))) (hl : L.R.length < 60) (fr : ∀ c o, H c = some o → c ≠ L.l4 → c ≠ L.d2 → H' c = some o) :
    WdAt H' q { L with np := L.np + 1, R := L.R ++ [(L.np, t)], o4 := [.int L.nb, .int (L.np + 1)] } := by
  have N := hW.ne
  refine ⟨fr _ _ hW.ob N.q4 N.q2, fr _ _ hW.e0 N.n04 N.n02, fr _ _ hW.e1 N.n14 N.n12, h2, fr _ _ hW.e3 N.n34 N.n23.symm, h4, fun e he => fr _ _ (hW.sA e he) (N.a _ (hW.inA he)).2.2.2.2.2.symm (N.a _ (hW.inA he)).2.2.2.1.symm,
    fun e he => fr _ _ (hW.sW e he) (N.a _ (hW.inW he)).2.2.2.2.2.symm (N.a _ (hW.inW he)).2.2.2.1.symm, hW.nd, hW.kA, hW.kh, ?_, hW.kW, hW.lA, ?_, hW.hA, hW.WA, hW.zA, ?_, hW.zW, ⟨hW.nn.1, by show 0 ≤ L.np + 1; have := hW.nn.2; omega⟩⟩
  · show ((L.R ++ [(L.np, t)]).map (·.1)).Pairwise (· < ·)
    rw [List.map_append]
    exact pw_snoc hW.kR fun y hy => by
      obtain ⟨e, he, rfl⟩ := List.mem_map.mp hy
      exact (hW.lR e he).2
  · intro e he
    rcases List.mem_append.mp he with he | he
    · have := hW.lR e he
      exact ⟨this.1, by show e.1 < L.np + 1; omega⟩
    · cases List.mem_singleton.mp he
      exact ⟨hW.nn.2, by show L.np < L.np + 1; omega⟩
  · show (L.R ++ [(L.np, t)]).length ≤ 60
    rw [List.length_append, List.length_singleton]; omega
theorem WSem.tie (hS : WSem H L S) (f : Tups H H') {t : Addr} {h k o : Int} (ht : H' t = some (.tup [.int h, .int k, .int o])) : WSem H' { L with np := L.np + 1, R := L.R ++ [(L.np, t)], o4 := [.int L.nb, .int (L.np + 1)] } (S.tied h k o) := by
  have h2 := hS.keep f
  exact ⟨hS.nb, by show L.np + 1 = S.np + 1; rw [hS.np], h2.bs, Paired.snoc h2.ps ⟨hS.np, ht⟩, h2.hs, h2.w0, h2.w1⟩
/-- a pair fewer -/
theorem WdAt.loose (hW : WdAt H q L) (h2 : H' L.d2 = some (.dK (kvR (L.R.filter fun e => decide (e.1 ≠ n))))) (fr : ∀ c o, H c = some o → c ≠ L.d2 → H' c = some o) : WdAt H' q { L with R := L.R.filter fun e => decide (e.1 ≠ n) } := by
  have N := hW.ne
  exact ⟨fr _ _ hW.ob N.q2, fr _ _ hW.e0 N.n02, fr _ _ hW.e1 N.n12, h2, fr _ _ hW.e3 N.n23.symm, fr _ _ hW.e4 N.n24.symm, fun e he => fr _ _ (hW.sA e he) (N.a _ (hW.inA he)).2.2.2.1.symm,
    fun e he => fr _ _ (hW.sW e he) (N.a _ (hW.inW he)).2.2.2.1.symm, hW.nd, hW.kA, hW.kh, hW.kR.sublist (List.Sublist.map _ List.filter_sublist), hW.kW, hW.lA, fun e he => hW.lR e (List.mem_filter.mp he).1, hW.hA, hW.WA, hW.zA, Nat.le_trans (List.length_filter_le _ _) hW.zR, hW.zW, hW.nn⟩
theorem WSem.loose (hS : WSem H L S) (f : Tups H H') : WSem H' { L with R := L.R.filter fun e => decide (e.1 ≠ n) } (S.loose n) := by
  have h2 := hS.keep f
  exact ⟨hS.nb, hS.np, h2.bs, paired_filter h2.ps, h2.hs, h2.w0, h2.w1⟩
/-- the wills with n's at l -/
def putW (W : AL) (n : Int) (l : Addr) (us : List V) : AL := if W.lookup n = none then W ++ [(n, l, us)] else setB W n fun _ => (l, us)
theorem putW_kv {W : AL} {l : Addr} {us : List V} : putK (kvA W) (Sum.inl n : Key) (V.ref l) = kvA (putW W n l us) := by
  unfold putW
  by_cases c : W.lookup n = none
  · rw [if_pos c, kvA_new c]
  · rw [if_neg c, kvA_old c]
theorem putW_mem {W : AL} {l : Addr} {us : List V} {e : Int × Addr × List V} (h : e ∈ putW W n l us) : e = (n, l, us) ∨ (e ∈ W ∧ e.1 ≠ n) := by
  unfold putW at h
  by_cases c : W.lookup n = none
  · rw [if_pos c] at h
    rcases List.mem_append.mp h with h | h
    · exact .inr ⟨h, fun z => lk_none.mp c (List.mem_map.mpr ⟨e, h, z⟩)⟩
    · exact .inl (List.mem_singleton.mp h)
  · rw [if_neg c] at h
    obtain ⟨x, hx, ⟨q1, q2⟩ | ⟨q1, q2⟩⟩ := setB_mem h
    · left; obtain ⟨e1, e2⟩ := e; have q1 : e1 = n := q1; have q2 : e2 = (l, us) := q2; rw [q1, q2]
    · right; obtain ⟨e1, e2⟩ := e; have q2 : e2 = x := q2; exact ⟨by rw [q2]; exact hx, q1⟩
theorem putW_lk {W : AL} {l : Addr} {us : List V} {m : Int} : (putW W n l us).lookup m = if m = n then some (l, us) else W.lookup m := by
  unfold putW
  by_cases c : W.lookup n = none
  · rw [if_pos c]
    by_cases d : m = n
    · subst d
      rw [if_pos rfl]
      have : ∀ {W : AL}, W.lookup m = none → (W ++ [(m, l, us)]).lookup m = some (l, us) := by
        intro W
        induction W with
        | nil => intro _; exact lk_pos
        | cons e r ih =>
          obtain ⟨k, y⟩ := e
          intro h
          by_cases z : m = k
          · subst z; rw [lk_pos] at h; cases h
          · rw [lk_neg (by simpa using z)] at h
            show ((k, y) :: (r ++ [(m, l, us)])).lookup m = _
            rw [lk_neg (by simpa using z)]; exact ih h
      exact this c
    · rw [if_neg d]
      have : ∀ {W : AL}, (W ++ [(n, l, us)]).lookup m = W.lookup m := by
        intro W
        induction W with
        | nil => exact lk_neg d
        | cons e r ih =>
          obtain ⟨k, y⟩ := e
          show ((k, y) :: (r ++ [(n, l, us)])).lookup m = _
          by_cases z : m = k
          · subst z; rw [lk_pos, lk_pos]
          · rw [lk_neg (by simpa using z), lk_neg (by simpa using z)]; exact ih
      exact this
  · rw [if_neg c, setB_lk]
    by_cases d : m = n
    · subst d
      rw [if_pos rfl]
      cases e : W.lookup m with
      | none => exact absurd e c
      | some x => simp
    · rw [if_neg d]
      cases W.lookup m <;> simp [d]
theorem putW_nd {W : AL} {l : Addr} {us : List V} (h : (W.map (·.1)).Nodup) : ((putW W n l us).map (·.1)).Nodup := by
  unfold putW
  by_cases c : W.lookup n = none
  · rw [if_pos c, List.map_append]
    refine List.nodup_append.mpr ⟨h, by simp, fun x hx y hy e => lk_none.mp c ?_⟩
    have q : y = n := by simpa using hy
    rw [← q, ← e]; exact hx
  · rw [if_neg c, setB_keys]; exact h
theorem putW_addr {W : AL} {l : Addr} {us : List V} {c : Addr} (h : c ∈ (putW W n l us).map (·.2.1)) : c = l ∨ c ∈ W.map (·.2.1) := by
  obtain ⟨e, he, rfl⟩ := List.mem_map.mp h
  rcases putW_mem he with rfl | ⟨he, _⟩
  · exact .inl rfl
  · exact .inr (List.mem_map.mpr ⟨e, he, rfl⟩)
theorem putW_ndA {W : AL} {l : Addr} {us : List V} (kW : (W.map (·.1)).Nodup) (h : (W.map (·.2.1)).Nodup) (hl : l ∉ W.map (·.2.1)) : ((putW W n l us).map (·.2.1)).Nodup := by
  unfold putW
  by_cases c : W.lookup n = none
  · rw [if_pos c, List.map_append]
    exact List.nodup_append.mpr ⟨h, by simp, fun x hx y hy e => hl (by rw [← show y = l from List.mem_singleton.mp hy, ← e]; exact hx)⟩
  · rw [if_neg c]
    clear c
    induction W with
    | nil => exact .nil
    | cons e r ih =>
      obtain ⟨k, y⟩ := e
      have kW : (k :: r.map (·.1)).Nodup := kW
      have h : (y.1 :: r.map (·.2.1)).Nodup := h
      have hl : ¬ (l = y.1 ∨ l ∈ r.map (·.2.1)) := fun z => hl (List.mem_cons.mpr z)
      obtain ⟨k1, k2⟩ := List.nodup_cons.mp kW
      obtain ⟨g1, g2⟩ := List.nodup_cons.mp h
      show (((if k = n then (k, (l, us)) else (k, y)) :: setB r n fun _ => (l, us)).map (·.2.1)).Nodup
      by_cases d : k = n
      · subst d
        rw [if_pos rfl, setB_no fun e he z => k1 (List.mem_map.mpr ⟨e, he, z⟩)]
        exact List.nodup_cons.mpr ⟨fun m => hl (.inr m), g2⟩
      · rw [if_neg d]
        refine List.nodup_cons.mpr ⟨fun m => ?_, ih k2 g2 fun m => hl (.inr m)⟩
        obtain ⟨e, he, q⟩ := List.mem_map.mp m
        obtain ⟨x, hx, ⟨q1, q2⟩ | ⟨q1, q2⟩⟩ := setB_mem he
        · rw [q2] at q; exact hl (.inl q)
        · rw [q2] at q; exact g1 (List.mem_map.mpr ⟨_, hx, q⟩)
theorem WdAt.will (hW : WdAt H q L) {l : Addr} {us : List V} (hn : n ∈ L.A.map (·.1)) (fl : H l = none) (hz : us.length ≤ 9) (h3 : H' L.d3 = some (.dK (kvA (putW L.W n l us)))) (hl : H' l = some (.lst us)) (fr : ∀ c o, H c = some o → c ≠ L.d3 → H' c = some o) :
    WdAt H' q { L with W := putW L.W n l us } := by
  have N := hW.ne
  have no : ∀ c, c ∈ ownW q L → c ≠ l := fun c hc z => hW.fresh fl (z ▸ hc)
  have nd := hW.nd
  unfold ownW at nd
  obtain ⟨k1, k2, k3⟩ := List.nodup_append.mp nd
  obtain ⟨k4, k5, k6⟩ := List.nodup_append.mp k2
  refine ⟨fr _ _ hW.ob N.q3, fr _ _ hW.e0 N.n03, fr _ _ hW.e1 N.n13, fr _ _ hW.e2 N.n23, h3, fr _ _ hW.e4 N.n34.symm, fun e he => fr _ _ (hW.sA e he) (N.a _ (hW.inA he)).2.2.2.2.1.symm, ?_, ?_, hW.kA, hW.kh, hW.kR, putW_nd hW.kW, hW.lA, hW.lR, hW.hA, ?_, hW.zA, hW.zR, ?_, hW.nn⟩
  · intro e he
    rcases putW_mem he with rfl | ⟨he, _⟩
    · exact hl
    · exact fr _ _ (hW.sW e he) (N.a _ (hW.inW he)).2.2.2.2.1.symm
  · show ([q, L.d0, L.d1, L.d2, L.d3, L.l4] ++ (L.A.map (·.2.1) ++ (putW L.W n l us).map (·.2.1))).Nodup
    have lW : l ∉ L.W.map (·.2.1) := fun m => no l (by unfold ownW; exact List.mem_append_right _ (List.mem_append_right _ m)) rfl
    refine List.nodup_append.mpr ⟨k1, List.nodup_append.mpr ⟨k4, putW_ndA hW.kW k5 lW, ?_⟩, ?_⟩
    · intro x hx y hy e
      rcases putW_addr hy with rfl | hy
      · exact no x (by unfold ownW; exact List.mem_append_right _ (List.mem_append_left _ hx)) e
      · exact k6 x hx y hy e
    · intro x hx y hy e
      rcases List.mem_append.mp hy with hy | hy
      · exact k3 x hx y (List.mem_append_left _ hy) e
      · rcases putW_addr hy with rfl | hy
        · exact no x (by unfold ownW; exact List.mem_append_left _ hx) e
        · exact k3 x hx y (List.mem_append_right _ hy) e
  · intro e he
    rcases putW_mem he with rfl | ⟨he, _⟩
    · exact hn
    · exact hW.WA e he
  · intro e he
    rcases putW_mem he with rfl | ⟨he, _⟩
    · exact hz
    · exact hW.zW e he
theorem WdAt.unwill (hW : WdAt H q L) (h3 : H' L.d3 = some (.dK (kvA (L.W.filter fun e => decide (e.1 ≠ n))))) (fr : ∀ c o, H c = some o → c ≠ L.d3 → H' c = some o) : WdAt H' q { L with W := L.W.filter fun e => decide (e.1 ≠ n) } := by
  have N := hW.ne
  have nd := hW.nd
  unfold ownW at nd
  refine ⟨fr _ _ hW.ob N.q3, fr _ _ hW.e0 N.n03, fr _ _ hW.e1 N.n13, fr _ _ hW.e2 N.n23, h3, fr _ _ hW.e4 N.n34.symm, fun e he => fr _ _ (hW.sA e he) (N.a _ (hW.inA he)).2.2.2.2.1.symm,
    fun e he => fr _ _ (hW.sW e (List.mem_filter.mp he).1) (N.a _ (hW.inW (List.mem_filter.mp he).1)).2.2.2.2.1.symm, ?_, hW.kA, hW.kh, hW.kR, hW.kW.sublist (List.Sublist.map _ List.filter_sublist), hW.lA, hW.lR, hW.hA, fun e he => hW.WA e (List.mem_filter.mp he).1, hW.zA, hW.zR, fun e he => hW.zW e (List.mem_filter.mp he).1, hW.nn⟩
  exact nd.sublist (List.Sublist.append (List.Sublist.refl _) (List.Sublist.append (List.Sublist.refl _) (List.Sublist.map _ List.filter_sublist)))
/-- the wills as they are told -/
theorem WSem.will (hS : WSem H L S) (f : Tups H H') (pw : (L.A.map (·.1)).Pairwise (· < ·)) {x : Bx} {ds : List Deed} {W : AL} (ex : S.get n = some x)
    (h0 : ds = [] → W.lookup n = none) (h1 : ds ≠ [] → ∃ l, W.lookup n = some l ∧ Paired (DeedV H') l.2 ds) (ho : ∀ m, m ≠ n → W.lookup m = L.W.lookup m) : WSem H' { L with W := W } (S.box n { x with will := ds }) := by
  have h2 := hS.keep f
  refine ⟨hS.nb, hS.np, paired_right (x := x) (x' := { x with will := ds }) (G := fun (u : Addr × List V) (v : Bx) => Paired (SlotV H') u.2 v.sl) (fun _ g => g) pw h2.bs ex, h2.ps, ?_, ?_, ?_⟩
  · intro m
    rw [sget_box ex, hS.hs]
    by_cases c : m = n
    · subst c; rw [if_pos rfl, ex]
      exact ⟨fun ⟨y, e1, e2⟩ => by cases e1; exact ⟨_, rfl, e2⟩, fun ⟨y, e1, e2⟩ => by cases e1; exact ⟨_, rfl, e2⟩⟩
    · rw [if_neg c]
  · intro m y e1 e2
    rw [sget_box ex] at e2
    by_cases c : m = n
    · subst c; rw [if_pos rfl] at e2; cases e2
      by_cases d : ds = []
      · exact d
      · obtain ⟨l, e3, _⟩ := h1 d
        have e1 : W.lookup m = none := e1
        rw [e3] at e1; cases e1
    · rw [if_neg c] at e2
      have e1 : W.lookup m = none := e1
      rw [ho m c] at e1
      exact hS.w0 m y e1 e2
  · intro m u e1
    have e1 : W.lookup m = some u := e1
    rw [sget_box ex]
    by_cases c : m = n
    · subst c
      rw [if_pos rfl]
      by_cases d : ds = []
      · rw [h0 d] at e1; cases e1
      · obtain ⟨l, e3, e4⟩ := h1 d
        rw [e3] at e1; cases e1
        exact ⟨_, rfl, d, e4⟩
    · rw [if_neg c]
      rw [ho m c] at e1
      exact h2.w1 m u e1
end
end LW
/-! # Values that never change; lists that were handed out and kept -/
namespace LW
open PySem PySem.Spec PyProof.Rows L2

theorem Fr.tups {O : List Addr} {H H' : Hp} (f : Fr O H H') (d : ∀ b, b ∈ O → ∃ o, H b = some o ∧ ∀ xs, o ≠ .tup xs) : Tups H H' := fun t xs e => f t _ e fun m => by
  obtain ⟨o, h, n⟩ := d t m
  rw [e] at h
  exact n xs (Option.some.inj h).symm
/-! ### flat values, tuples of them, tuples of these -/
inductive C0 : V → PyData → Prop where
  | non : C0 .non .none
  | bl (b : Bool) : C0 (.bl b) (.bool b)
  | int (i : Int) : C0 (.int i) (.int i)
  | str (s : Str) (h : PyData.strOk s = true) : C0 (.str s) (.str s)
def TupOf (H : Hp) (R : V → PyData → Prop) : V → PyData → Prop := fun v d => R v d ∨ ∃ t vs ds, v = .ref t ∧ H t = some (.tup vs) ∧ Paired R vs ds ∧ d = .tuple ds
def C1 (H : Hp) : V → PyData → Prop := TupOf H C0
def C2 (H : Hp) : V → PyData → Prop := TupOf H (C1 H)
theorem C1.keep {H H' : Hp} (f : Tups H H') {v : V} {d : PyData} (h : C1 H v d) : C1 H' v d := by
  rcases h with h | ⟨t, vs, ds, rfl, e, p, rfl⟩
  · exact .inl h
  · exact .inr ⟨t, vs, ds, rfl, f _ _ e, p, rfl⟩
theorem C2.keep {H H' : Hp} (f : Tups H H') {v : V} {d : PyData} (h : C2 H v d) : C2 H' v d := by
  rcases h with h | ⟨t, vs, ds, rfl, e, p, rfl⟩
  · exact .inl (C1.keep f h)
  · exact .inr ⟨t, vs, ds, rfl, f _ _ e, L2.Paired.mapP p fun _ _ => C1.keep f, rfl⟩
/-- how deep -/
def Lay (n : Nat) (d : PyData) : Prop := PyData.canLay0 d = true ∧ PyData.depth d ≤ n
theorem lay_all {n : Nat} : ∀ {ds : List PyData}, (∀ d ∈ ds, Lay n d) → PyData.canLayAll0 ds = true ∧ PyData.depthAll ds ≤ n
  | [], _ => ⟨rfl, Nat.zero_le _⟩
  | d :: ds, h => by
    obtain ⟨h1, h2⟩ := h d List.mem_cons_self
    obtain ⟨h3, h4⟩ := lay_all (ds := ds) fun x m => h x (List.mem_cons_of_mem _ m)
    refine ⟨?_, ?_⟩
    · show (PyData.canLay0 d && PyData.canLayAll0 ds) = true
      rw [h1, h3]; rfl
    · show max (PyData.depth d) (PyData.depthAll ds) ≤ n
      omega
theorem Lay.tup {n : Nat} {ds : List PyData} (h : ∀ d ∈ ds, Lay n d) : Lay (n + 1) (.tuple ds) := by
  obtain ⟨h1, h2⟩ := lay_all h
  exact ⟨h1, by show PyData.depthAll ds + 1 ≤ n + 1; omega⟩
theorem Lay.lst {n : Nat} {ds : List PyData} (h : ∀ d ∈ ds, Lay n d) : Lay (n + 1) (.list ds) := by
  obtain ⟨h1, h2⟩ := lay_all h
  exact ⟨h1, by show PyData.depthAll ds + 1 ≤ n + 1; omega⟩
theorem Lay.mono {n m : Nat} {d : PyData} (h : Lay n d) (k : n ≤ m) : Lay m d := ⟨h.1, Nat.le_trans h.2 k⟩
theorem Lay.shaped {n : Nat} {d : PyData} (h : Lay n d) (k : n ≤ 64) : SeqAt.shaped d = true := by
  show (PyData.canLay0 d && decide (PyData.depth d ≤ 64)) = true
  rw [h.1, decide_eq_true (Nat.le_trans h.2 k)]; rfl
theorem C0.lay {v : V} {d : PyData} (h : C0 v d) : Lay 0 d := by
  cases h with
  | non => exact ⟨by decide, Nat.le_refl _⟩
  | bl b => exact ⟨by simp [PyData.canLay0], Nat.le_refl _⟩
  | int i => exact ⟨by simp [PyData.canLay0], Nat.le_refl _⟩
  | str s h => exact ⟨by simp [PyData.canLay0, h], Nat.le_refl _⟩
theorem paired_right_all {α β : Type} {R : α → β → Prop} {G : β → Prop} (g : ∀ a b, R a b → G b) : ∀ {l : List α} {m : List β}, Paired R l m → ∀ b ∈ m, G b
  | _, _, .nil, _, h => nomatch h
  | _, _, .cons f r, b, h => by
    rcases List.mem_cons.mp h with rfl | h
    · exact g _ _ f
    · exact paired_right_all g r b h
theorem C1.lay {H : Hp} {v : V} {d : PyData} (h : C1 H v d) : Lay 1 d := by
  rcases h with h | ⟨t, vs, ds, rfl, e, p, rfl⟩
  · exact h.lay.mono (by omega)
  · exact .tup (paired_right_all (G := Lay 0) (fun _ _ => C0.lay) p)
theorem C2.lay {H : Hp} {v : V} {d : PyData} (h : C2 H v d) : Lay 2 d := by
  rcases h with h | ⟨t, vs, ds, rfl, e, p, rfl⟩
  · exact (C1.lay h).mono (by omega)
  · exact .tup (paired_right_all (G := Lay 1) (fun _ _ => C1.lay) p)
section
variable {K : PySem.W.Frag} {H : Hp} {v : V} {d : PyData}
theorem C0.dp (h : C0 v d) : Dp K H v d := by
  cases h with
  | non => exact .non
  | bl b => exact .bl b
  | int i => exact .int i
  | str s _ => exact .str s
theorem dp_all {R : V → PyData → Prop} (g : ∀ v d, R v d → Dp K H v d) : ∀ {vs : List V} {ds : List PyData}, Paired R vs ds → DpAll K H vs ds
  | _, _, .nil => .nil
  | _, _, .cons f r => .cons (g _ _ f) (dp_all g r)
theorem C1.dp (h : C1 H v d) : Dp K H v d := by
  rcases h with h | ⟨t, vs, ds, rfl, e, p, rfl⟩
  · exact h.dp
  · exact .tup (SqT.of e) (dp_all (fun _ _ => C0.dp) p)
theorem C2.dp (h : C2 H v d) : Dp K H v d := by
  rcases h with h | ⟨t, vs, ds, rfl, e, p, rfl⟩
  · exact C1.dp h
  · exact .tup (SqT.of e) (dp_all (fun _ _ => C1.dp) p)
/-- a list of such values, compared with one alike -/
theorem g_eqC {Q : VK} {f g : Addr} {us ws : List V} {ds : List PyData} (ef : H f = some (.lst us)) (eg : H g = some (.lst ws)) (pf : Paired (C2 H) us ds) (pg : Paired (C2 H) ws ds) (h : Q (.bl true) H) : rEqD K (.ref f) (.ref g) H Q :=
  g_eqDS (.lst (SqL.of ef) (dp_all (fun _ _ => C2.dp) pf)) (.lst (SqL.of eg) (dp_all (fun _ _ => C2.dp) pg)) ((Lay.lst (n := 2) (paired_right_all (G := Lay 2) (fun _ _ => C2.lay) pf)).shaped (by decide)) h
theorem g_neC {Q : VK} {f g : Addr} {us ws : List V} {ds : List PyData} (ef : H f = some (.lst us)) (eg : H g = some (.lst ws)) (pf : Paired (C2 H) us ds) (pg : Paired (C2 H) ws ds) (h : Q (.bl false) H) : rNeD K (.ref f) (.ref g) H Q :=
  g_neDS (.lst (SqL.of ef) (dp_all (fun _ _ => C2.dp) pf)) (.lst (SqL.of eg) (dp_all (fun _ _ => C2.dp) pg)) ((Lay.lst (n := 2) (paired_right_all (G := Lay 2) (fun _ _ => C2.lay) pf)).shaped (by decide)) h
/-- two such values alike -/
theorem g_eqV {Q : VK} {x y : V} (px : C2 H x d) (py : C2 H y d) (h : Q (.bl true) H) : rEqD K x y H Q := g_eqDS px.dp py.dp (px.lay.shaped (by decide)) h
theorem g_neV {Q : VK} {x y : V} (px : C2 H x d) (py : C2 H y d) (h : Q (.bl false) H) : rNeD K x y H Q := g_neDS px.dp py.dp (px.lay.shaped (by decide)) h
end
theorem c2_ints {H : Hp} : ∀ (ns : List Int), Paired (C2 H) (ns.map V.int) (ns.map PyData.int)
  | [] => .nil
  | n :: ns => .cons (.inl (.inl (.int n))) (c2_ints ns)
def Deed.data : Deed → PyData
  | .up => .tuple [.str "up"]
  | .down o => .tuple [.str "down", .int o]
  | .hang o s h => .tuple [.str "hang", .int o, .int s, .bool h]
theorem DeedV.c1 {H : Hp} {v : V} {d : Deed} (h : DeedV H v d) : C1 H v d.data := by
  cases h with
  | up e => exact .inr ⟨_, _, _, rfl, e, .cons (.str _ (by decide +kernel)) .nil, rfl⟩
  | down e => exact .inr ⟨_, _, _, rfl, e, .cons (.str _ (by decide +kernel)) (.cons (.int _) .nil), rfl⟩
  | hang e => exact .inr ⟨_, _, _, rfl, e, .cons (.str _ (by decide +kernel)) (.cons (.int _) (.cons (.int _) (.cons (.bl _) .nil))), rfl⟩
theorem c2_deeds {H : Hp} : ∀ {us : List V} {ds : List Deed}, Paired (DeedV H) us ds → Paired (C2 H) us (ds.map Deed.data)
  | _, _, .nil => .nil
  | _, _, .cons f r => .cons (.inl f.c1) (c2_deeds r)
theorem paired_fst {α β : Type} {R : α → β → Prop} : ∀ {l : List α} {m : List β}, Paired R l m → l.length = m.length := fun h => h.length

/-! ### kept lists: each with a copy -/
def ownK (kp : Addr) (es : List (Addr × Addr × Addr)) : List Addr := kp :: es.flatMap fun e => [e.1, e.2.1, e.2.2]
structure KeptL (H : Hp) (kp : Addr) (es : List (Addr × Addr × Addr)) : Prop where
  ob : H kp = some (.lst (es.map fun e => .ref e.1))
  en : ∀ e ∈ es, H e.1 = some (.lst [.ref e.2.1, .ref e.2.2]) ∧ ∃ ys zs ds, H e.2.1 = some (.lst ys) ∧ H e.2.2 = some (.lst zs) ∧ Paired (C2 H) ys ds ∧ Paired (C2 H) zs ds
  ne : ∀ e ∈ es, e.1 ≠ kp ∧ e.2.1 ≠ kp ∧ e.2.2 ≠ kp
def KeptAt (H : Hp) (kp : Addr) (N : List Addr) (m : Nat) : Prop := ∃ es, KeptL H kp es ∧ es.length ≤ m ∧ N = ownK kp es
theorem ownK_mem {kp b : Addr} {es : List (Addr × Addr × Addr)} : b ∈ ownK kp es ↔ b = kp ∨ ∃ e ∈ es, b = e.1 ∨ b = e.2.1 ∨ b = e.2.2 := by
  unfold ownK
  simp only [List.mem_cons, List.mem_flatMap, List.not_mem_nil, or_false]
theorem KeptAt.dom {H : Hp} {kp : Addr} {N : List Addr} {m : Nat} (h : KeptAt H kp N m) {b : Addr} (hb : b ∈ N) : ∃ o, H b = some o ∧ ∀ xs, o ≠ .tup xs := by
  obtain ⟨es, hk, _, rfl⟩ := h
  rcases ownK_mem.mp hb with rfl | ⟨e, he, rfl | rfl | rfl⟩
  · exact ⟨_, hk.ob, fun _ z => nomatch z⟩
  · exact ⟨_, (hk.en e he).1, fun _ z => nomatch z⟩
  · obtain ⟨_, ys, zs, ds, e1, e2, _⟩ := hk.en e he
    exact ⟨_, e1, fun _ z => nomatch z⟩
  · obtain ⟨_, ys, zs, ds, e1, e2, _⟩ := hk.en e he
    exact ⟨_, e2, fun _ z => nomatch z⟩
theorem KeptL.keep {H H' : Hp} {kp : Addr} {es : List (Addr × Addr × Addr)} (h : KeptL H kp es) (f : ∀ b o, b ∈ ownK kp es → H b = some o → H' b = some o) (t : Tups H H') : KeptL H' kp es := by
  refine ⟨f _ _ (ownK_mem.mpr (.inl rfl)) h.ob, fun e he => ?_, h.ne⟩
  obtain ⟨e1, ys, zs, ds, e2, e3, e4, e5⟩ := h.en e he
  exact ⟨f _ _ (ownK_mem.mpr (.inr ⟨e, he, .inl rfl⟩)) e1, ys, zs, ds, f _ _ (ownK_mem.mpr (.inr ⟨e, he, .inr (.inl rfl)⟩)) e2, f _ _ (ownK_mem.mpr (.inr ⟨e, he, .inr (.inr rfl)⟩)) e3,
    L2.Paired.mapP e4 fun _ _ => C2.keep t, L2.Paired.mapP e5 fun _ _ => C2.keep t⟩
theorem KeptAt.keep {H H' : Hp} {kp : Addr} {N O : List Addr} {m : Nat} (h : KeptAt H kp N m) (f : Fr O H H') (t : Tups H H') (d : ∀ b, b ∈ N → b ∉ O) : KeptAt H' kp N m := by
  obtain ⟨es, hk, hm, rfl⟩ := h
  exact ⟨es, hk.keep (fun b o hb e => f b o e (d b hb)) t, hm, rfl⟩
theorem KeptAt.same {H H' : Hp} {kp : Addr} {N : List Addr} {m : Nat} (h : KeptAt H kp N m) (f : Same H H') : KeptAt H' kp N m :=
  h.keep (O := []) (fun b o e _ => f b o e) (fun t xs e => f t _ e) (fun b _ m => nomatch m)
theorem KeptAt.mono {H : Hp} {kp : Addr} {N : List Addr} {m n : Nat} (h : KeptAt H kp N m) (l : m ≤ n) : KeptAt H kp N n := by
  obtain ⟨es, hk, hm, rfl⟩ := h
  exact ⟨es, hk, Nat.le_trans hm l, rfl⟩
/-- one more entry e of the list f and its copy g, appended to kp -/
theorem KeptAt.add {H H1 : Hp} {kp e f g : Addr} {N : List Addr} {m : Nat} {ys zs : List V} {ds : List PyData} (h : KeptAt H kp N m) (s : Same H H1)
    (he : H1 e = some (.lst [.ref f, .ref g])) (hf : H1 f = some (.lst ys)) (hg : H1 g = some (.lst zs)) (pf : Paired (C2 H1) ys ds) (pg : Paired (C2 H1) zs ds)
    (ne : H e = none) (nf : H f = none) (ng : H g = none) :
    ∃ xs, H1 kp = some (.lst xs) ∧ xs.length ≤ m ∧ ∃ N', (∀ b, b ∈ N' ↔ b ∈ N ∨ b = e ∨ b = f ∨ b = g) ∧ KeptAt (upd H1 kp (.lst (xs ++ [.ref e]))) kp N' (m + 1) := by
  obtain ⟨es, hk, hm, rfl⟩ := h
  refine ⟨_, s _ _ hk.ob, by rw [List.length_map]; exact hm, ownK kp (es ++ [(e, f, g)]), fun b => ?_, es ++ [(e, f, g)], ?_, by rw [List.length_append]; show es.length + 1 ≤ m + 1; omega, rfl⟩
  · rw [ownK_mem, ownK_mem]
    constructor
    · rintro (h | ⟨x, hx, h⟩)
      · exact .inl (.inl h)
      · rcases List.mem_append.mp hx with hx | hx
        · exact .inl (.inr ⟨x, hx, h⟩)
        · cases List.mem_singleton.mp hx; exact .inr h
    · rintro ((h | ⟨x, hx, h⟩) | h)
      · exact .inl h
      · exact .inr ⟨x, List.mem_append_left _ hx, h⟩
      · exact .inr ⟨_, List.mem_append_right _ (List.mem_singleton.mpr rfl), h⟩
  · have ke : e ≠ kp := fun z => by rw [z, hk.ob] at ne; cases ne
    have kf : f ≠ kp := fun z => by rw [z, hk.ob] at nf; cases nf
    have kg : g ≠ kp := fun z => by rw [z, hk.ob] at ng; cases ng
    have t : Tups H1 (upd H1 kp (.lst ((es.map fun e => .ref e.1) ++ [.ref e]))) := fun b xs z => by
      rw [upd_ne (fun c => by rw [c, s _ _ hk.ob] at z; cases z)]; exact z
    have t0 : Tups H (upd H1 kp (.lst ((es.map fun e => .ref e.1) ++ [.ref e]))) := fun b xs z => t _ _ (s _ _ z)
    refine ⟨by rw [upd_same, List.map_append]; rfl, fun x hx => ?_, fun x hx => ?_⟩
    · rcases List.mem_append.mp hx with hx | hx
      · obtain ⟨e1, ys, zs, ds, e2, e3, e4, e5⟩ := hk.en x hx
        obtain ⟨n1, n2, n3⟩ := hk.ne x hx
        exact ⟨by rw [upd_ne n1]; exact s _ _ e1, ys, zs, ds, by rw [upd_ne n2]; exact s _ _ e2, by rw [upd_ne n3]; exact s _ _ e3, L2.Paired.mapP e4 fun _ _ => C2.keep t0, L2.Paired.mapP e5 fun _ _ => C2.keep t0⟩
      · cases List.mem_singleton.mp hx
        exact ⟨by rw [upd_ne ke]; exact he, ys, zs, ds, by rw [upd_ne kf]; exact hf, by rw [upd_ne kg]; exact hg, L2.Paired.mapP pf fun _ _ => C2.keep t, L2.Paired.mapP pg fun _ _ => C2.keep t⟩
    · rcases List.mem_append.mp hx with hx | hx
      · exact hk.ne x hx
      · cases List.mem_singleton.mp hx
        exact ⟨ke, kf, kg⟩

theorem free_same {H H' : Hp} (f : Same H H') {b : Addr} (h : H' b = none) : H b = none := by
  cases e : H b with
  | none => rfl
  | some o => rw [f _ _ e] at h; cases h
theorem g_appendK {H : Hp} {Q : VK} {v : V} {l : Addr} {xs : List V} (e : H l = some (.lst xs)) (z : xs.length ≤ 1000000) (h : Q .non (upd H l (.lst (xs ++ [v])))) : rAppend (.ref l) [v] H Q := ⟨l, xs, v, rfl, rfl, e, Nat.lt_of_le_of_lt z (by decide), h⟩
/-- kept.append([found, list(found)]) -/
theorem kept_step {H H1 : Hp} {kp f g e : Addr} {N : List Addr} {m : Nat} {ys : List V} {ds : List PyData} {Q : VK} (hK : KeptAt H kp N m) (hm : m ≤ 1000000) (s : Same H H1) (hf : H1 f = some (.lst ys)) (nf : H f = none) (pf : Paired (C2 H1) ys ds)
    (hg : H1 g = none) (he : upd H1 g (.lst ys) e = none)
    (q : ∀ H3 N', Gr N N' H → KeptAt H3 kp N' (m + 1) → Fr [kp] H H3 → H3 f = some (.lst ys) → f ≠ kp → (∀ b o, H1 b = some o → b ≠ kp → H3 b = some o) → Q .non H3) :
    rAppend (.ref kp) [.ref e] (upd (upd H1 g (.lst ys)) e (.lst [.ref f, .ref g])) Q := by
  obtain ⟨c1, c2⟩ := none_upd he
  have fg : f ≠ g := ne_of_none hf hg
  have fe : f ≠ e := ne_of_none hf c2
  have s2 : Same H1 (upd (upd H1 g (.lst ys)) e (.lst [.ref f, .ref g])) := (Same.new hg).trans (Same.new he)
  have t2 : Tups H1 (upd (upd H1 g (.lst ys)) e (.lst [.ref f, .ref g])) := fun b xs z => s2 _ _ z
  have e1 : upd (upd H1 g (.lst ys)) e (.lst [.ref f, .ref g]) f = some (.lst ys) := s2 _ _ hf
  obtain ⟨xs, h1, h2, N', h3, h4⟩ := hK.add (s.trans s2) upd_same e1 (by rw [upd_ne c1.symm]; exact upd_same) (L2.Paired.mapP pf fun _ _ => C2.keep t2) (L2.Paired.mapP pf fun _ _ => C2.keep t2) (free_same s c2) nf (free_same s hg)
  have fk : f ≠ kp := fun z => by
    obtain ⟨o, ho, _⟩ := hK.dom (b := kp) (by obtain ⟨es, _, _, rfl⟩ := hK; exact ownK_mem.mpr (.inl rfl))
    rw [z, ho] at nf; cases nf
  refine g_appendK h1 (by omega) (q _ N' (fun b hb => ?_) h4 ((Fr.same (s.trans s2)).trans (Fr.upd (List.mem_singleton.mpr rfl))) (by rw [upd_ne fk]; exact e1) fk (fun b o hb hn => by rw [upd_ne hn]; exact s2 _ _ hb))
  rcases (h3 b).mp hb with h | rfl | rfl | rfl
  · exact .inl h
  · exact .inr (free_same s c2)
  · exact .inr nf
  · exact .inr (free_same s hg)
theorem KeptAt.kpN {H : Hp} {kp : Addr} {N : List Addr} {m : Nat} (h : KeptAt H kp N m) : kp ∈ N := by
  obtain ⟨es, _, _, rfl⟩ := h; exact ownK_mem.mpr (.inl rfl)
theorem KeptAt.tups {H H' : Hp} {kp : Addr} {N : List Addr} {m : Nat} (h : KeptAt H kp N m) (f : Fr [kp] H H') : Tups H H' := fun t xs e => f t _ e fun z => by
  obtain ⟨o, ho, hn⟩ := h.dom h.kpN
  rw [List.mem_singleton] at z
  rw [z, ho] at e
  exact hn xs (Option.some.inj e)
theorem Gr.trans {O O1 O2 : List Addr} {H H1 : Hp} (g : Gr O O1 H) (g1 : Gr O1 O2 H1) (f : ∀ b, H1 b = none → H b = none) : Gr O O2 H := fun b hb => (g1 b hb).elim (g b) fun e => .inr (f b e)
theorem Gr.refl {O : List Addr} {H : Hp} : Gr O O H := fun _ => .inl
/-- free behind, free ahead -/
theorem KeptAt.free {H H' : Hp} {kp : Addr} {N N' : List Addr} {m m' : Nat} (h : KeptAt H kp N m) (h' : KeptAt H' kp N' m') (f : Fr [kp] H H') {b : Addr} (e : H' b = none) : H b = none := by
  refine f.free e fun z => ?_
  rw [List.mem_singleton] at z
  obtain ⟨o, ho, _⟩ := h'.dom h'.kpN
  rw [z, ho] at e; cases e
theorem keys_eq {α β : Type} {R : Int × α → Int × β → Prop} (h : ∀ e f, R e f → e.1 = f.1) : ∀ {l : List (Int × α)} {m : List (Int × β)}, Paired R l m → l.map (·.1) = m.map (·.1)
  | _, _, .nil => rfl
  | _, _, .cons f r => by rw [List.map_cons, List.map_cons, h _ _ f, keys_eq h r]
theorem DGet.kf {H : Hp} {d : Addr} {od : Obj} {kvs : List (Key × V)} {k : Key} (h : H d = some (.frz od (.dK kvs))) : DGet H d (kV k) (valV kvs k) := .inl ⟨kvs, k, .inr ⟨od, h⟩, rfl, rfl⟩

theorem g_callS {σ : L2.St} {H : Hp} {Q : VK} {sp : Sp} {E : L2.St → XK} {t : TA} (h : t σ H fun vs H1 => sp vs H1 Q (E σ)) : tCallS sp E t σ H Q := h
theorem g_iteIN {i : Int} {A B : Prop} (h : B) : if decide (V.int i = V.non) = true then A else B := by rw [if_neg (by simp)]; exact h
theorem g_iteRN {i : Addr} {A B : Prop} (h : B) : if decide (V.ref i = V.non) = true then A else B := by rw [if_neg (by simp)]; exact h
theorem g_iteNN' {A B : Prop} (h : A) : if decide (V.non = V.non) = true then A else B := by rw [if_pos (by simp)]; exact h
theorem g_seqcut {σ : L2.St} {H : Hp} {t u : TS} {D : Ends} (J : L2.St → Hp → Prop) (h : ∀ D' : Ends, D'.rt = D.rt → (∀ σ' H', J σ' H' → D'.nx σ' H') → t D' σ H) (k : ∀ σ' H', J σ' H' → u D σ' H') : tSeq t u D σ H := h { D with nx := u D } rfl k
/-! ### a loop over a dict's keys -/
theorem g_lock {σ : L2.St} {H : Hp} {D : Ends} {t : TS} {d : Addr} {u : HO} (e : H d = some u) (hm : Mut (some u)) (h : ∀ od, t ⟨fun σ' H' => H' d = some (.frz od u) ∧ D.nx σ' (upd H' d u), fun v H' => H' d = some (.frz od u) ∧ D.rt v (upd H' d u),
    fun σ' H' => H' d = some (.frz od u) ∧ D.bk σ' (upd H' d u), fun σ' H' => H' d = some (.frz od u) ∧ D.ct σ' (upd H' d u)⟩ σ (upd H d (.frz od u))) : tLock t D σ H := ⟨d, u, e, hm, h⟩
theorem g_iKeys {σ : L2.St} {H : Hp} {td : TE} {R : It → Hp → Prop} (h : td σ H fun x H1 => ∃ d o, x = V.ref d ∧ ((∃ kvs, H1 d = some (.frz o (.dK kvs)) ∧ R (Itk d o kvs) H1) ∨ ∃ kvs, H1 d = some (.frz o (.dT kvs)) ∧ R (Itkt d o kvs) H1)) : iKeys td σ H R := h
theorem for_keysO {d : Addr} {o : Obj} {kvs : List (Key × V)} {g : TG} {tb : TS} {D : Ends} {σ : L2.St} {H : Hp} (Pv : Nat → L2.St → Hp → Prop) (h0 : Pv 0 σ H)
    (hl : ∀ (i : Nat) (σ : L2.St) (H : Hp), i ≤ kvs.length → Pv i σ H → H d = some (.frz o (.dK kvs)))
    (hs : ∀ (i : Nat) (k : Key) (v : V) (σ : L2.St) (H : Hp), kvs[i]? = some (k, v) → Pv i σ H → g (kV k) σ H fun σ2 H2 => tb { nx := Pv (i + 1), rt := D.rt, bk := D.nx, ct := Pv (i + 1) } σ2 H2)
    (hd : ∀ (σ : L2.St) (H : Hp), Pv kvs.length σ H → D.nx σ H) :
    ∃ W : Nat → Nat → L2.St → Hp → Prop, (∃ m, W 0 m σ H) ∧ ∀ i m σ H, W i m σ H →
      ((Itk d o kvs).stop i H ∧ D.nx σ H) ∨ ((Itk d o kvs).go i H ∧ ∃ N : L2.St → Hp → Prop, (∀ σ' H', N σ' H' → ∃ m', m' < m ∧ W (i + 1) m' σ' H') ∧ ∀ x H', (Itk d o kvs).yld i H x H' → g x σ H' fun σ2 H2 => tb { nx := N, rt := D.rt, bk := D.nx, ct := N } σ2 H2) := by
  refine ⟨fun i m σ H => m = kvs.length - i ∧ i ≤ kvs.length ∧ Pv i σ H, ⟨_, rfl, Nat.zero_le _, h0⟩, ?_⟩
  rintro i m σ H ⟨rfl, hi, hp⟩
  by_cases c : i < kvs.length
  · refine .inr ⟨⟨hl i σ H hi hp, c⟩, Pv (i + 1), fun σ' H' h => ⟨kvs.length - (i + 1), by omega, rfl, c, h⟩, ?_⟩
    rintro x H' ⟨rfl, k, v, e, rfl⟩
    exact hs i k v σ _ e hp
  · have e : i = kvs.length := by omega
    rw [e] at hp hi
    refine .inl ⟨⟨hl _ σ H (Nat.le_refl _) hp, by omega⟩, hd _ _ hp⟩
/-- sorted as it is -/
theorem sorted_as {ys ks zs : List Int} (pm : ys.Perm ks) (srt : ys.Pairwise (· ≤ ·)) (hz : zs.Pairwise (· < ·)) (nk : ks.Nodup) (m : ∀ x, x ∈ zs ↔ x ∈ ks) : ys = zs := by
  have nz : zs.Nodup := hz.imp fun h => Int.ne_of_lt h
  have p2 : ys.Perm zs := pm.trans ((List.perm_ext_iff_of_nodup nk nz).mpr fun x => (m x).symm)
  exact perm_sorted p2 srt hz
end LW
/-! # A list's slice of all, with a step -/
namespace LW
open PySem PySem.Spec PyProof.Rows L2

theorem paired_at {α β : Type} {R : α → β → Prop} : ∀ {l : List α} {m : List β}, Paired R l m → ∀ i : Nat, (l[i]? = none ∧ m[i]? = none) ∨ ∃ x y, l[i]? = some x ∧ m[i]? = some y ∧ R x y
  | _, _, .nil, i => .inl ⟨rfl, rfl⟩
  | _, _, .cons (a := x) (b := y) f r, 0 => .inr ⟨x, y, rfl, rfl, f⟩
  | _, _, .cons f r, i + 1 => paired_at r i
theorem paired_pick {α β : Type} {R : α → β → Prop} {l : List α} {m : List β} (h : Paired R l m) : ∀ is : List Nat, Paired R (is.filterMap fun i => l[i]?) (is.filterMap fun i => m[i]?)
  | [] => .nil
  | i :: is => by
    rcases paired_at h i with ⟨e1, e2⟩ | ⟨x, y, e1, e2, r⟩
    · rw [List.filterMap_cons_none e1, List.filterMap_cons_none e2]; exact paired_pick h is
    · rw [List.filterMap_cons_some e1, List.filterMap_cons_some e2]; exact .cons r (paired_pick h is)
/-- o[::2] -/
def tSlS (K : PySem.W.Frag) (te : TE) (ts : TO) : TE := fun σ H Q => te σ H fun x H1 => ts σ H1 fun k H2 => ∃ a xs, x = .ref a ∧ SqL K H2 a xs ∧ k = some 2 ∧
  ∀ ys p, (∀ y ∈ ys, y ∈ xs) → ys.length ≤ xs.length → H2 p = none → Q (.ref p) (upd H2 p (.lst ys))
theorem pe_sliceS {X : Cx} {e st : Expr} {te : TE} {ts : TO} {pos p2 : Pos} (he : PE X e te) (hs : PO X (some st) ts) : PE X (.Subscript e (.Slice none none (some st) p2) pos) (tSlS X.K te ts) := by
  constructor
  intro pins s σ H Q I h
  refine Subscript_ (thn (he.run pins s σ H _ I h) fun v s1 hu => ?_)
  obtain ⟨x, H1, I1, r1, q1⟩ := hu
  refine wpAny_Slice ?_
  rw [evalPart_none]
  refine wpAny_pure (wpAny_pure ?_)
  refine thn (hs.run pins s1 σ H1 _ I1 q1) fun vs s2 hv => ?_
  obtain ⟨k, H2, I2, pk, a, xs, rfl, hx, rfl, q2⟩ := hv
  cases (show v = Value.ref a from r1)
  have I3 := I2.kept (h' := s2.heap.push { cls := Value.type "slice", data := .fields #[Value.none, Value.none, vs] }) (t' := s2.toks) fun b ob q => Heap.get?_push_of_some _ q
  obtain ⟨its, rv, ht, hz⟩ := I3.list hx
  refine tail_any (T := "list") (id := "list.__getitem__") (ops := [_, _]) (Heap.IsList.typeIs ht.isList) (Slot.lookup PySem.F.slot_list_getitem) ?_ rfl
  refine wpAny_getItem_list_slice ht.isList (Heap.IsSliceOf.new _ _ _ _) .none .none pk (by decide) ?_ (by rw [List.size_toArray, ← rv.length]; exact hz)
  have pick : slicePick its.toArray none none (some 2) = (List.filterMap (fun i => its[i]?) (sliceRange 0 its.length 2)).toArray := by
    unfold slicePick sliceBounds
    simp
  have len : (sliceRange 0 its.length 2).length ≤ its.length := by
    unfold sliceRange
    rw [List.length_map, List.length_range]
    split
    · split <;> omega
    · omega
  have pv := paired_pick rv (sliceRange 0 its.length 2)
  rw [pick]
  have l2 : (List.filterMap (fun i => xs[i]?) (sliceRange 0 its.length 2)).length ≤ xs.length := by
    have := List.length_filterMap_le (fun i => xs[i]?) (sliceRange 0 its.length 2)
    have := rv.length
    omega
  refine ⟨.ref _, upd H2 _ (.lst (List.filterMap (fun i => xs[i]?) (sliceRange 0 its.length 2))), I3.laid (fun b ob q => Heap.get?_push_of_some _ q) (Nat.le_refl _) ⟨Nat.le_trans l2 hz, _, 0, pv, Heap.get?_push_size _ rfl⟩, rfl, q2 _ _ (fun y hy => ?_) l2 (I3.hok.fresh (Nat.le_refl _))⟩
  obtain ⟨i, _, e⟩ := List.mem_filterMap.mp hy
  exact List.mem_of_getElem? e
theorem pe_sliceSK {X : Cx} {K : PySem.W.Frag} (hK : X.K = K) {e st : Expr} {te : TE} {ts : TO} {pos p2 : Pos} (he : PE X e te) (hs : PO X (some st) ts) : PE X (.Subscript e (.Slice none none (some st) p2) pos) (tSlS K te ts) := by
  subst hK; exact pe_sliceS he hs
theorem g_slS {K : PySem.W.Frag} {σ : L2.St} {H : Hp} {Q : VK} {te : TE} {ts : TO} (h : te σ H fun x H1 => ts σ H1 fun k H2 => ∃ a xs, x = V.ref a ∧ SqL K H2 a xs ∧ k = some 2 ∧
  ∀ ys p, (∀ y ∈ ys, y ∈ xs) → ys.length ≤ xs.length → H2 p = none → Q (.ref p) (upd H2 p (.lst ys))) : tSlS K te ts σ H Q := h
end LW
/-! # What is come to, of a chest as such -/
namespace LW
open PySem PySem.Spec PyProof.Rows L2

/-- what holds together in a chest -/
structure Good (S : Ch) : Prop where
  kb : (S.bs.map (·.1)).Pairwise (· < ·)
  lb : ∀ e ∈ S.bs, 0 ≤ e.1 ∧ e.1 < S.nb
  kp : (S.ps.map (·.1)).Pairwise (· < ·)
  lp : ∀ e ∈ S.ps, 0 ≤ e.1 ∧ e.1 < S.np
  sl : ∀ e ∈ S.bs, ∀ (i : Nat) (o : Int) (h : Bool), e.2.sl[i]? = some (some (o, h)) → S.get o ≠ none
  pr : ∀ e ∈ S.ps, S.get e.2.1 ≠ none ∧ S.get e.2.2.1 ≠ none ∧ S.get e.2.2.2 ≠ none
  zb : S.bs.length ≤ 60
  zp : S.ps.length ≤ 60
  zs : ∀ e ∈ S.bs, e.2.sl.length ≤ 9
  nn : 0 ≤ S.nb ∧ 0 ≤ S.np
/-- the slots told of a box, the first j -/
def tellB (b : Int) (sl : List (Option (Int × Bool))) (j : Nat) : List (Int × Int × Int × Bool) := (List.range j).filterMap fun i => match sl[i]? with
  | some (some x) => some (b, (i : Int), x.1, x.2)
  | _ => none
theorem tellB_some {b : Int} {sl : List (Option (Int × Bool))} {j : Nat} {x : Int × Bool} (h : sl[j]? = some (some x)) : tellB b sl (j + 1) = tellB b sl j ++ [(b, (j : Int), x.1, x.2)] := by
  unfold tellB
  rw [List.range_succ, List.filterMap_append]
  simp [h]
theorem tellB_none {b : Int} {sl : List (Option (Int × Bool))} {j : Nat} (h : sl[j]? = some none) : tellB b sl (j + 1) = tellB b sl j := by
  unfold tellB
  rw [List.range_succ, List.filterMap_append]
  simp [h]
theorem tellB_len (b : Int) (sl : List (Option (Int × Bool))) (j : Nat) : (tellB b sl j).length ≤ j := by
  unfold tellB
  have := List.length_filterMap_le (fun i => match sl[i]? with | some (some x) => some (b, (i : Int), x.1, x.2) | _ => none) (List.range j)
  rw [List.length_range] at this
  exact this
def Ch.tells (S : Ch) : List (Int × Int × Int × Bool) := S.bs.flatMap fun e => tellB e.1 e.2.sl e.2.sl.length
theorem mem_tells {S : Ch} {b s o : Int} {h : Bool} : (b, s, o, h) ∈ S.tells ↔ ∃ (y : Bx) (i : Nat), (b, y) ∈ S.bs ∧ s = (i : Int) ∧ y.sl[i]? = some (some (o, h)) := by
  unfold Ch.tells tellB
  simp only [List.mem_flatMap, List.mem_filterMap, List.mem_range]
  constructor
  · rintro ⟨e, he, i, hi, e1⟩
    split at e1
    · rename_i x hx
      cases e1
      exact ⟨e.2, i, he, rfl, by rw [hx]⟩
    · cases e1
  · rintro ⟨y, i, he, rfl, e1⟩
    refine ⟨(b, y), he, i, (List.getElem?_eq_some_iff.mp e1).1, ?_⟩
    simp only [e1]
inductive Why where
  | hand
  | slot (b s : Int)
  | pair (n : Int)
/-- come to -/
inductive Come (S : Ch) : Int → Prop where
  | hand {b : Int} {y : Bx} (m : (b, y) ∈ S.bs) (h : y.hand = true) : Come S b
  | slot {b s o : Int} (c : Come S b) (m : (b, s, o, true) ∈ S.tells) : Come S o
  | pair {n h k v : Int} (m : (n, (h, k, v)) ∈ S.ps) (c1 : Come S h) (c2 : Come S k) : Come S v
def RightWhy (S : Ch) (ks : List Int) (b : Int) : Why → Prop
  | .hand => ∃ y, (b, y) ∈ S.bs ∧ y.hand = true
  | .slot o s => o ∈ ks ∧ (o, s, b, true) ∈ S.tells
  | .pair n => ∃ h k, (n, (h, k, b)) ∈ S.ps ∧ h ∈ ks ∧ k ∈ ks
theorem RightWhy.mono {S : Ch} {ks ks' : List Int} {b : Int} {w : Why} (h : RightWhy S ks b w) (s : ∀ x, x ∈ ks → x ∈ ks') : RightWhy S ks' b w := by
  cases w with
  | hand => exact h
  | slot o i => exact ⟨s _ h.1, h.2⟩
  | pair n => obtain ⟨x, y, m, h1, h2⟩ := h; exact ⟨x, y, m, s _ h1, s _ h2⟩
abbrev keys (R : List (Int × Why)) : List Int := R.map (·.1)
theorem keys_app {R R' : List (Int × Why)} : keys (R ++ R') = keys R ++ keys R' := List.map_append
/-- each behind what it is come to by -/
inductive RightR (S : Ch) : List (Int × Why) → Prop where
  | nil : RightR S []
  | snoc {R : List (Int × Why)} {b : Int} {w : Why} (r : RightR S R) (n : b ∉ keys R) (h : RightWhy S (keys R) b w) : RightR S (R ++ [(b, w)])
structure Closed (S : Ch) (ks : List Int) : Prop where
  hd : ∀ b y, (b, y) ∈ S.bs → y.hand = true → b ∈ ks
  sl : ∀ b s o, b ∈ ks → (b, s, o, true) ∈ S.tells → o ∈ ks
  pr : ∀ n h k v, (n, (h, k, v)) ∈ S.ps → h ∈ ks → k ∈ ks → v ∈ ks
theorem RightR.come {S : Ch} {R : List (Int × Why)} (h : RightR S R) : ∀ b, b ∈ keys R → Come S b := by
  induction h with
  | nil => intro b m; exact nomatch m
  | @snoc R b w r n h ih =>
    intro c m
    rw [keys_app, List.mem_append] at m
    rcases m with m | m
    · exact ih c m
    · have m : c = b := by simpa using m
      subst m
      cases w with
      | hand => obtain ⟨y, m, e⟩ := h; exact .hand m e
      | slot o s => exact .slot (ih _ h.1) h.2
      | pair k => obtain ⟨x, y, m, h1, h2⟩ := h; exact .pair m (ih _ h1) (ih _ h2)
theorem Closed.come {S : Ch} {ks : List Int} (h : Closed S ks) {b : Int} (c : Come S b) : b ∈ ks := by
  induction c with
  | hand m e => exact h.hd _ _ m e
  | slot _ m ih => exact h.sl _ _ _ ih m
  | pair m _ _ i1 i2 => exact h.pr _ _ _ _ m i1 i2
theorem RightR.nodup {S : Ch} {R : List (Int × Why)} (h : RightR S R) : (keys R).Nodup := by
  induction h with
  | nil => exact List.nodup_nil
  | @snoc R b w r n h ih =>
    rw [keys_app]
    refine List.nodup_append.mpr ⟨ih, by simp, fun x hx y hy e => n ?_⟩
    have hy : y = b := by simpa using hy
    rw [← hy, ← e]; exact hx
theorem get_mem {S : Ch} {b : Int} : S.get b ≠ none ↔ b ∈ S.bs.map (·.1) := by
  unfold Ch.get
  rw [ne_eq, lk_none]; simp
/-- what is come to is there -/
theorem Come.there {S : Ch} (G : Good S) {b : Int} (c : Come S b) : b ∈ S.bs.map (·.1) := by
  cases c with
  | hand m e => exact List.mem_map.mpr ⟨_, m, rfl⟩
  | slot _ m =>
    obtain ⟨y, i, m1, _, m2⟩ := mem_tells.mp m
    exact get_mem.mp (G.sl _ m1 i _ _ m2)
  | pair m _ _ => exact get_mem.mp (G.pr _ m).2.2
/-- what these hold -/
def Ch.held (S : Ch) (ks : List Int) : List (Int × Why) :=
  (S.tells.filterMap fun e => if e.2.2.2 = true ∧ e.1 ∈ ks then some (e.2.2.1, Why.slot e.1 e.2.1) else none) ++ (S.ps.filterMap fun e => if e.2.1 ∈ ks ∧ e.2.2.1 ∈ ks then some (e.2.2.2, Why.pair e.1) else none)
theorem held_right {S : Ch} {ks : List Int} {b : Int} {w : Why} (h : (b, w) ∈ S.held ks) : RightWhy S ks b w := by
  unfold Ch.held at h
  rcases List.mem_append.mp h with h | h
  · obtain ⟨⟨o, s, x, g⟩, m, e⟩ := List.mem_filterMap.mp h
    dsimp only at e
    split at e
    · rename_i c; cases e
      obtain ⟨c1, c2⟩ := c
      subst c1
      exact ⟨c2, m⟩
    · cases e
  · obtain ⟨⟨n, x, k, v⟩, m, e⟩ := List.mem_filterMap.mp h
    dsimp only at e
    split at e
    · rename_i c; cases e
      exact ⟨x, k, m, c.1, c.2⟩
    · cases e
theorem held_slot {S : Ch} {ks : List Int} {b s o : Int} (m : (b, s, o, true) ∈ S.tells) (h : b ∈ ks) : (o, Why.slot b s) ∈ S.held ks :=
  List.mem_append_left _ (List.mem_filterMap.mpr ⟨_, m, by rw [if_pos ⟨rfl, h⟩]⟩)
theorem held_pair {S : Ch} {ks : List Int} {n h k v : Int} (m : (n, (h, k, v)) ∈ S.ps) (h1 : h ∈ ks) (h2 : k ∈ ks) : (v, Why.pair n) ∈ S.held ks :=
  List.mem_append_right _ (List.mem_filterMap.mpr ⟨_, m, by rw [if_pos ⟨h1, h2⟩]⟩)
/-- one row more, where its box is new -/
def addR (R : List (Int × Why)) (r : Int × Why) : List (Int × Why) := if r.1 ∈ keys R then R else R ++ [r]
theorem addR_sub {R : List (Int × Why)} {r : Int × Why} {x : Int} (h : x ∈ keys R) : x ∈ keys (addR R r) := by
  unfold addR
  split
  · exact h
  · rw [keys_app]; exact List.mem_append_left _ h
theorem addR_in {R : List (Int × Why)} {r : Int × Why} : r.1 ∈ keys (addR R r) := by
  unfold addR
  split
  · assumption
  · rw [keys_app]; exact List.mem_append_right _ (by simp)
theorem addR_right {S : Ch} {R : List (Int × Why)} {r : Int × Why} (h : RightR S R) (w : RightWhy S (keys R) r.1 r.2) : RightR S (addR R r) := by
  unfold addR
  split
  · exact h
  · rename_i c; exact .snoc h c w
theorem right_len {S : Ch} (G : Good S) {R : List (Int × Why)} (h : RightR S R) : R.length ≤ 60 := by
  have := nodup_len h.nodup (ys := S.bs.map (·.1)) fun x m => (h.come x m).there G
  rw [List.length_map, List.length_map] at this
  exact Nat.le_trans this G.zb
def Ch.next (S : Ch) (R : List (Int × Why)) : List (Int × Why) := (S.held (keys R)).filter fun r => decide (r.1 ∉ keys R)
def Ch.handR (S : Ch) : List (Int × Why) := (S.bs.filter fun e => e.2.hand).map fun e => (e.1, Why.hand)
theorem next_closed {S : Ch} {R : List (Int × Why)} (h : S.next R = []) (hd : ∀ b y, (b, y) ∈ S.bs → y.hand = true → b ∈ keys R) : Closed S (keys R) := by
  have all : ∀ r ∈ S.held (keys R), r.1 ∈ keys R := fun r m => by
    have := List.filter_eq_nil_iff.mp h r m
    simpa using this
  exact ⟨hd, fun b s o h m => all _ (held_slot m h), fun n x k v m h1 h2 => all _ (held_pair m h1 h2)⟩
end LW
/-! # Comprehensions with two for -/
namespace LW
open PySem PySem.Spec PyProof.Rows L2
theorem g_lc2 {σ : L2.St} {H : Hp} {Q : VK} {wi wi1 : TI} {g g1 : TG} {tt tt1 : TT} {te : TE} {vs vs1 : List Nat}
    (h : wi σ H fun J H1 => ∀ D, H1 D = none → ∃ W : Nat → Nat → Hp → Prop, (∃ m, W 0 m (upd H1 D (.lst []))) ∧ ∀ i m H, W i m H →
      (J.stop i H ∧ Q (.ref D) H) ∨ (J.go i H ∧ ∃ Nx : Hp → Prop, (∀ H', Nx H' → ∃ m', m' < m ∧ W (i + 1) m' H') ∧ ∀ x H', J.yld i H x H' → g x (wipe σ vs) H' fun σ2 H2 => wipe σ2 vs = wipe σ vs ∧ tt σ2 H2 fun b H3 =>
        if b = true then wi1 σ2 H3 fun J1 H4 => ∃ W1 : Nat → Nat → Hp → Prop, (∃ m, W1 0 m H4) ∧ ∀ j k H, W1 j k H →
          (J1.stop j H ∧ Nx H) ∨ (J1.go j H ∧ ∃ Nx1 : Hp → Prop, (∀ H', Nx1 H' → ∃ k', k' < k ∧ W1 (j + 1) k' H') ∧ ∀ x H', J1.yld j H x H' → g1 x (wipe σ2 vs1) H' fun σ3 H5 => wipe σ3 vs1 = wipe σ2 vs1 ∧ tt1 σ3 H5 fun b H6 =>
            if b = true then te σ3 H6 fun y H7 => ∃ acc, H7 D = some (.lst acc) ∧ acc.length < sizeLine ∧ Nx1 (upd H7 D (.lst (acc ++ [y]))) else Nx1 H6)
        else Nx H3)) : tLc2 wi g tt wi1 g1 tt1 te vs vs1 σ H Q := h
theorem lc2_list {K : PySem.W.Frag} {a : Addr} {xs : List V} {wi1 : TI} {g g1 : TG} {tt tt1 : TT} {te : TE} {vs vs1 : List Nat} {σ : L2.St} {H1 : Hp} {D : Addr} {Qd : Hp → Prop} (Pv : Nat → Hp → Prop) (h0 : Pv 0 (upd H1 D (.lst [])))
    (hl : ∀ i H, i ≤ xs.length → Pv i H → SqL K H a xs)
    (hs : ∀ i x H, xs[i]? = some x → Pv i H → g x (wipe σ vs) H fun σ2 H2 => wipe σ2 vs = wipe σ vs ∧ tt σ2 H2 fun b H3 =>
        if b = true then wi1 σ2 H3 fun J1 H4 => ∃ W1 : Nat → Nat → Hp → Prop, (∃ m, W1 0 m H4) ∧ ∀ j k H, W1 j k H →
          (J1.stop j H ∧ Pv (i + 1) H) ∨ (J1.go j H ∧ ∃ Nx1 : Hp → Prop, (∀ H', Nx1 H' → ∃ k', k' < k ∧ W1 (j + 1) k' H') ∧ ∀ x H', J1.yld j H x H' → g1 x (wipe σ2 vs1) H' fun σ3 H5 => wipe σ3 vs1 = wipe σ2 vs1 ∧ tt1 σ3 H5 fun b H6 =>
            if b = true then te σ3 H6 fun y H7 => ∃ acc, H7 D = some (.lst acc) ∧ acc.length < sizeLine ∧ Nx1 (upd H7 D (.lst (acc ++ [y]))) else Nx1 H6)
        else Pv (i + 1) H3)
    (hd : ∀ H, Pv xs.length H → Qd H) :
    ∃ W : Nat → Nat → Hp → Prop, (∃ m, W 0 m (upd H1 D (.lst []))) ∧ ∀ i m H, W i m H →
      ((Itl K a).stop i H ∧ Qd H) ∨ ((Itl K a).go i H ∧ ∃ Nx : Hp → Prop, (∀ H', Nx H' → ∃ m', m' < m ∧ W (i + 1) m' H') ∧ ∀ x H', (Itl K a).yld i H x H' → g x (wipe σ vs) H' fun σ2 H2 => wipe σ2 vs = wipe σ vs ∧ tt σ2 H2 fun b H3 =>
        if b = true then wi1 σ2 H3 fun J1 H4 => ∃ W1 : Nat → Nat → Hp → Prop, (∃ m, W1 0 m H4) ∧ ∀ j k H, W1 j k H →
          (J1.stop j H ∧ Nx H) ∨ (J1.go j H ∧ ∃ Nx1 : Hp → Prop, (∀ H', Nx1 H' → ∃ k', k' < k ∧ W1 (j + 1) k' H') ∧ ∀ x H', J1.yld j H x H' → g1 x (wipe σ2 vs1) H' fun σ3 H5 => wipe σ3 vs1 = wipe σ2 vs1 ∧ tt1 σ3 H5 fun b H6 =>
            if b = true then te σ3 H6 fun y H7 => ∃ acc, H7 D = some (.lst acc) ∧ acc.length < sizeLine ∧ Nx1 (upd H7 D (.lst (acc ++ [y]))) else Nx1 H6)
        else Nx H3) := by
  refine ⟨fun i m H => m = xs.length - i ∧ i ≤ xs.length ∧ Pv i H, ⟨_, rfl, Nat.zero_le _, h0⟩, ?_⟩
  rintro i m H ⟨rfl, hi, hp⟩
  have hq := hl i H hi hp
  by_cases c : i < xs.length
  · refine .inr ⟨⟨xs, xs[i], hq, List.getElem?_eq_getElem c⟩, Pv (i + 1), fun H' h => ⟨xs.length - (i + 1), by omega, rfl, c, h⟩, ?_⟩
    rintro x H' ⟨rfl, e⟩
    exact hs i x _ (e xs hq) hp
  · have e : i = xs.length := by omega
    refine .inl ⟨⟨xs, hq, by omega⟩, hd _ (by rw [← e]; exact hp)⟩
theorem in_enum {K : PySem.W.Frag} {b : Addr} {ys : List V} {g1 : TG} {tt1 : TT} {te : TE} {vs1 : List Nat} {σ2 : L2.St} {H4 : Hp} {D : Addr} {Nx : Hp → Prop} (Pw : Nat → Hp → Prop) (h0 : Pw 0 H4)
    (hl : ∀ j H, j ≤ ys.length → Pw j H → SqL K H b ys)
    (hs : ∀ j y T H, ys[j]? = some y → Pw j H → H T = none → g1 (.ref T) (wipe σ2 vs1) (upd H T (.tup [.int (j : Int), y])) fun σ3 H5 => wipe σ3 vs1 = wipe σ2 vs1 ∧ tt1 σ3 H5 fun b H6 =>
            if b = true then te σ3 H6 fun y H7 => ∃ acc, H7 D = some (.lst acc) ∧ acc.length < sizeLine ∧ Pw (j + 1) (upd H7 D (.lst (acc ++ [y]))) else Pw (j + 1) H6)
    (hd : ∀ H, Pw ys.length H → Nx H) :
    ∃ W1 : Nat → Nat → Hp → Prop, (∃ m, W1 0 m H4) ∧ ∀ j k H, W1 j k H →
          ((Ite K b).stop j H ∧ Nx H) ∨ ((Ite K b).go j H ∧ ∃ Nx1 : Hp → Prop, (∀ H', Nx1 H' → ∃ k', k' < k ∧ W1 (j + 1) k' H') ∧ ∀ x H', (Ite K b).yld j H x H' → g1 x (wipe σ2 vs1) H' fun σ3 H5 => wipe σ3 vs1 = wipe σ2 vs1 ∧ tt1 σ3 H5 fun b H6 =>
            if b = true then te σ3 H6 fun y H7 => ∃ acc, H7 D = some (.lst acc) ∧ acc.length < sizeLine ∧ Nx1 (upd H7 D (.lst (acc ++ [y]))) else Nx1 H6) := by
  refine ⟨fun j k H => k = ys.length - j ∧ j ≤ ys.length ∧ Pw j H, ⟨_, rfl, Nat.zero_le _, h0⟩, ?_⟩
  rintro j k H ⟨rfl, hj, hp⟩
  have hq := hl j H hj hp
  by_cases c : j < ys.length
  · refine .inr ⟨⟨ys, ys[j], hq, List.getElem?_eq_getElem c⟩, Pw (j + 1), fun H' h => ⟨ys.length - (j + 1), by omega, rfl, c, h⟩, ?_⟩
    rintro x H' ⟨T, y, rfl, hT, rfl, e⟩
    exact hs j y T H (e ys hq) hp hT
  · have e : j = ys.length := by omega
    refine .inl ⟨⟨ys, hq, by omega⟩, hd _ (by rw [← e]; exact hp)⟩
/-- a tuple taken apart -/
theorem g_gTup {K : PySem.W.Frag} {n : Nat} {t : TGs} {T : Addr} {xs : List V} {σ : L2.St} {H : Hp} {Q : L2.St → Hp → Prop} (e : H T = some (.tup xs)) (l : xs.length = n) (h : t xs σ H Q) : gTup K n t (.ref T) σ H Q := ⟨T, xs, rfl, SqT.of e, l, h⟩
theorem g_gCons {t : TG} {u : TGs} {v : V} {r : List V} {σ : L2.St} {H : Hp} {Q : L2.St → Hp → Prop} (h : t v σ H fun σ' H' => u r σ' H' Q) : gCons t u (v :: r) σ H Q := ⟨v, r, rfl, h⟩
theorem g_gNil {σ : L2.St} {H : Hp} {Q : L2.St → Hp → Prop} (h : Q σ H) : gNil [] σ H Q := ⟨rfl, h⟩
theorem g_iEnum {K : PySem.W.Frag} {ta : TA} {σ : L2.St} {H : Hp} {R : It → Hp → Prop} (h : ta σ H fun vs H1 => ∃ a xs, vs = [V.ref a] ∧ SqL K H1 a xs ∧ R (Ite K a) H1) : iEnum K ta σ H R := h
theorem g_dsetd {td ty tx : TE} {σ : L2.St} {H : Hp} {Q : VK} (h : td σ H fun x H1 => ∃ a, x = .ref a ∧ IsD H1 a ∧ ty σ H1 fun y H2 => tx σ H2 fun z H3 => ∃ (kvs : List (Key × V)) (k : Key), H3 a = some (.dK kvs) ∧ y = kV k ∧ kvs.length < sizeLine ∧ (∀ v, valV kvs k = some v → Q v H3) ∧ (valV kvs k = none → Q z (upd H3 a (.dK (putK kvs k z))))) : tDSetd td ty tx σ H Q := h
theorem g_listItems {te : TE} {σ : L2.St} {H : Hp} {Q : VK} (h : te σ H fun x H1 => LiI.rItemsL x H1 Q) : LiI.tListItems te σ H Q := h
theorem g_iteRN' {i : Addr} {A B : Prop} (h : A) : if (!decide (V.ref i = V.non)) = true then A else B := by rw [if_pos (by simp)]; exact h
theorem g_iteNN2 {A B : Prop} (h : B) : if (!decide (V.non = V.non)) = true then A else B := by rw [if_neg (by simp)]; exact h
end LW
/-! # What holds together in a chest holds on -/
namespace LW
open PySem PySem.Spec PyProof.Rows L2
section
variable {S : Ch} {b s o n : Int}
theorem ok_make (z0 : 0 ≤ n) (z9 : n ≤ 9) (h : S.bs.length < 60) : (S.step (.make n)).1 = "" := by
  rw [st_make, if_neg (by omega), if_neg (by omega)]
theorem ok_put {x : Bx} {g : Bool} (e : S.get b = some x) (h0 : 0 ≤ s) (h1 : s < (x.sl.length : Int)) (eo : S.get o ≠ none) : (S.step (.put b s o g)).1 = "" := by
  cases h : S.get o with
  | none => exact absurd h eo
  | some y => rw [st_put3 e (by omega) h]
theorem ok_empty {x : Bx} (e : S.get b = some x) (h0 : 0 ≤ s) (h1 : s < (x.sl.length : Int)) : (S.step (.empty b s)).1 = "" := by rw [st_empty2 e (by omega)]
theorem ok_take (e : S.get b ≠ none) : (S.step (.take b)).1 = "" := by
  cases h : S.get b with
  | none => exact absurd h e
  | some y => rw [st_take1 h]
theorem ok_drop {x : Bx} (e : S.get b = some x) (h : x.hand = true) : (S.step (.drop b)).1 = "" := by rw [st_drop2 e (by rw [h]; decide)]
theorem ok_pair {h k : Int} (e1 : S.get h ≠ none) (e2 : S.get k ≠ none) (e3 : S.get o ≠ none) (l : S.ps.length < 60) : (S.step (.pair h k o)).1 = "" := by
  rw [st_pair, if_neg (fun z => z.elim e1 fun z => z.elim e2 e3), if_neg (by omega)]
theorem ok_unpair (e : S.ps.lookup n ≠ none) : (S.step (.unpair n)).1 = "" := by
  cases h : S.ps.lookup n with
  | none => exact absurd h e
  | some y => rw [st_unpair1 h]
theorem ok_will {ds : List Deed} (e : S.get b ≠ none) (l : ds.length ≤ 9) (g : ds.any Deed.isNeg = false) : (S.step (.will b ds)).1 = "" := by
  cases h : S.get b with
  | none => exact absurd h e
  | some y => rw [st_will2 h (fun z => z.elim (fun z => by omega) fun z => by rw [g] at z; cases z)]
end
theorem Good.empty : Good ⟨0, 0, [], []⟩ :=
  ⟨.nil, fun e m => (nomatch m), .nil, fun e m => (nomatch m), fun e m => (nomatch m), fun e m => (nomatch m), Nat.zero_le _, Nat.zero_le _, fun e m => (nomatch m), ⟨Int.le_refl _, Int.le_refl _⟩⟩
theorem get_box_ne {S : Ch} {b m : Int} {x y : Bx} (e : S.get b = some x) : (S.box b y).get m ≠ none ↔ S.get m ≠ none := by
  rw [sget_box e]
  by_cases c : m = b
  · rw [if_pos c, c, e]; simp
  · rw [if_neg c]
theorem Good.box {S : Ch} (G : Good S) {b : Int} {x y : Bx} (e : S.get b = some x) (l : y.sl.length ≤ 9) (hs : ∀ (i : Nat) (o : Int) (h : Bool), y.sl[i]? = some (some (o, h)) → S.get o ≠ none) : Good (S.box b y) := by
  have kk : (S.box b y).bs.map (·.1) = S.bs.map (·.1) := setB_keys S.bs b fun _ => y
  refine ⟨by rw [kk]; exact G.kb, fun e0 m => ?_, G.kp, G.lp, fun e0 m i o h z => ?_, fun e0 m => ?_, ?_, G.zp, fun e0 m => ?_, G.nn⟩
  · obtain ⟨e1, m1, ⟨q1, q2⟩ | ⟨q1, q2⟩⟩ := setB_mem (show e0 ∈ setB S.bs b fun _ => y from m)
    · exact G.lb (e0.1, e1) m1
    · exact G.lb (e0.1, e1) m1
  · rw [get_box_ne e]
    obtain ⟨e1, m1, ⟨q1, q2⟩ | ⟨q1, q2⟩⟩ := setB_mem (show e0 ∈ setB S.bs b fun _ => y from m)
    · rw [q2] at z; exact hs i o h z
    · rw [q2] at z; exact G.sl _ m1 i o h z
  · rw [get_box_ne e, get_box_ne e, get_box_ne e]
    exact G.pr e0 m
  · show (setB S.bs b fun _ => y).length ≤ 60
    rw [setB_len]; exact G.zb
  · obtain ⟨e1, m1, ⟨q1, q2⟩ | ⟨q1, q2⟩⟩ := setB_mem (show e0 ∈ setB S.bs b fun _ => y from m)
    · rw [q2]; exact l
    · rw [q2]; exact G.zs _ m1
theorem Good.mem {S : Ch} {b : Int} {x : Bx} (e : S.get b = some x) : (b, x) ∈ S.bs := lk_mem e
theorem Good.get {S : Ch} (G : Good S) {b : Int} {x : Bx} (m : (b, x) ∈ S.bs) : S.get b = some x := lk_of_mem G.kb m
theorem Good.step {S : Ch} (G : Good S) {d : LD} (h : (S.step d).1 = "") : Good (S.step d).2.2 := by
  cases d with
  | make n =>
    rw [st_make] at h ⊢
    by_cases c : n < 0 ∨ 9 < n
    · rw [if_pos c]; exact G
    · rw [if_neg c]
      by_cases c2 : S.bs.length = 60
      · rw [if_pos c2]; exact G
      · rw [if_neg c2]
        have hg : ∀ m, S.get m ≠ none → (S.made n).get m ≠ none := fun m z => by
          rw [get_mem] at z ⊢
          show m ∈ (S.bs ++ [(S.nb, (⟨List.replicate n.toNat none, true, []⟩ : Bx))]).map (·.1)
          rw [List.map_append]; exact List.mem_append_left _ z
        refine ⟨?_, fun e m => ?_, G.kp, G.lp, fun e m i o g z => ?_, fun e m => ⟨hg _ (G.pr e m).1, hg _ (G.pr e m).2.1, hg _ (G.pr e m).2.2⟩, ?_, G.zp, fun e m => ?_, ⟨by show 0 ≤ S.nb + 1; have := G.nn.1; omega, G.nn.2⟩⟩
        · show ((S.bs ++ [(S.nb, (⟨List.replicate n.toNat none, true, []⟩ : Bx))]).map (·.1)).Pairwise (· < ·)
          rw [List.map_append]
          exact pw_snoc G.kb fun y hy => by
            obtain ⟨e, he, rfl⟩ := List.mem_map.mp hy
            exact (G.lb e he).2
        · rcases List.mem_append.mp (show e ∈ S.bs ++ [_] from m) with m | m
          · have := G.lb e m
            exact ⟨this.1, by show e.1 < S.nb + 1; omega⟩
          · rw [List.mem_singleton.mp m]
            exact ⟨G.nn.1, by show S.nb < S.nb + 1; omega⟩
        · rcases List.mem_append.mp (show e ∈ S.bs ++ [_] from m) with m | m
          · exact hg _ (G.sl e m i o g z)
          · rw [List.mem_singleton.mp m] at z
            have := List.eq_of_mem_replicate (List.mem_of_getElem? z)
            cases this
        · show (S.bs ++ [_]).length ≤ 60
          have := G.zb
          rw [List.length_append, List.length_singleton]; omega
        · rcases List.mem_append.mp (show e ∈ S.bs ++ [_] from m) with m | m
          · exact G.zs e m
          · rw [List.mem_singleton.mp m]
            show (List.replicate n.toNat none).length ≤ 9
            rw [List.length_replicate]; omega
  | put b s o g =>
    cases e : S.get b with
    | none => rw [st_put0 e]; exact G
    | some x =>
      by_cases c : s < 0 ∨ (x.sl.length : Int) ≤ s
      · rw [st_put1 e c]; exact G
      · cases eo : S.get o with
        | none => rw [st_put2 e c eo]; exact G
        | some y =>
          rw [st_put3 e c eo]
          refine G.box e (by rw [List.length_set]; exact G.zs _ (lk_mem e)) fun i o' h' z => ?_
          by_cases ci : i = s.toNat
          · rw [ci, List.getElem?_set_self (by omega)] at z
            cases z; rw [eo]; exact fun z => nomatch z
          · rw [List.getElem?_set_ne (Ne.symm ci)] at z
            exact G.sl _ (lk_mem e) i o' h' z
  | empty b s =>
    cases e : S.get b with
    | none => rw [st_empty0 e]; exact G
    | some x =>
      by_cases c : s < 0 ∨ (x.sl.length : Int) ≤ s
      · rw [st_empty1 e c]; exact G
      · rw [st_empty2 e c]
        refine G.box e (by rw [List.length_set]; exact G.zs _ (lk_mem e)) fun i o' h' z => ?_
        by_cases ci : i = s.toNat
        · rw [ci, List.getElem?_set_self (by omega)] at z; cases z
        · rw [List.getElem?_set_ne (Ne.symm ci)] at z
          exact G.sl _ (lk_mem e) i o' h' z
  | take b =>
    cases e : S.get b with
    | none => rw [st_take0 e]; exact G
    | some x => rw [st_take1 e]; exact G.box e (G.zs _ (lk_mem e)) (G.sl _ (lk_mem e))
  | drop b =>
    cases e : S.get b with
    | none => rw [st_drop0 e]; exact G
    | some x =>
      by_cases c : x.hand = false
      · rw [st_drop1 e c]; exact G
      · rw [st_drop2 e c]; exact G.box e (G.zs _ (lk_mem e)) (G.sl _ (lk_mem e))
  | pair x k o =>
    rw [st_pair] at h ⊢
    by_cases c : S.get x = none ∨ S.get k = none ∨ S.get o = none
    · rw [if_pos c]; exact G
    · rw [if_neg c]
      by_cases c2 : S.ps.length = 60
      · rw [if_pos c2]; exact G
      · rw [if_neg c2]
        refine ⟨G.kb, G.lb, ?_, fun e m => ?_, G.sl, fun e m => ?_, G.zb, ?_, G.zs, ⟨G.nn.1, by show 0 ≤ S.np + 1; have := G.nn.2; omega⟩⟩
        · show ((S.ps ++ [(S.np, (x, k, o))]).map (·.1)).Pairwise (· < ·)
          rw [List.map_append]
          exact pw_snoc G.kp fun y hy => by
            obtain ⟨e, he, rfl⟩ := List.mem_map.mp hy
            exact (G.lp e he).2
        · rcases List.mem_append.mp (show e ∈ S.ps ++ [_] from m) with m | m
          · have := G.lp e m
            exact ⟨this.1, by show e.1 < S.np + 1; omega⟩
          · rw [List.mem_singleton.mp m]
            exact ⟨G.nn.2, by show S.np < S.np + 1; omega⟩
        · rcases List.mem_append.mp (show e ∈ S.ps ++ [_] from m) with m | m
          · exact G.pr e m
          · rw [List.mem_singleton.mp m]
            exact ⟨fun z => c (.inl z), fun z => c (.inr (.inl z)), fun z => c (.inr (.inr z))⟩
        · show (S.ps ++ [_]).length ≤ 60
          have := G.zp
          rw [List.length_append, List.length_singleton]; omega
  | unpair n =>
    cases e : S.ps.lookup n with
    | none => rw [st_unpair0 e]; exact G
    | some y =>
      rw [st_unpair1 e]
      exact ⟨G.kb, G.lb, G.kp.sublist (List.Sublist.map _ List.filter_sublist), fun e m => G.lp e (List.mem_filter.mp m).1, G.sl, fun e m => G.pr e (List.mem_filter.mp m).1, G.zb, Nat.le_trans (List.length_filter_le _ _) G.zp, G.zs, G.nn⟩
  | will b ds =>
    cases e : S.get b with
    | none => rw [st_will0 e]; exact G
    | some x =>
      by_cases c : 9 < ds.length ∨ ds.any Deed.isNeg = true
      · rw [st_will1 e c]; exact G
      · rw [st_will2 e c]; exact G.box e (G.zs _ (lk_mem e)) (G.sl _ (lk_mem e))
end LW
/-! # list(d.values()) -/
namespace LW
open PySem PySem.Spec PyProof.Rows L2

def tListVals (te : TE) : TE := fun σ H Q => te σ H fun x H1 => ∃ (d : Addr) (kvs : List (Key × V)), x = .ref d ∧ H1 d = some (.dK kvs) ∧ ∀ q, H1 q = none → Q (.ref q) (upd H1 q (.lst (kvs.map (·.2))))
theorem vals_of {kvs : List (Key × V)} {vs : List (Key × Value)} (h : KV kvs vs) : L2.Vals (kvs.map (·.2)) (vs.map (·.2)) := by
  induction h with
  | nil => exact .nil
  | cons f r ih => exact .cons f.2 ih
theorem pe_listVals {X : Cx} {e : Expr} {te : TE} {p apos cpos pos : Pos} (hc : X.calm = true) (he : PE X e te) (hg : Gl X "list") (hm : X.mg "list" = none) (hv : bootBuiltins "list" = some (.type "list"))
    (hbase : attributeBase e "values" X.env (eval e X.env) = eval e X.env := by rfl) (hline : (apos.endLine == cpos.line) = true := by rfl)
    (hs : starEach [.Call (.Attribute e "values" apos) [] [] cpos] X.env = (false, eval (.Call (.Attribute e "values" apos) [] [] cpos) X.env) :: starEach [] X.env := by rfl) :
    PE X (.Call (.Name "list" p) [.Call (.Attribute e "values" apos) [] [] cpos] [] pos) (tListVals te) := by
  constructor
  intro pins s σ H Q I hq
  refine wpAny_Call_Name_kw (ld_blt I hg hm hv (PyProof.Rows.callWith_type1 ?_ hs rfl) (by decide) (by decide))
  rw [hs]
  refine Calls.spliced_cons (wpAny_Call_method hbase rfl hline PySem.F.plainAttrs_dict PySem.F.slot_dict_values PySem.F.type_dict_values (thn (he.run pins s σ H _ I hq) fun u s1 hu => ?_))
  obtain ⟨x, H1, I1, rx, d, kvs, rfl, hd, q⟩ := hu
  cases (show u = Value.ref d from rx)
  obtain ⟨hz, hs0, vs, kv, hdo⟩ := I1.hok d (.dK kvs) hd
  have lk := kv.length
  have I2 := I1.kept (h' := s1.heap.push { cls := Value.type "dict_values", data := .fields #[Value.ref d] }) (t' := s1.toks) fun b ob q => Heap.get?_push_of_some _ q
  refine ⟨hdo.typeIs, hdo.mapOf.noDict, ?_⟩
  refine method_meetsIn PySem.F.slot_dict_values PySem.F.entry_dict_values rfl (PySem.evalArgs_none ⟨rfl, hdo.typeIs, PySem.F.args_dict_values_1 (.ref d), _, meets_dict_values (mixKind X.prog X.w) d hs0, ⟨vs, hdo⟩, ?_⟩)
  refine Calls.spliced_nil ?_
  obtain ⟨es, ep, hraw, hsz, hent⟩ := hdo.raw
  obtain ⟨o, ho1, ho2, ho3⟩ := hraw
  refine W.kdl_call (KdlSrc.rawValues (es := es) (ep := ep) (d := d)) (Cx.Ok.hd I1.ok hc) ⟨⟨{ cls := Value.type "dict_values", data := .fields #[Value.ref d] }, Heap.get?_push_size s1.heap rfl, rfl, rfl⟩, o, Heap.get?_push_of_some _ ho1, ho2, ho3⟩ (by omega) fun h' tk acc c hk hl hit => ?_
  have eacc : acc.toList = vs.map (·.2) := by
    refine List.ext_getElem? fun i => ?_
    rw [List.getElem?_map]
    by_cases hi : i < acc.size
    · have e1 : acc.toList[i]? = some acc[i] := by simp [hi]
      obtain ⟨hi2, e2⟩ := hit.2 i acc[i] (by simp [hi])
      have hi3 : i < vs.length := by omega
      have e3 : vs[i]? = some vs[i] := List.getElem?_eq_getElem hi3
      have := (hent i hi2 vs[i].1 vs[i].2 e3).2
      rw [e1, e3, e2, this]; rfl
    · have := hit.1
      rw [List.getElem?_eq_none (by simp; omega), List.getElem?_eq_none (by omega)]; rfl
  refine ⟨.ref _, upd H1 _ (.lst (kvs.map (·.2))), I2.laid hk (Nat.le_refl _) ⟨by rw [List.length_map]; exact hz, acc.toList, c, by rw [eacc]; exact vals_of kv, by simpa using hl⟩, rfl, q _ (I2.hok.fresh (Nat.le_refl _))⟩
theorem g_listVals {te : TE} {σ : L2.St} {H : Hp} {Q : VK} (h : te σ H fun x H1 => ∃ (d : Addr) (kvs : List (Key × V)), x = .ref d ∧ H1 d = some (.dK kvs) ∧ ∀ q, H1 q = none → Q (.ref q) (upd H1 q (.lst (kvs.map (·.2))))) : tListVals te σ H Q := h
theorem g_lockE {t : TE} {σ : L2.St} {H : Hp} {Q : VK} {d : Addr} {u : HO} (e : H d = some u) (hm : Mut (some u)) (h : ∀ od, t σ (upd H d (.frz od u)) fun v H' => H' d = some (.frz od u) ∧ Q v (upd H' d u)) : tLockE t σ H Q := ⟨d, u, e, hm, h⟩
theorem lc_keysO {d : Addr} {o : Obj} {kvs : List (Key × V)} {g : TG} {tt : TT} {te : TE} {vs : List Nat} {σ : L2.St} {H1 : Hp} {D : Addr} {Qd : Hp → Prop} (Pv : Nat → Hp → Prop) (h0 : Pv 0 (upd H1 D (.lst [])))
    (hl : ∀ i H, i ≤ kvs.length → Pv i H → H d = some (.frz o (.dK kvs)))
    (hs : ∀ i k v H, kvs[i]? = some (k, v) → Pv i H → g (kV k) (wipe σ vs) H fun σ2 H2 => wipe σ2 vs = wipe σ vs ∧ tt σ2 H2 fun b H3 =>
      if b = true then te σ2 H3 fun y H4 => ∃ acc, H4 D = some (.lst acc) ∧ acc.length < sizeLine ∧ Pv (i + 1) (upd H4 D (.lst (acc ++ [y]))) else Pv (i + 1) H3)
    (hd : ∀ H, Pv kvs.length H → Qd H) :
    ∃ W : Nat → Nat → Hp → Prop, (∃ m, W 0 m (upd H1 D (.lst []))) ∧ ∀ i m H, W i m H →
      ((Itk d o kvs).stop i H ∧ Qd H) ∨ ((Itk d o kvs).go i H ∧ ∃ Nx : Hp → Prop, (∀ H', Nx H' → ∃ m', m' < m ∧ W (i + 1) m' H') ∧ ∀ x H', (Itk d o kvs).yld i H x H' → g x (wipe σ vs) H' fun σ2 H2 => wipe σ2 vs = wipe σ vs ∧ tt σ2 H2 fun b H3 =>
        if b = true then te σ2 H3 fun y H4 => ∃ acc, H4 D = some (.lst acc) ∧ acc.length < sizeLine ∧ Nx (upd H4 D (.lst (acc ++ [y]))) else Nx H3) := by
  refine ⟨fun i m H => m = kvs.length - i ∧ i ≤ kvs.length ∧ Pv i H, ⟨_, rfl, Nat.zero_le _, h0⟩, ?_⟩
  rintro i m H ⟨rfl, hi, hp⟩
  by_cases c : i < kvs.length
  · refine .inr ⟨⟨hl i H hi hp, c⟩, Pv (i + 1), fun H' h => ⟨kvs.length - (i + 1), by omega, rfl, c, h⟩, ?_⟩
    rintro x H' ⟨rfl, k, v, e, rfl⟩
    exact hs i k v _ e hp
  · have e : i = kvs.length := by omega
    refine .inl ⟨⟨hl i H hi hp, by omega⟩, hd _ (by rw [← e]; exact hp)⟩
end LW
/-! # Dict comprehensions: one that is kept under a name, one over a list; a list's pop, extend, remove -/
namespace LW
open PySem PySem.Spec PyProof.Rows L2
section
variable {X : Cx}
theorem swD_true {kx vx : Expr} {gs : List Comprehension} {scope : Scope} {pos py : Pos} {y : Str} {l : Nat} {env : Env} (hk : env.scope.kind = .function) (hy : env.scope.names.lookup y = some .local) (hl : (py.line == pos.line) = true)
    (ha : (scope.names.any fun (n, k) => n == y && (k == .local || k == .cell)) = false) : swapsWith (.DictComp kx vx gs scope pos) (some (.Name y py)) l env = pure true := by
  have h1 : env.kindOf y = some .local := hy
  have h2 : env.blockKind = .function := by unfold Env.blockKind; rw [hk]; rfl
  unfold swapsWith
  simp only [h1, h2, ha, Expr.pos, hl]
  rfl
theorem ps_setDc {i : Nat} {y : Str} {py : Pos} {kx vx tg iter : Expr} {ifs : List Expr} {scope : Scope} {own : List (Str × Nat)} {pos spos : Pos} {wi : TI} {g : TG} {tt : TT} {tk tv : TE} (hc : X.calm = true) (hN : X.N.Nodup) (hy : X.N[i]? = some y) (hyl : X.env.scope.names.lookup y = some .local)
    (hsw : swapsWith (.DictComp kx vx [⟨tg, iter, ifs, 0⟩] scope pos) (some (.Name y py)) spos.line X.env = pure true) (hi : PI X tg iter wi) (ok : BlkOk X.N X.env.scope scope own)
    (hg : ∀ (s : Shared) (H : Hp) (C : Addr) (cl : List (Str × Addr)) (fp : List Addr), PG (X.blk s H scope (compEnvC scope cl C X.env) fp) tg g) (ht : ∀ (s : Shared) (H : Hp) (C : Addr) (cl : List (Str × Addr)) (fp : List Addr), PTs (X.blk s H scope (compEnvC scope cl C X.env) fp) ifs tt)
    (hk : ∀ (s : Shared) (H : Hp) (C : Addr) (cl : List (Str × Addr)) (fp : List Addr), PE (X.blk s H scope (compEnvC scope cl C X.env) fp) kx tk)
    (he : ∀ (s : Shared) (H : Hp) (C : Addr) (cl : List (Str × Addr)) (fp : List Addr), PE (X.blk s H scope (compEnvC scope cl C X.env) fp) vx tv) (hs : ∀ x, foldedSetIterable iter X.env x = pure x := by intro _; rfl) :
    PS X (.Assign [.Name y py] (.DictComp kx vx [⟨tg, iter, ifs, 0⟩] scope pos) spos) (tAsg (tDc wi g tt tk tv (own.map (·.2))) (gName i)) := by
  refine ⟨fun pins s σ H D I h => ?_⟩
  rw [exec_Assign_Name_used _ _ _ _ hsw]
  refine wpAny_bind (wpAny_standAt (wpAny_bind ?_))
  show wpAny _ X.A (do let _ ← comprehension (.DictComp kx vx [⟨tg, iter, ifs, 0⟩] scope pos) scope X.env (firstIterPos [⟨tg, iter, ifs, 0⟩] pos) newDict false (eval iter X.env) (some (assign (.Name y py) X.env))) _ _ s
  have h : tDc wi g tt tk tv (own.map (·.2)) σ H (fun x H1 => gName i x σ H1 D.nx) := h
  refine wpAny_bind (thn (dc_core (Qf := fun _ s' => SP X pins D .next s') hc hN I hi ok hg ht hk he hs h fun L C s' m H' I' q hn f => ?_) fun _ s' hq => wpAny_pure (wpAny_pure hq))
  show wpAny _ _ (assign (.Name y py) X.env (.ref L)) _ _ _
  refine wpAny_assign_Name (store_ok2 (v := V.ref L) I' hN hy (.inl hyl) rfl (fun s2 I2 ⟨b, sb, hb⟩ => ?_) (.inr hyl))
  obtain ⟨f0, f1, f2, f3, f4, f5⟩ := f
  have ne : C ≠ b := by
    rcases hb with z | z
    · rw [z]; exact f1
    · exact fun e => f4 y b z e.symm
  refine ⟨m, hn.sameBut sb ne, fun h3 sb3 => ?_⟩
  exact ⟨_, H', I2.turned (t' := s2.toks) (fun b o hb e => (sb3.2 b hb).trans e) f0 f1 f3 f4 f5, q⟩
end
theorem lk_relabel {env : Env} {x : Str} : ∀ {names : List (Str × NameKind)}, names.lookup x = some .cell ∨ names.lookup x = some .free →
    (names.map fun (n, k) => if (k == .free && env.scope.kind == .function && env.kindOf n == some .cell) then (n, .cell) else (n, k)).lookup x = some .cell ∨
    (names.map fun (n, k) => if (k == .free && env.scope.kind == .function && env.kindOf n == some .cell) then (n, .cell) else (n, k)).lookup x = some .free
  | [], h => by rcases h with h | h <;> cases h
  | (n, k) :: r, h => by
    rw [List.map_cons]
    by_cases c : (k == NameKind.free && env.scope.kind == .function && env.kindOf n == some .cell) = true
    all_goals by_cases e : x = n
    · subst e
      show List.lookup x ((if _ then (x, NameKind.cell) else (x, k)) :: _) = _ ∨ _
      rw [if_pos c]
      exact .inl List.lookup_cons_self
    · have ne : (x == n) = false := by simpa using e
      rw [List.lookup_cons, ne] at h
      show List.lookup x ((if _ then (n, NameKind.cell) else (n, k)) :: _) = _ ∨ List.lookup x ((if _ then (n, NameKind.cell) else (n, k)) :: _) = _
      rw [if_pos c, List.lookup_cons, ne]
      exact lk_relabel (env := env) (names := r) h
    · subst e
      rw [List.lookup_cons_self] at h
      show List.lookup x ((if _ then (x, NameKind.cell) else (x, k)) :: _) = _ ∨ List.lookup x ((if _ then (x, NameKind.cell) else (x, k)) :: _) = _
      rw [if_neg c, List.lookup_cons_self]
      exact h
    · have ne : (x == n) = false := by simpa using e
      rw [List.lookup_cons, ne] at h
      show List.lookup x ((if _ then (n, NameKind.cell) else (n, k)) :: _) = _ ∨ List.lookup x ((if _ then (n, NameKind.cell) else (n, k)) :: _) = _
      rw [if_neg c, List.lookup_cons, ne]
      exact lk_relabel (env := env) (names := r) h
theorem blkOk_nest {N : List Str} {sc scope : Scope} {own : List (Str × Nat)} {cl : List (Str × Addr)} {C : Addr} {env : Env} (h : blkC N sc scope own = true) : BlkOk N (compEnvC sc cl C env).scope scope own := by
  obtain ⟨h1, h2, h3, h4, h5⟩ := blkOk_by h
  exact ⟨h1, h2, h3, fun y hy e => lk_relabel (h4 y hy e), h5⟩
def tTru (K : PySem.W.Frag) (te : TE) : TT := fun σ H Q => te σ H fun x H' => ∃ k, TruV K x H' k ∧ Q k H'
theorem g_tru {K : PySem.W.Frag} {te : TE} {σ : L2.St} {H : Hp} {Q : Bool → Hp → Prop} (h : te σ H fun x H' => ∃ k, TruV K x H' k ∧ Q k H') : tTru K te σ H Q := h
theorem g_dc {σ : L2.St} {H : Hp} {Q : VK} {wi : TI} {g : TG} {tt : TT} {tk tv : TE} {vs : List Nat}
    (h : wi σ H fun J H1 => ∀ D, H1 D = none → ∃ W : Nat → Nat → Hp → Prop, (∃ m, W 0 m (upd H1 D (.dK []))) ∧ ∀ i m H, W i m H →
      (J.stop i H ∧ Q (.ref D) H) ∨ (J.go i H ∧ ∃ Nx : Hp → Prop, (∀ H', Nx H' → ∃ m', m' < m ∧ W (i + 1) m' H') ∧ ∀ x H', J.yld i H x H' → g x (wipe σ vs) H' fun σ2 H2 => wipe σ2 vs = wipe σ vs ∧ tt σ2 H2 fun b H3 =>
        if b = true then tk σ2 H3 fun y H4 => tv σ2 H4 fun z H5 => ∃ kvs k, y = kV k ∧ H5 D = some (.dK kvs) ∧ kvs.length < sizeLine ∧ Nx (upd H5 D (.dK (putK kvs k z))) else Nx H3)) : tDc wi g tt tk tv vs σ H Q := h
theorem dc_list {K : PySem.W.Frag} {a : Addr} {xs : List V} {g : TG} {tt : TT} {tk tv : TE} {vs : List Nat} {σ : L2.St} {H1 : Hp} {D : Addr} {Qd : Hp → Prop} (Pv : Nat → Hp → Prop) (h0 : Pv 0 (upd H1 D (.dK [])))
    (hl : ∀ i H, i ≤ xs.length → Pv i H → SqL K H a xs)
    (hs : ∀ i x H, xs[i]? = some x → Pv i H → g x (wipe σ vs) H fun σ2 H2 => wipe σ2 vs = wipe σ vs ∧ tt σ2 H2 fun b H3 =>
        if b = true then tk σ2 H3 fun y H4 => tv σ2 H4 fun z H5 => ∃ kvs k, y = kV k ∧ H5 D = some (.dK kvs) ∧ kvs.length < sizeLine ∧ Pv (i + 1) (upd H5 D (.dK (putK kvs k z))) else Pv (i + 1) H3)
    (hd : ∀ H, Pv xs.length H → Qd H) :
    ∃ W : Nat → Nat → Hp → Prop, (∃ m, W 0 m (upd H1 D (.dK []))) ∧ ∀ i m H, W i m H →
      ((Itl K a).stop i H ∧ Qd H) ∨ ((Itl K a).go i H ∧ ∃ Nx : Hp → Prop, (∀ H', Nx H' → ∃ m', m' < m ∧ W (i + 1) m' H') ∧ ∀ x H', (Itl K a).yld i H x H' → g x (wipe σ vs) H' fun σ2 H2 => wipe σ2 vs = wipe σ vs ∧ tt σ2 H2 fun b H3 =>
        if b = true then tk σ2 H3 fun y H4 => tv σ2 H4 fun z H5 => ∃ kvs k, y = kV k ∧ H5 D = some (.dK kvs) ∧ kvs.length < sizeLine ∧ Nx (upd H5 D (.dK (putK kvs k z))) else Nx H3) := by
  refine ⟨fun i m H => m = xs.length - i ∧ i ≤ xs.length ∧ Pv i H, ⟨_, rfl, Nat.zero_le _, h0⟩, ?_⟩
  rintro i m H ⟨rfl, hi, hp⟩
  have hq := hl i H hi hp
  by_cases c : i < xs.length
  · refine .inr ⟨⟨xs, xs[i], hq, List.getElem?_eq_getElem c⟩, Pv (i + 1), fun H' h => ⟨xs.length - (i + 1), by omega, rfl, c, h⟩, ?_⟩
    rintro x H' ⟨rfl, e⟩
    exact hs i x _ (e xs hq) hp
  · have e : i = xs.length := by omega
    exact .inl ⟨⟨xs, hq, by omega⟩, hd _ (by rw [← e]; exact hp)⟩
end LW
/-! # The order of the wills, of a chest as such -/
namespace LW
open PySem PySem.Spec PyProof.Rows L2
/-- one step among the boxes g -/
def Ed (S : Ch) (g : List Int) (x y : Int) : Prop := x ∈ g ∧ y ∈ g ∧ ((∃ s, (x, s, y, true) ∈ S.tells) ∨ ∃ n h k, (n, (h, k, y)) ∈ S.ps ∧ (x = h ∨ x = k))
/-- one step or more -/
inductive Bel (S : Ch) (g : List Int) : Int → Int → Prop where
  | one {x y : Int} (h : Ed S g x y) : Bel S g x y
  | more {x y z : Int} (h : Bel S g x y) (e : Ed S g y z) : Bel S g x z
section
variable {S : Ch} {g : List Int}
theorem Bel.trans {x y z : Int} (h : Bel S g x y) (k : Bel S g y z) : Bel S g x z := by
  induction k with
  | one e => exact .more h e
  | more _ e ih => exact .more ih e
theorem Bel.mem {x y : Int} (h : Bel S g x y) : y ∈ g := by
  cases h with
  | one e => exact e.2.1
  | more _ e => exact e.2.1
/-- a walk: what was found, what waits -/
structure Wk (S : Ch) (g : List Int) (x : Int) (ks ws : List Int) : Prop where
  nd : ks.Nodup
  so : ∀ y, y ∈ ks ∨ y ∈ ws → Bel S g x y
  st : ∀ y, Ed S g x y → y ∈ ks ∨ y ∈ ws
  cl : ∀ y z, y ∈ ks → Ed S g y z → z ∈ ks ∨ z ∈ ws
theorem Wk.start {x : Int} {ws : List Int} (h : ∀ y, y ∈ ws ↔ Ed S g x y) : Wk S g x [] ws :=
  ⟨List.nodup_nil, fun y m => m.elim (fun z => nomatch z) fun m => .one ((h y).mp m), fun y e => .inr ((h y).mpr e), fun y z m => (nomatch m)⟩
theorem Wk.skip {x o : Int} {ks ws : List Int} (h : Wk S g x ks (ws ++ [o])) (m : o ∈ ks) : Wk S g x ks ws := by
  have d : ∀ y, y ∈ ks ∨ y ∈ ws ++ [o] → y ∈ ks ∨ y ∈ ws := fun y c => c.elim .inl fun c => (List.mem_append.mp c).elim .inr fun c => .inl (by rw [List.mem_singleton.mp c]; exact m)
  exact ⟨h.nd, fun y c => h.so y (c.elim .inl fun c => .inr (List.mem_append_left _ c)), fun y e => d y (h.st y e), fun y z c e => d z (h.cl y z c e)⟩
theorem Wk.take {x o : Int} {ks ws ss : List Int} (h : Wk S g x ks (ws ++ [o])) (m : o ∉ ks) (hs : ∀ y, y ∈ ss ↔ Ed S g o y) : Wk S g x (ks ++ [o]) (ws ++ ss) := by
  have hb : Bel S g x o := h.so o (.inr (List.mem_append_right _ (List.mem_singleton.mpr rfl)))
  have d : ∀ y, y ∈ ks ∨ y ∈ ws ++ [o] → y ∈ ks ++ [o] ∨ y ∈ ws ++ ss := fun y c => c.elim (fun c => .inl (List.mem_append_left _ c)) fun c => (List.mem_append.mp c).elim (fun c => .inr (List.mem_append_left _ c)) fun c => .inl (List.mem_append_right _ c)
  refine ⟨List.nodup_append.mpr ⟨h.nd, List.nodup_cons.mpr ⟨(fun z => nomatch z), List.nodup_nil⟩, fun a ma b mb e => m (by rw [← List.mem_singleton.mp mb, ← e]; exact ma)⟩, fun y c => ?_, fun y e => d y (h.st y e), fun y z c e => ?_⟩
  · rcases c with c | c
    · rcases List.mem_append.mp c with c | c
      · exact h.so y (.inl c)
      · rw [List.mem_singleton.mp c]; exact hb
    · rcases List.mem_append.mp c with c | c
      · exact h.so y (.inr (List.mem_append_left _ c))
      · exact .more hb ((hs y).mp c)
  · rcases List.mem_append.mp c with c | c
    · exact d z (h.cl y z c e)
    · rw [List.mem_singleton.mp c] at e
      exact .inr (List.mem_append_right _ ((hs z).mpr e))
theorem Wk.done {x : Int} {ks : List Int} (h : Wk S g x ks []) (y : Int) : y ∈ ks ↔ Bel S g x y := by
  refine ⟨fun m => h.so y (.inl m), fun b => ?_⟩
  induction b with
  | one e => exact (h.st _ e).elim id fun z => nomatch z
  | more _ e ih => exact (h.cl _ _ ih e).elim id fun z => nomatch z
theorem Wk.len {x : Int} {ks ws : List Int} (h : Wk S g x ks ws) : ks.length ≤ g.length := nodup_len h.nd fun y m => (h.so y (.inl m)).mem
/-- no elder among these but such whose elder it is itself -/
def FreeIn (S : Ch) (g l : List Int) (b : Int) : Prop := ∀ o ∈ l, ¬ Bel S g o b ∨ Bel S g b o
theorem free_there {l : List Int} (h : l ≠ []) : ∃ b ∈ l, FreeIn S g l b := by
  have key : ∀ (n : Nat) (b : Int), b ∈ l → (l.filter fun o => @decide (Bel S g o b ∧ ¬ Bel S g b o) (Classical.propDecidable _)).length ≤ n → ∃ b ∈ l, FreeIn S g l b := by
    intro n
    induction n with
    | zero =>
      intro b hb hl
      refine ⟨b, hb, fun o ho => ?_⟩
      by_cases c : Bel S g o b ∧ ¬ Bel S g b o
      · have : o ∈ (l.filter fun o => @decide (Bel S g o b ∧ ¬ Bel S g b o) (Classical.propDecidable _)) := List.mem_filter.mpr ⟨ho, by simpa using c⟩
        rw [List.length_eq_zero_iff.mp (Nat.le_zero.mp hl)] at this; cases this
      · by_cases c1 : Bel S g o b
        · exact .inr (Classical.byContradiction fun z => c ⟨c1, z⟩)
        · exact .inl c1
    | succ n ih =>
      intro b hb hl
      by_cases c : ∃ o ∈ l, Bel S g o b ∧ ¬ Bel S g b o
      · obtain ⟨o, ho, h1, h2⟩ := c
        refine ih o ho ?_
        have le : (l.filter fun x => @decide (Bel S g x o ∧ ¬ Bel S g o x) (Classical.propDecidable _)).length < (l.filter fun x => @decide (Bel S g x b ∧ ¬ Bel S g b x) (Classical.propDecidable _)).length := by
          rw [← List.countP_eq_length_filter, ← List.countP_eq_length_filter]
          obtain ⟨l1, l2, e⟩ := List.append_of_mem ho
          rw [e, List.countP_append, List.countP_append, List.countP_cons, List.countP_cons]
          have mono : ∀ x : Int, (@decide (Bel S g x o ∧ ¬ Bel S g o x) (Classical.propDecidable _)) = true → (@decide (Bel S g x b ∧ ¬ Bel S g b x) (Classical.propDecidable _)) = true := fun x hx => by
            have hx : Bel S g x o ∧ ¬ Bel S g o x := by simpa using hx
            have : Bel S g x b ∧ ¬ Bel S g b x := ⟨hx.1.trans h1, fun z => hx.2 (h1.trans z)⟩
            simpa using this
          have m1 := List.countP_mono_left (l := l1) fun x _ => mono x
          have m2 := List.countP_mono_left (l := l2) fun x _ => mono x
          have t1 : (@decide (Bel S g o o ∧ ¬ Bel S g o o) (Classical.propDecidable _)) = false := by
            have : ¬ (Bel S g o o ∧ ¬ Bel S g o o) := fun z => z.2 z.1
            simpa using this
          have t2 : (@decide (Bel S g o b ∧ ¬ Bel S g b o) (Classical.propDecidable _)) = true := by
            have : Bel S g o b ∧ ¬ Bel S g b o := ⟨h1, h2⟩
            simpa using this
          rw [t1, t2, if_neg (by decide), if_pos rfl]
          omega
        omega
      · refine ⟨b, hb, fun o ho => ?_⟩
        by_cases c1 : Bel S g o b
        · exact .inr (Classical.byContradiction fun z => c ⟨o, ho, c1, z⟩)
        · exact .inl c1
  cases l with
  | nil => exact absurd rfl h
  | cons b r => exact key _ b List.mem_cons_self (Nat.le_refl _)
end
open Classical in
noncomputable def freeL (S : Ch) (g l : List Int) : List Int := l.filter fun b => decide (FreeIn S g l b)
noncomputable def ordN (S : Ch) (g : List Int) : Nat → List Int → List Int
  | 0, _ => []
  | n + 1, l => match freeL S g l with
    | [] => []
    | b :: _ => b :: ordN S g n (l.erase b)
section
variable {S : Ch} {g : List Int}
theorem free_cons {l : List Int} (h : l ≠ []) : ∃ b r, freeL S g l = b :: r ∧ b ∈ l := by
  obtain ⟨b, hb, hf⟩ := free_there (S := S) (g := g) h
  have m : b ∈ freeL S g l := List.mem_filter.mpr ⟨hb, by simpa using hf⟩
  cases e : freeL S g l with
  | nil => rw [e] at m; cases m
  | cons c r =>
    refine ⟨c, r, rfl, ?_⟩
    have : c ∈ freeL S g l := by rw [e]; exact List.mem_cons_self
    exact (List.mem_filter.mp this).1
theorem ord_step {l : List Int} {n : Nat} {b : Int} {r : List Int} (e : freeL S g l = b :: r) : ordN S g (n + 1) l = b :: ordN S g n (l.erase b) := by
  show (match freeL S g l with | [] => [] | b :: _ => b :: ordN S g n (l.erase b)) = _
  rw [e]
theorem min_head {l : List Int} {b : Int} {r : List Int} (pw : l.Pairwise (· < ·)) (e : freeL S g l = b :: r) {m : Int} (hm : m ∈ freeL S g l) (le : ∀ y, y ∈ freeL S g l → m ≤ y) : m = b := by
  have p2 : (freeL S g l).Pairwise (· < ·) := pw.sublist List.filter_sublist
  rw [e] at p2 hm le
  have h1 := le b List.mem_cons_self
  rcases List.mem_cons.mp hm with h | h
  · exact h
  · have := (List.pairwise_cons.mp p2).1 m h
    omega
end
end LW
/-! # match: a sequence of a word and names; a starred last target -/
namespace LW
open PySem PySem.Spec PyProof.Rows L2
def setAll : List Nat → List V → L2.St → L2.St
  | i :: is, v :: vs, σ => setAll is vs (σ.set i (some v))
  | _, _, σ => σ
inductive Caps : List Pattern → List Str → Prop where
  | nil : Caps [] []
  | cons {p : Pos} {n : Str} {ps : List Pattern} {ns : List Str} (h : Caps ps ns) : Caps (.MatchAs none (some n) p :: ps) (n :: ns)
theorem Caps.len {ps : List Pattern} {ns : List Str} (h : Caps ps ns) : ps.length = ns.length := by
  induction h with
  | nil => rfl
  | cons _ ih => rw [List.length_cons, List.length_cons, ih]
theorem Caps.star {ps : List Pattern} {ns : List Str} (h : Caps ps ns) : ∀ p ∈ ps, p.isStar = false := by
  induction h with
  | nil => exact fun p m => nomatch m
  | cons _ ih => exact fun p m => (List.mem_cons.mp m).elim (fun e => by rw [e]; rfl) (ih p)
inductive Slots (X : Cx) : List Str → List Nat → Prop where
  | nil : Slots X [] []
  | cons {n : Str} {i : Nat} {ns : List Str} {is : List Nat} (hi : X.N[i]? = some n) (hx : X.env.scope.names.lookup n = some .local) (r : Slots X ns is) : Slots X (n :: ns) (i :: is)
theorem Slots.len {X : Cx} {ns : List Str} {is : List Nat} (h : Slots X ns is) : ns.length = is.length := by
  induction h with
  | nil => rfl
  | cons _ _ _ ih => rw [List.length_cons, List.length_cons, ih]
section
variable {M : Model} {A : Around} {E : Value → Shared → Prop} {env : Env}
theorem caps_each {ps : List Pattern} {ns : List Str} (h : Caps ps ns) : ∀ {us : List Value} {s : Shared} {Q : Option (List (Str × Value)) → Shared → Prop}, us.length = ns.length → Q (some (ns.zip us)) s → wpAny M A (matchEach ps env us) Q E s := by
  induction h with
  | nil =>
    intro us s Q hl q
    cases us with
    | nil => exact wpAny_matchEach_nil q
    | cons => cases hl
  | @cons p n ps ns h ih =>
    intro us s Q hl q
    cases us with
    | nil => cases hl
    | cons u us => exact wpAny_matchEach_cons (wpAny_matchPattern_Capture (ih (by simpa using hl) q))
end
section
variable {X : Cx}
theorem bind_all {ns : List Str} {is : List Nat} (S : Slots X ns is) (hN : X.N.Nodup) {pins : List (Addr × Obj)} {H : Hp} {Q : Unit → Shared → Prop} : ∀ {vs : List V} {us : List Value} {σ : L2.St} {s : Shared}, L2.Vals vs us → us.length = ns.length → Inv X pins σ H s → (∀ s', Inv X pins (setAll is vs σ) H s' → Q () s') →
    wpAny (model X.prog X.w) X.A (assignInOrder ((ns.zip us).map fun (n, _) => bindName X.env n) ((ns.zip us).map (·.2))) Q X.xe s := by
  induction S with
  | nil => intro vs us σ s r hl I q; cases r with
    | nil => exact wpAny_assignInOrder_none (q _ I)
    | cons => cases hl
  | cons hi hx r ih => intro vs us σ s rv hl I q; cases rv with
    | nil => cases hl
    | cons a rr => exact wpAny_assignInOrder_more (wpAny_bindName (store_ok I hN hi (.inl hx) a (fun s' I' => ih rr (by simpa using hl) I' q) (.inr hx)))
/-- the word ahead -/
theorem word_is {w : Str} {j : Nat} {p1 p2 : Pos} {pins : List (Addr × Obj)} {σ : L2.St} {H : Hp} {s : Shared} {z : Str} {u : Value} {Q : Option (List (Str × Value)) → Shared → Prop} (I : Inv X pins σ H s) (r : RelV (.str z) u)
    (h1 : z = w → ∀ s', Inv X pins σ H s' → Q (some []) s') (h0 : z ≠ w → ∀ s', Inv X pins σ H s' → Q none s') : wpAny (model X.prog X.w) X.A (matchPattern (.MatchValue (.Constant (.str w) j p1) p2) X.env u) Q X.xe s := by
  refine wpAny_matchPattern_Value (thn ((pe_str (X := X) (x := w) (j := j) (pos := p1)).run pins s σ H (fun x H1 => x = .str w ∧ H1 = H) I ⟨rfl, rfl⟩) fun v s1 hv => ?_)
  obtain ⟨x, H1, I1, r1, rfl, rfl⟩ := hv
  refine thn (op_eq (X := X) pins s1 σ H1 (.str z) (.str w) u v (fun x H2 => x = .bl (decide (V.str z = V.str w)) ∧ H2 = H1) I1 r r1 ⟨rfl, rfl, rfl⟩) fun c s2 hc => ?_
  obtain ⟨x, H2, I2, r2, rfl, rfl⟩ := hc
  cases r2
  refine wpAny_truthy_bool ?_
  by_cases c : z = w
  · rw [if_pos (by rw [c]; simp)]; exact h1 c _ I2
  · rw [if_neg (by simpa using c)]; exact h0 c _ I2
abbrev TM := V → TS
structure PM (X : Cx) (cs : List MatchCase) (t : TM) : Prop where
  run : ∀ (pins : List (Addr × Obj)) (s : Shared) (σ : L2.St) (H : Hp) (v : V) (u : Value) (D : Ends) (first : Bool), Inv X pins σ H s → RelV v u → t v D σ H → wpAny (model X.prog X.w) X.A (matchCases cs X.env u first) (SP X pins D) X.xe s
def mNil : TM := fun _ => tNext
def mWild (tb : TS) : TM := fun _ => tb
def mWord (K : PySem.W.Frag) (w : Str) (is : List Nat) (tb : TS) (tr : TM) : TM := fun x D σ H => ∃ a xs, x = .ref a ∧ (SqT K H a xs ∨ SqL K H a xs) ∧ (xs.length ≠ is.length + 1 → tr x D σ H) ∧
  ∀ y ys, xs = y :: ys → xs.length = is.length + 1 → ∃ z, y = .str z ∧ (z ≠ w → tr x D σ H) ∧ (z = w → tb D (setAll is ys σ) H)
def tMatch (te : TE) (tm : TM) : TS := fun D σ H => te σ H fun x H1 => tm x D σ H1
theorem ps_match {e : Expr} {cs : List MatchCase} {pos : Pos} {te : TE} {tm : TM} (he : PE X e te) (hm : PM X cs tm) : PS X (.Match e cs pos) (tMatch te tm) := by
  refine ⟨fun pins s σ H D I h => wpAny_Match (thn (he.run pins s σ H _ I h) fun v s1 hv => ?_)⟩
  obtain ⟨x, H1, I1, r1, q1⟩ := hv
  exact hm.run pins s1 σ H1 x v D true I1 r1 q1
theorem pm_nil : PM X [] mNil := ⟨fun pins s σ H v u D first I r h => wpAny_matchCases_nil ⟨σ, H, I, h⟩⟩
theorem pm_wild {p : Pos} {body : List Stmt} {rest : List MatchCase} {tb : TS} (hb : PSs X body tb) : PM X (⟨.MatchAs none none p, none, body⟩ :: rest) (mWild tb) :=
  ⟨fun pins s σ H v u D first I r h => wpAny_matchCases_cons (wpAny_matchPattern_Capture (wpAny_assignInOrder_none (hb.run pins s σ H D I h)))⟩
theorem fits63 {n : Nat} (h : n ≤ sizeLine) : (n : Int) < 2 ^ 63 := by rw [sizeLine_eq] at h; omega
theorem pm_word {w : Str} {j : Nat} {p1 p2 p3 : Pos} {ps : List Pattern} {ns : List Str} {is : List Nat} {body : List Stmt} {rest : List MatchCase} {tb : TS} {tr : TM} (hc : X.calm = true) (hN : X.N.Nodup) (cp : Caps ps ns) (S : Slots X ns is) (hb : PSs X body tb) (hr : PM X rest tr)
    (hstar : ((Pattern.MatchValue (.Constant (.str w) j p1) p2) :: ps).findIdx? (·.isStar) = none := by rfl)
    (hwild : (((Pattern.MatchValue (.Constant (.str w) j p1) p2) :: ps).all fun p => p.isWildcard || (p.isStar && p.names.isEmpty)) = false := by rfl) :
    PM X (⟨.MatchSequence (.MatchValue (.Constant (.str w) j p1) p2 :: ps) p3, none, body⟩ :: rest) (mWord X.K w is tb tr) := by
  refine ⟨fun pins s σ H v u D first I r h => ?_⟩
  obtain ⟨a, xs, rfl, hx, hmiss, hhit⟩ := h
  cases (show u = Value.ref a from r)
  refine wpAny_matchCases_cons ?_
  have lp : ((Pattern.MatchValue (.Constant (.str w) j p1) p2) :: ps).length = is.length + 1 := by rw [List.length_cons, cp.len, S.len]
  have after : ∀ {s' : Shared} {its : List Value}, Inv X pins σ H s' → L2.Vals xs its → xs.length = is.length + 1 → wpAny (model X.prog X.w) X.A (matchEach (.MatchValue (.Constant (.str w) j p1) p2 :: ps) X.env its) (fun r s₁ => match r with
      | none => wpAny (model X.prog X.w) X.A (matchCases rest X.env (.ref a) false) (SP X pins D) X.xe s₁
      | some bs => wpAny (model X.prog X.w) X.A (assignInOrder (bs.map fun (n, _) => bindName X.env n) (bs.map (·.2))) (fun _ s₂ => wpAny (model X.prog X.w) X.A (execs body X.env) (SP X pins D) X.xe s₂) X.xe s₁) X.xe s' := by
    intro s' its I' rv hl
    cases rv with
    | nil => cases hl
    | @cons y u' ys us ry rr =>
      obtain ⟨z, rfl, hz0, hz1⟩ := hhit y ys rfl hl
      have lu : us.length = ns.length := by
        have := rr.length
        have h2 : ys.length + 1 = is.length + 1 := hl
        rw [S.len]; omega
      refine wpAny_matchEach_cons (word_is I' ry (fun e s1 I1 => ?_) fun e s1 I1 => ?_)
      · refine caps_each cp lu ?_
        exact bind_all S hN rr lu I1 fun s2 I2 => hb.run pins s2 _ H D I2 (hz1 e)
      · exact hr.run pins s1 σ H (.ref a) _ D false I1 rfl (hz0 e)
  rcases hx with hx | hx
  · obtain ⟨its, rv, ht, hz⟩ := I.tuple hx
    have lr := rv.length
    by_cases c : xs.length = is.length + 1
    · have en : its.toArray.size = ((Pattern.MatchValue (.Constant (.str w) j p1) p2) :: ps).length := by rw [lp, List.size_toArray]; omega
      refine matchSeq_tuple_hit ht (fits63 (by rw [List.size_toArray]; omega)) en ?_ hstar hwild
      rw [← en]
      refine unpackItems_tuple (I.ok.hd hc) ht fun h' he => ?_
      exact after (s' := { s with heap := h', toks := s.toks + 1 + 1 }) (I.kept fun b o e => he b o (Nat.ne_of_lt (Heap.lt_size e)) e) rv c
    · refine matchSeq_tuple_miss ht (fits63 (by rw [List.size_toArray]; omega)) (by rw [lp, List.size_toArray]; omega) ?_ hstar hwild
      exact hr.run pins _ σ H (.ref a) _ D false (I.tok _) rfl (hmiss c)
  · obtain ⟨its, rv, ht, hz⟩ := I.list hx
    have lr := rv.length
    have hl : s.heap.IsList a its.toArray := by
      obtain ⟨o, n, e, e2, e3, e4⟩ := ht
      exact ⟨o, e, e2, n, e4⟩
    by_cases c : xs.length = is.length + 1
    · have en : its.toArray.size = ((Pattern.MatchValue (.Constant (.str w) j p1) p2) :: ps).length := by rw [lp, List.size_toArray]; omega
      refine matchSeq_list_hit hl (fits63 (by rw [List.size_toArray]; omega)) en ?_ hstar hwild
      rw [← en]
      refine W.kun_itemsOf (I.ok.hd hc) hl fun h' he => ?_
      exact after (s' := { s with heap := h', toks := s.toks + 1 + 1 }) (I.kept fun b o e => he b o (Nat.ne_of_lt (Heap.lt_size e)) e) rv c
    · refine matchSeq_list_miss hl (fits63 (by rw [List.size_toArray]; omega)) (by rw [lp, List.size_toArray]; omega) ?_ hstar hwild
      exact hr.run pins _ σ H (.ref a) _ D false (I.tok _) rfl (hmiss c)
theorem g_match {te : TE} {tm : TM} {D : Ends} {σ : L2.St} {H : Hp} (h : te σ H fun x H1 => tm x D σ H1) : tMatch te tm D σ H := h
theorem g_wordY {K : PySem.W.Frag} {w : Str} {is : List Nat} {tb : TS} {tr : TM} {t : Addr} {ys : List V} {D : Ends} {σ : L2.St} {H : Hp} (e : H t = some (.tup (.str w :: ys))) (l : ys.length = is.length) (h : tb D (setAll is ys σ) H) : mWord K w is tb tr (.ref t) D σ H :=
  ⟨t, _, rfl, .inl (SqT.of e), fun n => absurd (by rw [List.length_cons, l]) n, fun y zs e2 _ => by cases e2; exact ⟨w, rfl, fun n => absurd rfl n, fun _ => h⟩⟩
theorem g_wordN {K : PySem.W.Frag} {w : Str} {is : List Nat} {tb : TS} {tr : TM} {t : Addr} {xs : List V} {D : Ends} {σ : L2.St} {H : Hp} (e : H t = some (.tup xs)) (l : xs.length ≠ is.length + 1) (h : tr (.ref t) D σ H) : mWord K w is tb tr (.ref t) D σ H :=
  ⟨t, _, rfl, .inl (SqT.of e), fun _ => h, fun y zs e2 l2 => absurd l2 l⟩
theorem g_wordO {K : PySem.W.Frag} {w z : Str} {is : List Nat} {tb : TS} {tr : TM} {t : Addr} {ys : List V} {D : Ends} {σ : L2.St} {H : Hp} (e : H t = some (.tup (.str z :: ys))) (n : z ≠ w) (h : tr (.ref t) D σ H) : mWord K w is tb tr (.ref t) D σ H :=
  ⟨t, _, rfl, .inl (SqT.of e), fun _ => h, fun y zs e2 _ => by cases e2; exact ⟨z, rfl, fun _ => h, fun c => absurd c n⟩⟩
/-- (a, *rest) of a tuple -/
def gStar (K : PySem.W.Frag) (i j : Nat) : TG := fun v σ H Q => ∃ a y ys, v = .ref a ∧ SqT K H a (y :: ys) ∧ ys.length ≤ 1000 ∧ ∀ q, H q = none → Q ((σ.set i (some y)).set j (some (.ref q))) (upd H q (.lst ys))
theorem pg_star {i j : Nat} {x y : Str} {k : Nat} {pos px py pz : Pos} (hc : X.calm = true) (hN : X.N.Nodup) (hi : X.N[i]? = some x) (hx : Loc X.env.scope x) (fx : X.fn x = true ∨ X.env.scope.names.lookup x = some .local) (hj : X.N[j]? = some y) (hy : Loc X.env.scope y) (fy : X.fn y = true ∨ X.env.scope.names.lookup y = some .local)
    (hl : (assignEach [.Name x px, .Starred (.Name y py) pz] X.env).length = 2 := by rfl) (hs : (assignEach [.Name x px, .Starred (.Name y py) pz] X.env).findIdx? (·.1) = some 1 := by rfl)
    (he : (assignEach [.Name x px, .Starred (.Name y py) pz] X.env).map (·.2) = [assign (.Name x px) X.env, assign (.Name y py) X.env] := by rfl) : PG X (.Tuple [.Name x px, .Starred (.Name y py) pz] k pos) (gStar X.K i j) := by
  refine ⟨fun pins s σ H v u Q I r h => ?_⟩
  obtain ⟨a, v1, vs, rfl, hq, lz, h⟩ := h
  cases (show u = Value.ref a from r)
  obtain ⟨its, rv, ht, hz⟩ := I.tuple hq
  cases rv with
  | @cons _ u1 _ us r1 rr =>
  have lus := rr.length
  have ne : a ≠ s.heap.objs.size := by obtain ⟨o, ho, _⟩ := ht; exact Nat.ne_of_lt (Heap.lt_size ho)
  have la : a < s.heap.objs.size := by obtain ⟨o, ho, _⟩ := ht; exact Heap.lt_size ho
  have sz : (u1 :: us).toArray.size = us.length + 1 := by rw [List.size_toArray]; rfl
  rw [assign_Tuple]
  refine wpAny_bind (wpAny_standAt (by
    unfold unpack
    rw [hl, hs]
    refine wpAny_bind (wpAny_holding (m := unpackItems (.ref a) 2 (some 1)) ?_)
    unfold unpackItems
    refine wpAny_bind (by
      unfold notIterableAtAll
      refine wpAny_bind (wpAny_specialOf ht.typeIs slot_tuple_iter.lookup (wpAny_pure ?_))
      simp only [Bool.false_eq_true, if_false]
      refine wpAny_bind (wpAny_holding (iter_tuple ht (wpAny_bind (wpAny_holding (draw_tuple ne 1 0 _ _ ⟨_, Heap.get?_push_size _ rfl, rfl, rfl⟩ (ht.push _) (by rw [sz]; omega) fun h1 i1 s1 => ?_)))))
      have t1 : IsTup h1 a (u1 :: us).toArray := (ht.push _).extBut s1.extBut ne
      have ⟨oi, hoi, _⟩ := i1
      have ⟨ot, hot, _⟩ := t1
      rw [if_neg (show ¬ ((((u1 :: us).toArray.toList.drop 0).take 1).length < 1) by simp)]
      refine wpAny_bind (wpAny_holding (W.kun_collect (s := { s with heap := h1 }) (T := "tuple_iterator") (items := (u1 :: us).toArray) (.inr (.inr (.inr rfl))) (Walks.tuple (A := X.A.in1) (I.ok.hd hc) s.heap.objs.size a ne _) (fun j u st => st.1.typeIs) (k := 1) (by rw [sz]; omega) ⟨i1, t1⟩ (Heap.lt_size hoi) (Heap.lt_size hot) (fun h2 tk hk => ?_) (by rw [sz, sizeLine_eq]; omega)))
      have ed : ((u1 :: us).toArray.toList.drop 1) = us := rfl
      rw [ed]
      show wpAny _ _ (if us.length < 0 then _ else _) _ _ _
      rw [if_neg (Nat.not_lt_zero _)]
      show wpAny _ _ (newList (us.take (us.length - 0)) >>= fun d => pure ([u1] ++ [d] ++ us.drop (us.length - 0))) _ _ _
      rw [Nat.sub_zero, List.take_length, List.drop_length]
      have kp : ∀ b o, s.heap.get? b = some o → h2.get? b = some o := fun b o e => hk b o (Nat.ne_of_lt (Heap.lt_size e)) (s1.extBut b o (Nat.ne_of_lt (Heap.lt_size e)) (Heap.get?_push_of_some _ e))
      refine wpAny_bind (wpAny_newList (s := { s with heap := h2, toks := tk }) (wpAny_pure ?_) (by rw [sizeLine_eq]; omega))
      rw [he]
      have I2 : Inv X pins σ H { s with heap := h2, toks := tk } := I.kept kp
      have hf : H h2.objs.size = none := I2.hok.fresh (Nat.le_refl _)
      have I3 : Inv X pins σ (upd H h2.objs.size (.lst vs)) { s with heap := h2.push { cls := .type "list", data := .seq us.toArray }, toks := tk } :=
        I2.laid (t' := tk) (fun b u e => Heap.get?_push_of_some _ e) (Nat.le_refl _) ⟨by rw [sizeLine_eq]; omega, us, 0, rr, Heap.get?_push_size _ rfl⟩
      refine assignInOrder_cons (wpAny_assign_Name (store_ok I3 hN hi hx r1 (fun s4 I4 => ?_) fx))
      refine assignInOrder_cons (wpAny_assign_Name (store_ok I4 hN hj hy (v := .ref h2.objs.size) rfl (fun s5 I5 => ?_) fy))
      exact assignInOrder_nil ⟨_, _, I5, h _ hf⟩)))
end
end LW
/-! # Wills done, boxes given up, of a chest as such -/
namespace LW
open PySem PySem.Spec PyProof.Rows L2
def Deed.ld (b : Int) : Deed → LD
  | .up => .take b
  | .down o => .drop o
  | .hang o s h => .put o s b h
def Ch.deedDone (b : Int) (S : Ch) (d : Deed) : Ch := (S.step (d.ld b)).2.2
def Ch.willOf (S : Ch) (b : Int) : List Deed := match S.get b with
  | some x => x.will
  | none => []
def Ch.unwill (S : Ch) (b : Int) : Ch := (S.step (.will b [])).2.2
def Ch.deedsDone (S : Ch) (b : Int) (ds : List Deed) : Ch := ds.foldl (Ch.deedDone b) S
def Ch.willDone (S : Ch) (b : Int) : Ch := (S.unwill b).deedsDone b (S.willOf b)
def Ch.willsDone (S : Ch) (bs : List Int) : Ch := bs.foldl Ch.willDone S
def clearS (gs : List Int) : Option (Int × Bool) → Option (Int × Bool)
  | some (o, h) => if o ∈ gs then none else some (o, h)
  | none => none
def Ch.givenUp (S : Ch) (gs : List Int) : Ch :=
  { S with bs := (S.bs.filter fun e => decide (e.1 ∉ gs)).map fun e => (e.1, { e.2 with sl := e.2.sl.map (clearS gs) }), ps := S.ps.filter fun e => decide (e.2.1 ∉ gs ∧ e.2.2.1 ∉ gs ∧ e.2.2.2 ∉ gs) }
/-- wills as they may be -/
def WOk (S : Ch) : Prop := ∀ e ∈ S.bs, e.2.will.length ≤ 9 ∧ e.2.will.any Deed.isNeg = false
theorem step_no {S : Ch} {d : LD} (h : (S.step d).1 ≠ "") : (S.step d).2.2 = S := by
  cases d with
  | make n =>
    rw [st_make] at h ⊢
    by_cases c : n < 0 ∨ 9 < n
    · rw [if_pos c]
    · rw [if_neg c] at h ⊢
      by_cases c2 : S.bs.length = 60
      · rw [if_pos c2]
      · rw [if_neg c2] at h; exact absurd rfl h
  | put b s o g =>
    cases e : S.get b with
    | none => rw [st_put0 e]
    | some x =>
      by_cases c : s < 0 ∨ (x.sl.length : Int) ≤ s
      · rw [st_put1 e c]
      · cases eo : S.get o with
        | none => rw [st_put2 e c eo]
        | some y => rw [st_put3 e c eo] at h; exact absurd rfl h
  | empty b s =>
    cases e : S.get b with
    | none => rw [st_empty0 e]
    | some x =>
      by_cases c : s < 0 ∨ (x.sl.length : Int) ≤ s
      · rw [st_empty1 e c]
      · rw [st_empty2 e c] at h; exact absurd rfl h
  | take b =>
    cases e : S.get b with
    | none => rw [st_take0 e]
    | some x => rw [st_take1 e] at h; exact absurd rfl h
  | drop b =>
    cases e : S.get b with
    | none => rw [st_drop0 e]
    | some x =>
      by_cases c : x.hand = false
      · rw [st_drop1 e c]
      · rw [st_drop2 e c] at h; exact absurd rfl h
  | pair x k o =>
    rw [st_pair] at h ⊢
    by_cases c : S.get x = none ∨ S.get k = none ∨ S.get o = none
    · rw [if_pos c]
    · rw [if_neg c] at h ⊢
      by_cases c2 : S.ps.length = 60
      · rw [if_pos c2]
      · rw [if_neg c2] at h; exact absurd rfl h
  | unpair n =>
    cases e : S.ps.lookup n with
    | none => rw [st_unpair0 e]
    | some y => rw [st_unpair1 e] at h; exact absurd rfl h
  | will b ds =>
    cases e : S.get b with
    | none => rw [st_will0 e]
    | some x =>
      by_cases c : 9 < ds.length ∨ ds.any Deed.isNeg = true
      · rw [st_will1 e c]
      · rw [st_will2 e c] at h; exact absurd rfl h
theorem Good.any {S : Ch} (G : Good S) (d : LD) : Good (S.step d).2.2 := by
  by_cases c : (S.step d).1 = ""
  · exact G.step c
  · rw [step_no c]; exact G
theorem WOk.box {S : Ch} (h : WOk S) {b : Int} {y : Bx} (l : y.will.length ≤ 9 ∧ y.will.any Deed.isNeg = false) : WOk (S.box b y) := fun e m => by
  obtain ⟨e1, m1, ⟨q1, q2⟩ | ⟨q1, q2⟩⟩ := setB_mem (show e ∈ setB S.bs b fun _ => y from m)
  · rw [q2]; exact l
  · rw [q2]; exact h _ m1
theorem WOk.any {S : Ch} (h : WOk S) (d : LD) : WOk (S.step d).2.2 := by
  have old : ∀ {b : Int} {x : Bx}, S.get b = some x → x.will.length ≤ 9 ∧ x.will.any Deed.isNeg = false := fun e => h _ (lk_mem e)
  cases d with
  | make n =>
    rw [st_make]
    by_cases c : n < 0 ∨ 9 < n
    · rw [if_pos c]; exact h
    · rw [if_neg c]
      by_cases c2 : S.bs.length = 60
      · rw [if_pos c2]; exact h
      · rw [if_neg c2]
        intro e m
        rcases List.mem_append.mp (show e ∈ S.bs ++ [_] from m) with m | m
        · exact h e m
        · rw [List.mem_singleton.mp m]; exact ⟨Nat.zero_le _, rfl⟩
  | put b s o g =>
    cases e : S.get b with
    | none => rw [st_put0 e]; exact h
    | some x =>
      by_cases c : s < 0 ∨ (x.sl.length : Int) ≤ s
      · rw [st_put1 e c]; exact h
      · cases eo : S.get o with
        | none => rw [st_put2 e c eo]; exact h
        | some y => rw [st_put3 e c eo]; exact h.box (old (x := x) e)
  | empty b s =>
    cases e : S.get b with
    | none => rw [st_empty0 e]; exact h
    | some x =>
      by_cases c : s < 0 ∨ (x.sl.length : Int) ≤ s
      · rw [st_empty1 e c]; exact h
      · rw [st_empty2 e c]; exact h.box (old (x := x) e)
  | take b =>
    cases e : S.get b with
    | none => rw [st_take0 e]; exact h
    | some x => rw [st_take1 e]; exact h.box (old (x := x) e)
  | drop b =>
    cases e : S.get b with
    | none => rw [st_drop0 e]; exact h
    | some x =>
      by_cases c : x.hand = false
      · rw [st_drop1 e c]; exact h
      · rw [st_drop2 e c]; exact h.box (old (x := x) e)
  | pair x k o =>
    rw [st_pair]
    by_cases c : S.get x = none ∨ S.get k = none ∨ S.get o = none
    · rw [if_pos c]; exact h
    · rw [if_neg c]
      by_cases c2 : S.ps.length = 60
      · rw [if_pos c2]; exact h
      · rw [if_neg c2]; exact h
  | unpair n =>
    cases e : S.ps.lookup n with
    | none => rw [st_unpair0 e]; exact h
    | some y => rw [st_unpair1 e]; exact h
  | will b ds =>
    cases e : S.get b with
    | none => rw [st_will0 e]; exact h
    | some x =>
      by_cases c : 9 < ds.length ∨ ds.any Deed.isNeg = true
      · rw [st_will1 e c]; exact h
      · rw [st_will2 e c]
        refine h.box ⟨by show ds.length ≤ 9; omega, ?_⟩
        show ds.any Deed.isNeg = false
        cases q : ds.any Deed.isNeg with
        | false => rfl
        | true => exact absurd (.inr q) c
/-- what a deed of a will changes: nothing, or one box, not its will -/
theorem deed_box (S : Ch) (b : Int) (d : Deed) : S.deedDone b d = S ∨ ∃ n x y, S.get n = some x ∧ y.will = x.will ∧ y.sl.length = x.sl.length ∧ S.deedDone b d = S.box n y := by
  unfold Ch.deedDone
  by_cases c : (S.step (d.ld b)).1 = ""
  · cases d with
    | up =>
      cases e : S.get b with
      | none => exact .inl (show (S.step (.take b)).2.2 = S by rw [st_take0 e])
      | some x => exact .inr ⟨b, x, { x with hand := true }, e, rfl, rfl, show (S.step (.take b)).2.2 = _ by rw [st_take1 e]⟩
    | down o =>
      cases e : S.get o with
      | none => exact .inl (show (S.step (.drop o)).2.2 = S by rw [st_drop0 e])
      | some x =>
        by_cases c : x.hand = false
        · exact .inl (show (S.step (.drop o)).2.2 = S by rw [st_drop1 e c])
        · exact .inr ⟨o, x, { x with hand := false }, e, rfl, rfl, show (S.step (.drop o)).2.2 = _ by rw [st_drop2 e c]⟩
    | hang o s h =>
      cases e : S.get o with
      | none => exact .inl (show (S.step (.put o s b h)).2.2 = S by rw [st_put0 e])
      | some x =>
        by_cases c : s < 0 ∨ (x.sl.length : Int) ≤ s
        · exact .inl (show (S.step (.put o s b h)).2.2 = S by rw [st_put1 e c])
        · cases eo : S.get b with
          | none => exact .inl (show (S.step (.put o s b h)).2.2 = S by rw [st_put2 e c eo])
          | some y => refine .inr ⟨o, x, { x with sl := x.sl.set s.toNat (some (b, h)) }, e, rfl, ?_, show (S.step (.put o s b h)).2.2 = _ by rw [st_put3 e c eo]⟩; show (x.sl.set s.toNat (some (b, h))).length = _; rw [List.length_set]
  · exact .inl (step_no c)
theorem box_keys (S : Ch) (n : Int) (y : Bx) : (S.box n y).bs.map (·.1) = S.bs.map (·.1) := setB_keys S.bs n fun _ => y
/-- alike but for slots and hands -/
structure Alike (S S' : Ch) : Prop where
  ks : S'.bs.map (·.1) = S.bs.map (·.1)
  nb : S'.nb = S.nb
  np : S'.np = S.np
  ps : S'.ps = S.ps
theorem Alike.refl (S : Ch) : Alike S S := ⟨rfl, rfl, rfl, rfl⟩
theorem Alike.trans {S T U : Ch} (h : Alike S T) (k : Alike T U) : Alike S U := ⟨k.ks.trans h.ks, k.nb.trans h.nb, k.np.trans h.np, k.ps.trans h.ps⟩
theorem Alike.box (S : Ch) (n : Int) (y : Bx) : Alike S (S.box n y) := ⟨box_keys S n y, rfl, rfl, rfl⟩
theorem Alike.get {S S' : Ch} (h : Alike S S') {n : Int} : S'.get n ≠ none ↔ S.get n ≠ none := by rw [get_mem, get_mem, h.ks]
theorem deed_alike (S : Ch) (b : Int) (d : Deed) : Alike S (S.deedDone b d) := by
  rcases deed_box S b d with e | ⟨n, x, y, _, _, _, e⟩
  · rw [e]; exact .refl S
  · rw [e]; exact .box S n y
theorem deeds_alike (b : Int) : ∀ (ds : List Deed) (S : Ch), Alike S (S.deedsDone b ds)
  | [], S => .refl S
  | d :: ds, S => (deed_alike S b d).trans (deeds_alike b ds (S.deedDone b d))
theorem unwill_alike (S : Ch) (b : Int) : Alike S (S.unwill b) := by
  unfold Ch.unwill
  cases e : S.get b with
  | none => rw [st_will0 e]; exact .refl S
  | some x => rw [st_will2 e (by simp)]; exact .box S b _
theorem will_alike (S : Ch) (b : Int) : Alike S (S.willDone b) := (unwill_alike S b).trans (deeds_alike b _ _)
theorem wills_alike : ∀ (bs : List Int) (S : Ch), Alike S (S.willsDone bs)
  | [], S => .refl S
  | b :: bs, S => (will_alike S b).trans (wills_alike bs (S.willDone b))
theorem willOf_box {S : Ch} {n m : Int} {x y : Bx} (e : S.get n = some x) : (S.box n y).willOf m = if m = n then y.will else S.willOf m := by
  unfold Ch.willOf
  rw [sget_box e]
  by_cases c : m = n
  · rw [if_pos c, if_pos c]
  · rw [if_neg c, if_neg c]
theorem deed_will (S : Ch) (b : Int) (d : Deed) (m : Int) : (S.deedDone b d).willOf m = S.willOf m := by
  rcases deed_box S b d with e | ⟨n, x, y, e1, e2, _, e⟩
  · rw [e]
  · rw [e, willOf_box e1]
    by_cases c : m = n
    · rw [if_pos c, e2, c]; unfold Ch.willOf; rw [e1]
    · rw [if_neg c]
theorem deeds_will (b m : Int) : ∀ (ds : List Deed) (S : Ch), (S.deedsDone b ds).willOf m = S.willOf m
  | [], S => rfl
  | d :: ds, S => (deeds_will b m ds (S.deedDone b d)).trans (deed_will S b d m)
theorem unwill_will (S : Ch) (b m : Int) : (S.unwill b).willOf m = if m = b then [] else S.willOf m := by
  unfold Ch.unwill
  cases e : S.get b with
  | none =>
    rw [st_will0 e]
    by_cases c : m = b
    · rw [if_pos c, c]; show S.willOf b = []; unfold Ch.willOf; rw [e]
    · rw [if_neg c]
  | some x => rw [st_will2 e (by simp)]; exact willOf_box e
theorem will_will (S : Ch) (b m : Int) : (S.willDone b).willOf m = if m = b then [] else S.willOf m := (deeds_will b m _ _).trans (unwill_will S b m)
theorem wills_will : ∀ (bs : List Int) (S : Ch) (m : Int), (S.willsDone bs).willOf m = if m ∈ bs then [] else S.willOf m
  | [], S, m => by rw [if_neg (fun z => nomatch z)]; rfl
  | b :: bs, S, m => by
    show ((S.willDone b).willsDone bs).willOf m = _
    rw [wills_will bs, will_will]
    by_cases c : m ∈ bs
    · rw [if_pos c, if_pos (List.mem_cons_of_mem _ c)]
    · rw [if_neg c]
      by_cases d : m = b
      · rw [if_pos d, if_pos (by rw [d]; exact List.mem_cons_self)]
      · rw [if_neg d, if_neg (fun z => (List.mem_cons.mp z).elim d c)]
theorem deeds_good (b : Int) : ∀ (ds : List Deed) {S : Ch}, Good S → Good (S.deedsDone b ds)
  | [], _, G => G
  | d :: ds, _, G => deeds_good b ds (G.any (d.ld b))
theorem deeds_wok (b : Int) : ∀ (ds : List Deed) {S : Ch}, WOk S → WOk (S.deedsDone b ds)
  | [], _, G => G
  | d :: ds, _, G => deeds_wok b ds (G.any (d.ld b))
theorem Good.willDone {S : Ch} (G : Good S) (b : Int) : Good (S.willDone b) := deeds_good b _ (G.any (.will b []))
theorem WOk.willDone {S : Ch} (G : WOk S) (b : Int) : WOk (S.willDone b) := deeds_wok b _ (G.any (.will b []))
theorem Good.willsDone : ∀ (bs : List Int) {S : Ch}, Good S → Good (S.willsDone bs)
  | [], _, G => G
  | b :: bs, _, G => Good.willsDone bs (G.willDone b)
theorem WOk.willsDone : ∀ (bs : List Int) {S : Ch}, WOk S → WOk (S.willsDone bs)
  | [], _, G => G
  | b :: bs, _, G => WOk.willsDone bs (G.willDone b)
/-! ### given up -/
theorem up_keys (S : Ch) (gs : List Int) : (S.givenUp gs).bs.map (·.1) = (S.bs.map (·.1)).filter fun b => decide (b ∉ gs) := by
  unfold Ch.givenUp
  show ((S.bs.filter fun e => decide (e.1 ∉ gs)).map _).map _ = _
  rw [List.map_map, List.filter_map]
  rfl
theorem up_get {S : Ch} {gs : List Int} {n : Int} : (S.givenUp gs).get n ≠ none ↔ S.get n ≠ none ∧ n ∉ gs := by
  rw [get_mem, get_mem, up_keys, List.mem_filter]; simp
theorem clear_some {gs : List Int} {v : Option (Int × Bool)} {o : Int} {h : Bool} : clearS gs v = some (o, h) ↔ v = some (o, h) ∧ o ∉ gs := by
  cases v with
  | none => simp [clearS]
  | some x =>
    obtain ⟨o', h'⟩ := x
    show (if o' ∈ gs then none else some (o', h')) = _ ↔ _
    by_cases c : o' ∈ gs
    · rw [if_pos c]
      constructor
      · exact fun z => nomatch z
      · rintro ⟨z, n⟩; cases z; exact absurd c n
    · rw [if_neg c]
      constructor
      · intro z; cases z; exact ⟨rfl, c⟩
      · rintro ⟨z, _⟩; exact z
theorem Good.givenUp {S : Ch} (G : Good S) (gs : List Int) : Good (S.givenUp gs) := by
  have mb : ∀ e ∈ (S.givenUp gs).bs, ∃ x, (e.1, x) ∈ S.bs ∧ e.1 ∉ gs ∧ e.2.sl = x.sl.map (clearS gs) := fun e m => by
    obtain ⟨e0, m0, rfl⟩ := List.mem_map.mp m
    obtain ⟨m1, m2⟩ := List.mem_filter.mp m0
    exact ⟨e0.2, m1, by simpa using m2, rfl⟩
  refine ⟨by rw [up_keys]; exact G.kb.sublist List.filter_sublist, fun e m => ?_, G.kp.sublist (List.Sublist.map _ List.filter_sublist), fun e m => G.lp e (List.mem_filter.mp m).1, fun e m i o h z => ?_, fun e m => ?_, ?_, Nat.le_trans (List.length_filter_le _ _) G.zp, fun e m => ?_, G.nn⟩
  · obtain ⟨x, m1, _, _⟩ := mb e m; exact G.lb (e.1, x) m1
  · obtain ⟨x, m1, _, q⟩ := mb e m
    rw [q, List.getElem?_map] at z
    obtain ⟨v, hv, e2⟩ := Option.map_eq_some_iff.mp z
    obtain ⟨e3, no⟩ := clear_some.mp e2
    subst e3
    exact up_get.mpr ⟨G.sl _ m1 i o h hv, no⟩
  · obtain ⟨m1, m2⟩ := List.mem_filter.mp m
    have m2 : e.2.1 ∉ gs ∧ e.2.2.1 ∉ gs ∧ e.2.2.2 ∉ gs := by simpa using m2
    obtain ⟨g1, g2, g3⟩ := G.pr e m1
    exact ⟨up_get.mpr ⟨g1, m2.1⟩, up_get.mpr ⟨g2, m2.2.1⟩, up_get.mpr ⟨g3, m2.2.2⟩⟩
  · have := congrArg List.length (up_keys S gs)
    rw [List.length_map] at this
    rw [this]
    refine Nat.le_trans (List.length_filter_le _ _) ?_
    rw [List.length_map]; exact G.zb
  · obtain ⟨x, m1, _, q⟩ := mb e m
    rw [q, List.length_map]; exact G.zs _ m1
theorem WOk.givenUp {S : Ch} (h : WOk S) (gs : List Int) : WOk (S.givenUp gs) := fun e m => by
  obtain ⟨e0, m0, rfl⟩ := List.mem_map.mp m
  exact h e0 (List.mem_filter.mp m0).1
/-! ### the order: each once -/
theorem ord_perm {S : Ch} {g : List Int} : ∀ (n : Nat) (l : List Int), l.length = n → (ordN S g n l).Perm l
  | 0, l, h => by rw [List.length_eq_zero_iff.mp h]; exact .nil
  | n + 1, l, h => by
    have hl : l ≠ [] := fun z => by rw [z] at h; cases h
    obtain ⟨b, r, eb, mb⟩ := free_cons (S := S) (g := g) hl
    rw [ord_step eb]
    have := List.length_erase_of_mem mb
    exact (List.Perm.cons b (ord_perm n (l.erase b) (by omega))).trans (List.perm_cons_erase mb).symm
end LW
/-! # len(set(list of ints)) -/
namespace LW
open PySem PySem.Spec PyProof.Rows L2
theorem g_lenSetI {K : PySem.W.Frag} {ta : TE} {σ : L2.St} {H : Hp} {Q : VK} (h : ta σ H fun x H1 => ∃ (l : Addr) (ns : List Int), x = .ref l ∧ SqL K H1 l (ns.map V.int) ∧ ns.Nodup ∧ ns.length ≤ 4000 ∧ Q (.int (ns.length : Nat)) H1) : RZ.tLenSetI K ta σ H Q := h
end LW
namespace LW
open PySem PySem.Spec PyProof.Rows L2
def topS (i : Nat) : Stmt := PySem.Challenge.pw_lastwill_k10_whole_wills_once.main.body.getD i (.Pass ⟨0, 0, 0, 0⟩)
abbrev s_held_by : Stmt := topS 1
abbrev N_held_by : List Str := ["chest", "reached", "held", "box", "slot", "other", "holds", "pair", "home", "key", "value"]
theorem sc_held_by : FnScope N_held_by ["chest", "reached"] (defScope s_held_by) := ⟨rfl, rfl, rfl, by decide +kernel, rfl, by decide +kernel, by decide +kernel⟩
abbrev s_come_to : Stmt := topS 2
abbrev N_come_to : List Str := ["chest", "reached", "fresh", "box", "why"]
theorem sc_come_to : FnScope N_come_to ["chest"] (defScope s_come_to) := ⟨rfl, rfl, rfl, by decide +kernel, rfl, by decide +kernel, by decide +kernel⟩
abbrev s_lost : Stmt := topS 3
abbrev N_lost : List Str := ["chest", "reached", "box"]
theorem sc_lost : FnScope N_lost ["chest"] (defScope s_lost) := ⟨rfl, rfl, rfl, by decide +kernel, rfl, by decide +kernel, by decide +kernel⟩
abbrev s_steps_among : Stmt := topS 5
abbrev N_steps_among : List Str := ["chest", "boxes", "steps", "box", "_", "other", "holds", "home", "key", "value"]
theorem sc_steps_among : FnScope N_steps_among ["chest", "boxes"] (defScope s_steps_among) := ⟨rfl, rfl, rfl, by decide +kernel, rfl, by decide +kernel, by decide +kernel⟩
abbrev s_younger_than : Stmt := topS 6
abbrev N_younger_than : List Str := ["box", "steps", "found", "ahead", "other"]
theorem sc_younger_than : FnScope N_younger_than ["box", "steps"] (defScope s_younger_than) := ⟨rfl, rfl, rfl, by decide +kernel, rfl, by decide +kernel, by decide +kernel⟩
abbrev s_is_free : Stmt := topS 7
abbrev N_is_free : List Str := ["box", "left", "younger", "other"]
theorem sc_is_free : FnScope N_is_free ["box", "left", "younger"] (defScope s_is_free) := ⟨rfl, rfl, rfl, by decide +kernel, rfl, by decide +kernel, by decide +kernel⟩
abbrev s_order_of_wills : Stmt := topS 8
abbrev N_order_of_wills : List Str := ["chest", "boxes", "steps", "left", "younger", "order", "first", "box"]
theorem sc_order_of_wills : FnScope N_order_of_wills ["chest"] (defScope s_order_of_wills) := ⟨rfl, rfl, rfl, by decide +kernel, rfl, by decide +kernel, by decide +kernel⟩
abbrev s_do_deed : Stmt := topS 9
abbrev N_do_deed : List Str := ["chest", "box", "deed", "other", "slot", "holds"]
theorem sc_do_deed : FnScope N_do_deed ["chest", "box", "deed"] (defScope s_do_deed) := ⟨rfl, rfl, rfl, by decide +kernel, rfl, by decide +kernel, by decide +kernel⟩
abbrev s_do_will : Stmt := topS 10
abbrev N_do_will : List Str := ["chest", "box", "deeds", "deed"]
theorem sc_do_will : FnScope N_do_will ["chest", "box"] (defScope s_do_will) := ⟨rfl, rfl, rfl, by decide +kernel, rfl, by decide +kernel, by decide +kernel⟩
abbrev s_sweep : Stmt := topS 11
abbrev N_sweep : List Str := ["chest", "lost_ahead", "order", "box", "lost_behind", "given_up", "staying"]
theorem sc_sweep : FnScope N_sweep ["chest"] (defScope s_sweep) := ⟨rfl, rfl, rfl, by decide +kernel, rfl, by decide +kernel, by decide +kernel⟩
abbrev s_has_number_below_0 : Stmt := topS 25
abbrev N_has_number_below_0 : List Str := ["deed", "number"]
theorem sc_has_number_below_0 : FnScope N_has_number_below_0 ["deed"] (defScope s_has_number_below_0) := ⟨rfl, rfl, rfl, by decide +kernel, rfl, by decide +kernel, by decide +kernel⟩
abbrev s_Box__init_ : Stmt := inClass (topS 26) 0
abbrev N_Box__init_ : List Str := ["self", "size"]
theorem sc_Box__init_ : FnScope N_Box__init_ ["self", "size"] (defScope s_Box__init_) := ⟨rfl, rfl, rfl, by decide +kernel, rfl, by decide +kernel, by decide +kernel⟩
abbrev s_Chest__init_ : Stmt := inClass (topS 27) 0
abbrev N_Chest__init_ : List Str := ["self"]
theorem sc_Chest__init_ : FnScope N_Chest__init_ ["self"] (defScope s_Chest__init_) := ⟨rfl, rfl, rfl, by decide +kernel, rfl, by decide +kernel, by decide +kernel⟩
abbrev s_Chest_make : Stmt := inClass (topS 27) 1
abbrev N_Chest_make : List Str := ["self", "size", "box"]
theorem sc_Chest_make : FnScope N_Chest_make ["self", "size"] (defScope s_Chest_make) := ⟨rfl, rfl, rfl, by decide +kernel, rfl, by decide +kernel, by decide +kernel⟩
abbrev s_Chest_boxes : Stmt := inClass (topS 27) 2
abbrev N_Chest_boxes : List Str := ["self"]
theorem sc_Chest_boxes : FnScope N_Chest_boxes ["self"] (defScope s_Chest_boxes) := ⟨rfl, rfl, rfl, by decide +kernel, rfl, by decide +kernel, by decide +kernel⟩
abbrev s_Chest_size : Stmt := inClass (topS 27) 3
abbrev N_Chest_size : List Str := ["self", "box"]
theorem sc_Chest_size : FnScope N_Chest_size ["self", "box"] (defScope s_Chest_size) := ⟨rfl, rfl, rfl, by decide +kernel, rfl, by decide +kernel, by decide +kernel⟩
abbrev s_Chest_put : Stmt := inClass (topS 27) 4
abbrev N_Chest_put : List Str := ["self", "box", "slot", "other", "holds", "slots"]
theorem sc_Chest_put : FnScope N_Chest_put ["self", "box", "slot", "other", "holds"] (defScope s_Chest_put) := ⟨rfl, rfl, rfl, by decide +kernel, rfl, by decide +kernel, by decide +kernel⟩
abbrev s_Chest_empty : Stmt := inClass (topS 27) 5
abbrev N_Chest_empty : List Str := ["self", "box", "slot", "slots"]
theorem sc_Chest_empty : FnScope N_Chest_empty ["self", "box", "slot"] (defScope s_Chest_empty) := ⟨rfl, rfl, rfl, by decide +kernel, rfl, by decide +kernel, by decide +kernel⟩
abbrev s_Chest_told : Stmt := inClass (topS 27) 6
abbrev N_Chest_told : List Str := ["self", "box", "slot"]
theorem sc_Chest_told : FnScope N_Chest_told ["self", "box", "slot"] (defScope s_Chest_told) := ⟨rfl, rfl, rfl, by decide +kernel, rfl, by decide +kernel, by decide +kernel⟩
abbrev s_Chest_tellings : Stmt := inClass (topS 27) 7
abbrev N_Chest_tellings : List Str := ["self", "box", "slot", "told"]
theorem sc_Chest_tellings : FnScope N_Chest_tellings ["self"] (defScope s_Chest_tellings) := ⟨rfl, rfl, rfl, by decide +kernel, rfl, by decide +kernel, by decide +kernel⟩
abbrev s_Chest_take : Stmt := inClass (topS 27) 8
abbrev N_Chest_take : List Str := ["self", "box", "kept"]
theorem sc_Chest_take : FnScope N_Chest_take ["self", "box"] (defScope s_Chest_take) := ⟨rfl, rfl, rfl, by decide +kernel, rfl, by decide +kernel, by decide +kernel⟩
abbrev s_Chest_drop : Stmt := inClass (topS 27) 9
abbrev N_Chest_drop : List Str := ["self", "box", "kept"]
theorem sc_Chest_drop : FnScope N_Chest_drop ["self", "box"] (defScope s_Chest_drop) := ⟨rfl, rfl, rfl, by decide +kernel, rfl, by decide +kernel, by decide +kernel⟩
abbrev s_Chest_hands : Stmt := inClass (topS 27) 10
abbrev N_Chest_hands : List Str := ["self", "box"]
theorem sc_Chest_hands : FnScope N_Chest_hands ["self"] (defScope s_Chest_hands) := ⟨rfl, rfl, rfl, by decide +kernel, rfl, by decide +kernel, by decide +kernel⟩
abbrev s_Chest_pair : Stmt := inClass (topS 27) 11
abbrev N_Chest_pair : List Str := ["self", "home", "key", "other", "box", "pair"]
theorem sc_Chest_pair : FnScope N_Chest_pair ["self", "home", "key", "other"] (defScope s_Chest_pair) := ⟨rfl, rfl, rfl, by decide +kernel, rfl, by decide +kernel, by decide +kernel⟩
abbrev s_Chest_unpair : Stmt := inClass (topS 27) 12
abbrev N_Chest_unpair : List Str := ["self", "pair"]
theorem sc_Chest_unpair : FnScope N_Chest_unpair ["self", "pair"] (defScope s_Chest_unpair) := ⟨rfl, rfl, rfl, by decide +kernel, rfl, by decide +kernel, by decide +kernel⟩
abbrev s_Chest_pairs : Stmt := inClass (topS 27) 13
abbrev N_Chest_pairs : List Str := ["self", "pair"]
theorem sc_Chest_pairs : FnScope N_Chest_pairs ["self"] (defScope s_Chest_pairs) := ⟨rfl, rfl, rfl, by decide +kernel, rfl, by decide +kernel, by decide +kernel⟩
abbrev s_Chest_bequeath : Stmt := inClass (topS 27) 14
abbrev N_Chest_bequeath : List Str := ["self", "box", "deeds", "kept", "deed"]
theorem sc_Chest_bequeath : FnScope N_Chest_bequeath ["self", "box", "deeds"] (defScope s_Chest_bequeath) := ⟨rfl, rfl, rfl, by decide +kernel, rfl, by decide +kernel, by decide +kernel⟩
abbrev s_Chest_will : Stmt := inClass (topS 27) 15
abbrev N_Chest_will : List Str := ["self", "box"]
theorem sc_Chest_will : FnScope N_Chest_will ["self", "box"] (defScope s_Chest_will) := ⟨rfl, rfl, rfl, by decide +kernel, rfl, by decide +kernel, by decide +kernel⟩
abbrev s_Chest_give_up : Stmt := inClass (topS 27) 16
abbrev N_Chest_give_up : List Str := ["self", "boxes", "box", "slot", "other", "_", "pair", "ends", "end"]
theorem sc_Chest_give_up : FnScope N_Chest_give_up ["self", "boxes"] (defScope s_Chest_give_up) := ⟨rfl, rfl, rfl, by decide +kernel, rfl, by decide +kernel, by decide +kernel⟩
abbrev s_Chest_kept_box : Stmt := inClass (topS 27) 17
abbrev N_Chest_kept_box : List Str := ["self", "box"]
theorem sc_Chest_kept_box : FnScope N_Chest_kept_box ["self", "box"] (defScope s_Chest_kept_box) := ⟨rfl, rfl, rfl, by decide +kernel, rfl, by decide +kernel, by decide +kernel⟩
abbrev s_Chest_slots_with : Stmt := inClass (topS 27) 18
abbrev N_Chest_slots_with : List Str := ["self", "box", "slot", "slots"]
theorem sc_Chest_slots_with : FnScope N_Chest_slots_with ["self", "box", "slot"] (defScope s_Chest_slots_with) := ⟨rfl, rfl, rfl, by decide +kernel, rfl, by decide +kernel, by decide +kernel⟩
abbrev s_law_cell_at : Stmt := topS 29
abbrev N_law_cell_at : List Str := ["_law_script", "_law_k"]
theorem sc_law_cell_at : FnScope N_law_cell_at ["_law_script", "_law_k"] (defScope s_law_cell_at) := ⟨rfl, rfl, rfl, by decide +kernel, rfl, by decide +kernel, by decide +kernel⟩
abbrev s_law_whole : Stmt := topS 30
abbrev N_law_whole : List Str := ["_law_found"]
theorem sc_law_whole : FnScope N_law_whole ["_law_found"] (defScope s_law_whole) := ⟨rfl, rfl, rfl, by decide +kernel, rfl, by decide +kernel, by decide +kernel⟩
abbrev s_law_mixed : Stmt := topS 31
abbrev N_law_mixed : List Str := ["_law_cell", "_law_k", "_law_many", "_law_some", "_law_made"]
theorem sc_law_mixed : FnScope N_law_mixed ["_law_cell", "_law_k", "_law_many"] (defScope s_law_mixed) := ⟨rfl, rfl, rfl, by decide +kernel, rfl, by decide +kernel, by decide +kernel⟩
abbrev s_law_numbers : Stmt := topS 32
abbrev N_law_numbers : List Str := ["_law_found", "_law_due", "_law_k"]
theorem sc_law_numbers : FnScope N_law_numbers ["_law_found", "_law_due"] (defScope s_law_numbers) := ⟨rfl, rfl, rfl, by decide +kernel, rfl, by decide +kernel, by decide +kernel⟩
abbrev s_law_told : Stmt := topS 34
abbrev N_law_told : List Str := ["_law_chest", "_law_deed"]
theorem sc_law_told : FnScope N_law_told ["_law_chest", "_law_deed"] (defScope s_law_told) := ⟨rfl, rfl, rfl, by decide +kernel, rfl, by decide +kernel, by decide +kernel⟩
abbrev s_law_will_of : Stmt := topS 36
abbrev N_law_will_of : List Str := ["_law_boxes", "_law_cell", "_law_coming", "_law_deeds", "_law_k", "_law_other", "_law_way"]
theorem sc_law_will_of : FnScope N_law_will_of ["_law_boxes", "_law_cell", "_law_coming"] (defScope s_law_will_of) := ⟨rfl, rfl, rfl, by decide +kernel, rfl, by decide +kernel, by decide +kernel⟩
abbrev s_law_deed_by : Stmt := topS 37
abbrev N_law_deed_by : List Str := ["_law_cell", "_law_world_here", "_law_boxes", "_law_hands", "_law_pairs", "_law_way", "_law_box", "_law_other", "_law_size"]
theorem sc_law_deed_by : FnScope N_law_deed_by ["_law_cell", "_law_world_here"] (defScope s_law_deed_by) := ⟨rfl, rfl, rfl, by decide +kernel, rfl, by decide +kernel, by decide +kernel⟩
abbrev s_law_laid : Stmt := topS 38
abbrev N_law_laid : List Str := ["_law_far", "_law_many", "_law_deeds", "_law_step", "_law_box", "_law_other", "_law_way", "_law_will"]
theorem sc_law_laid : FnScope N_law_laid ["_law_far"] (defScope s_law_laid) := ⟨rfl, rfl, rfl, by decide +kernel, rfl, by decide +kernel, by decide +kernel⟩
abbrev s_law_cells : Stmt := topS 39
abbrev N_law_cells : List Str := ["_law_script", "_law_far", "_law_k"]
theorem sc_law_cells : FnScope N_law_cells ["_law_script"] (defScope s_law_cells) := ⟨rfl, rfl, rfl, by decide +kernel, rfl, by decide +kernel, by decide +kernel⟩
abbrev s_law_view : Stmt := topS 40
abbrev N_law_view : List Str := ["_law_chest", "_law_slots", "_law_box", "_law_hands", "_law_pairs", "_law_one", "_law_wills", "_law_slot"]
theorem sc_law_view : FnScope N_law_view ["_law_chest"] (defScope s_law_view) := ⟨rfl, rfl, rfl, by decide +kernel, rfl, by decide +kernel, by decide +kernel⟩
abbrev s_law_three : Stmt := topS 41
abbrev N_law_three : List Str := ["_law_found", "_law_one", "_law_box"]
theorem sc_law_three : FnScope N_law_three ["_law_found"] (defScope s_law_three) := ⟨rfl, rfl, rfl, by decide +kernel, rfl, by decide +kernel, by decide +kernel⟩
abbrev s_law_once : Stmt := topS 42
abbrev N_law_once : List Str := ["_law_chest", "_law_wills", "_law_begun", "_law_order", "_law_found", "_law_box"]
theorem sc_law_once : FnScope N_law_once ["_law_chest", "_law_wills"] (defScope s_law_once) := ⟨rfl, rfl, rfl, by decide +kernel, rfl, by decide +kernel, by decide +kernel⟩
abbrev s_law : Stmt := topS 43
abbrev N_law : List Str := ["_law_script", "_law_chest", "_law_coming", "_law_wills", "_law_cells_here", "_law_k", "_law_deed"]
theorem sc_law : FnScope N_law ["_law_script"] (defScope s_law) := ⟨rfl, rfl, rfl, by decide +kernel, rfl, by decide +kernel, by decide +kernel⟩

structure Ad where
  WillError : Addr
  NoBox : Addr
  NoSlot : Addr
  NoHand : Addr
  NoPair : Addr
  NoWill : Addr
  TooMany : Addr
  Box : Addr
  Chest : Addr
  f_held_by : Addr
  fd_held_by : FuncData
  f_come_to : Addr
  fd_come_to : FuncData
  f_lost : Addr
  fd_lost : FuncData
  f_steps_among : Addr
  fd_steps_among : FuncData
  f_younger_than : Addr
  fd_younger_than : FuncData
  f_is_free : Addr
  fd_is_free : FuncData
  f_order_of_wills : Addr
  fd_order_of_wills : FuncData
  f_do_deed : Addr
  fd_do_deed : FuncData
  f_do_will : Addr
  fd_do_will : FuncData
  f_sweep : Addr
  fd_sweep : FuncData
  f_has_number_below_0 : Addr
  fd_has_number_below_0 : FuncData
  f_Box__init_ : Addr
  fd_Box__init_ : FuncData
  f_Chest__init_ : Addr
  fd_Chest__init_ : FuncData
  f_Chest_make : Addr
  fd_Chest_make : FuncData
  f_Chest_boxes : Addr
  fd_Chest_boxes : FuncData
  f_Chest_size : Addr
  fd_Chest_size : FuncData
  f_Chest_put : Addr
  fd_Chest_put : FuncData
  f_Chest_empty : Addr
  fd_Chest_empty : FuncData
  f_Chest_told : Addr
  fd_Chest_told : FuncData
  f_Chest_tellings : Addr
  fd_Chest_tellings : FuncData
  f_Chest_take : Addr
  fd_Chest_take : FuncData
  f_Chest_drop : Addr
  fd_Chest_drop : FuncData
  f_Chest_hands : Addr
  fd_Chest_hands : FuncData
  f_Chest_pair : Addr
  fd_Chest_pair : FuncData
  f_Chest_unpair : Addr
  fd_Chest_unpair : FuncData
  f_Chest_pairs : Addr
  fd_Chest_pairs : FuncData
  f_Chest_bequeath : Addr
  fd_Chest_bequeath : FuncData
  f_Chest_will : Addr
  fd_Chest_will : FuncData
  f_Chest_give_up : Addr
  fd_Chest_give_up : FuncData
  f_Chest_kept_box : Addr
  fd_Chest_kept_box : FuncData
  f_Chest_slots_with : Addr
  fd_Chest_slots_with : FuncData
  f_law_cell_at : Addr
  fd_law_cell_at : FuncData
  f_law_whole : Addr
  fd_law_whole : FuncData
  f_law_mixed : Addr
  fd_law_mixed : FuncData
  f_law_numbers : Addr
  fd_law_numbers : FuncData
  f_law_told : Addr
  fd_law_told : FuncData
  f_law_will_of : Addr
  fd_law_will_of : FuncData
  f_law_deed_by : Addr
  fd_law_deed_by : FuncData
  f_law_laid : Addr
  fd_law_laid : FuncData
  f_law_cells : Addr
  fd_law_cells : FuncData
  f_law_view : Addr
  fd_law_view : FuncData
  f_law_three : Addr
  fd_law_three : FuncData
  f_law_once : Addr
  fd_law_once : FuncData
  f_law : Addr
  fd_law : FuncData
  t_LARGEST_SIZE : Tok
  t_MOST_BOXES : Tok
  t_MOST_PAIRS : Tok
  t_MOST_DEEDS : Tok
structure Txt (a : Ad) (K : PySem.W.Frag) (mg : Str → Option Value) : Prop where
  F_held_by : Fun K "held_by" "held_by" s_held_by a.f_held_by a.fd_held_by
  b_held_by : Binds K a.fd_held_by ["chest", "reached"] []
  mg_held_by : mg "held_by" = some (.ref a.f_held_by)
  F_come_to : Fun K "come_to" "come_to" s_come_to a.f_come_to a.fd_come_to
  b_come_to : Binds K a.fd_come_to ["chest"] []
  mg_come_to : mg "come_to" = some (.ref a.f_come_to)
  F_lost : Fun K "lost" "lost" s_lost a.f_lost a.fd_lost
  b_lost : Binds K a.fd_lost ["chest"] []
  mg_lost : mg "lost" = some (.ref a.f_lost)
  F_steps_among : Fun K "steps_among" "steps_among" s_steps_among a.f_steps_among a.fd_steps_among
  b_steps_among : Binds K a.fd_steps_among ["chest", "boxes"] []
  mg_steps_among : mg "steps_among" = some (.ref a.f_steps_among)
  F_younger_than : Fun K "younger_than" "younger_than" s_younger_than a.f_younger_than a.fd_younger_than
  b_younger_than : Binds K a.fd_younger_than ["box", "steps"] []
  mg_younger_than : mg "younger_than" = some (.ref a.f_younger_than)
  F_is_free : Fun K "is_free" "is_free" s_is_free a.f_is_free a.fd_is_free
  b_is_free : Binds K a.fd_is_free ["box", "left", "younger"] []
  mg_is_free : mg "is_free" = some (.ref a.f_is_free)
  F_order_of_wills : Fun K "order_of_wills" "order_of_wills" s_order_of_wills a.f_order_of_wills a.fd_order_of_wills
  b_order_of_wills : Binds K a.fd_order_of_wills ["chest"] []
  mg_order_of_wills : mg "order_of_wills" = some (.ref a.f_order_of_wills)
  F_do_deed : Fun K "do_deed" "do_deed" s_do_deed a.f_do_deed a.fd_do_deed
  b_do_deed : Binds K a.fd_do_deed ["chest", "box", "deed"] []
  mg_do_deed : mg "do_deed" = some (.ref a.f_do_deed)
  F_do_will : Fun K "do_will" "do_will" s_do_will a.f_do_will a.fd_do_will
  b_do_will : Binds K a.fd_do_will ["chest", "box"] []
  mg_do_will : mg "do_will" = some (.ref a.f_do_will)
  F_sweep : Fun K "sweep" "sweep" s_sweep a.f_sweep a.fd_sweep
  b_sweep : Binds K a.fd_sweep ["chest"] []
  mg_sweep : mg "sweep" = some (.ref a.f_sweep)
  F_has_number_below_0 : Fun K "has_number_below_0" "has_number_below_0" s_has_number_below_0 a.f_has_number_below_0 a.fd_has_number_below_0
  b_has_number_below_0 : Binds K a.fd_has_number_below_0 ["deed"] []
  mg_has_number_below_0 : mg "has_number_below_0" = some (.ref a.f_has_number_below_0)
  F_Box__init_ : Fun K "__init__" "Box.__init__" s_Box__init_ a.f_Box__init_ a.fd_Box__init_
  b_Box__init_ : Binds K a.fd_Box__init_ ["self", "size"] []
  F_Chest__init_ : Fun K "__init__" "Chest.__init__" s_Chest__init_ a.f_Chest__init_ a.fd_Chest__init_
  b_Chest__init_ : Binds K a.fd_Chest__init_ ["self"] []
  F_Chest_make : Fun K "make" "Chest.make" s_Chest_make a.f_Chest_make a.fd_Chest_make
  b_Chest_make : Binds K a.fd_Chest_make ["self", "size"] []
  m_Chest_make : Meth K a.Chest "make" a.f_Chest_make
  F_Chest_boxes : Fun K "boxes" "Chest.boxes" s_Chest_boxes a.f_Chest_boxes a.fd_Chest_boxes
  b_Chest_boxes : Binds K a.fd_Chest_boxes ["self"] []
  m_Chest_boxes : Meth K a.Chest "boxes" a.f_Chest_boxes
  F_Chest_size : Fun K "size" "Chest.size" s_Chest_size a.f_Chest_size a.fd_Chest_size
  b_Chest_size : Binds K a.fd_Chest_size ["self", "box"] []
  m_Chest_size : Meth K a.Chest "size" a.f_Chest_size
  F_Chest_put : Fun K "put" "Chest.put" s_Chest_put a.f_Chest_put a.fd_Chest_put
  b_Chest_put : Binds K a.fd_Chest_put ["self", "box", "slot", "other", "holds"] []
  m_Chest_put : Meth K a.Chest "put" a.f_Chest_put
  F_Chest_empty : Fun K "empty" "Chest.empty" s_Chest_empty a.f_Chest_empty a.fd_Chest_empty
  b_Chest_empty : Binds K a.fd_Chest_empty ["self", "box", "slot"] []
  m_Chest_empty : Meth K a.Chest "empty" a.f_Chest_empty
  F_Chest_told : Fun K "told" "Chest.told" s_Chest_told a.f_Chest_told a.fd_Chest_told
  b_Chest_told : Binds K a.fd_Chest_told ["self", "box", "slot"] []
  m_Chest_told : Meth K a.Chest "told" a.f_Chest_told
  F_Chest_tellings : Fun K "tellings" "Chest.tellings" s_Chest_tellings a.f_Chest_tellings a.fd_Chest_tellings
  b_Chest_tellings : Binds K a.fd_Chest_tellings ["self"] []
  m_Chest_tellings : Meth K a.Chest "tellings" a.f_Chest_tellings
  F_Chest_take : Fun K "take" "Chest.take" s_Chest_take a.f_Chest_take a.fd_Chest_take
  b_Chest_take : Binds K a.fd_Chest_take ["self", "box"] []
  m_Chest_take : Meth K a.Chest "take" a.f_Chest_take
  F_Chest_drop : Fun K "drop" "Chest.drop" s_Chest_drop a.f_Chest_drop a.fd_Chest_drop
  b_Chest_drop : Binds K a.fd_Chest_drop ["self", "box"] []
  m_Chest_drop : Meth K a.Chest "drop" a.f_Chest_drop
  F_Chest_hands : Fun K "hands" "Chest.hands" s_Chest_hands a.f_Chest_hands a.fd_Chest_hands
  b_Chest_hands : Binds K a.fd_Chest_hands ["self"] []
  m_Chest_hands : Meth K a.Chest "hands" a.f_Chest_hands
  F_Chest_pair : Fun K "pair" "Chest.pair" s_Chest_pair a.f_Chest_pair a.fd_Chest_pair
  b_Chest_pair : Binds K a.fd_Chest_pair ["self", "home", "key", "other"] []
  m_Chest_pair : Meth K a.Chest "pair" a.f_Chest_pair
  F_Chest_unpair : Fun K "unpair" "Chest.unpair" s_Chest_unpair a.f_Chest_unpair a.fd_Chest_unpair
  b_Chest_unpair : Binds K a.fd_Chest_unpair ["self", "pair"] []
  m_Chest_unpair : Meth K a.Chest "unpair" a.f_Chest_unpair
  F_Chest_pairs : Fun K "pairs" "Chest.pairs" s_Chest_pairs a.f_Chest_pairs a.fd_Chest_pairs
  b_Chest_pairs : Binds K a.fd_Chest_pairs ["self"] []
  m_Chest_pairs : Meth K a.Chest "pairs" a.f_Chest_pairs
  F_Chest_bequeath : Fun K "bequeath" "Chest.bequeath" s_Chest_bequeath a.f_Chest_bequeath a.fd_Chest_bequeath
  b_Chest_bequeath : Binds K a.fd_Chest_bequeath ["self", "box", "deeds"] []
  m_Chest_bequeath : Meth K a.Chest "bequeath" a.f_Chest_bequeath
  F_Chest_will : Fun K "will" "Chest.will" s_Chest_will a.f_Chest_will a.fd_Chest_will
  b_Chest_will : Binds K a.fd_Chest_will ["self", "box"] []
  m_Chest_will : Meth K a.Chest "will" a.f_Chest_will
  F_Chest_give_up : Fun K "give_up" "Chest.give_up" s_Chest_give_up a.f_Chest_give_up a.fd_Chest_give_up
  b_Chest_give_up : Binds K a.fd_Chest_give_up ["self", "boxes"] []
  m_Chest_give_up : Meth K a.Chest "give_up" a.f_Chest_give_up
  F_Chest_kept_box : Fun K "_kept_box" "Chest._kept_box" s_Chest_kept_box a.f_Chest_kept_box a.fd_Chest_kept_box
  b_Chest_kept_box : Binds K a.fd_Chest_kept_box ["self", "box"] []
  m_Chest_kept_box : Meth K a.Chest "_kept_box" a.f_Chest_kept_box
  F_Chest_slots_with : Fun K "_slots_with" "Chest._slots_with" s_Chest_slots_with a.f_Chest_slots_with a.fd_Chest_slots_with
  b_Chest_slots_with : Binds K a.fd_Chest_slots_with ["self", "box", "slot"] []
  m_Chest_slots_with : Meth K a.Chest "_slots_with" a.f_Chest_slots_with
  F_law_cell_at : Fun K "_law_cell_at" "_law_cell_at" s_law_cell_at a.f_law_cell_at a.fd_law_cell_at
  b_law_cell_at : Binds K a.fd_law_cell_at ["_law_script", "_law_k"] []
  mg_law_cell_at : mg "_law_cell_at" = some (.ref a.f_law_cell_at)
  F_law_whole : Fun K "_law_whole" "_law_whole" s_law_whole a.f_law_whole a.fd_law_whole
  b_law_whole : Binds K a.fd_law_whole ["_law_found"] []
  mg_law_whole : mg "_law_whole" = some (.ref a.f_law_whole)
  F_law_mixed : Fun K "_law_mixed" "_law_mixed" s_law_mixed a.f_law_mixed a.fd_law_mixed
  b_law_mixed : Binds K a.fd_law_mixed ["_law_cell", "_law_k", "_law_many"] []
  mg_law_mixed : mg "_law_mixed" = some (.ref a.f_law_mixed)
  F_law_numbers : Fun K "_law_numbers" "_law_numbers" s_law_numbers a.f_law_numbers a.fd_law_numbers
  b_law_numbers : Binds K a.fd_law_numbers ["_law_found", "_law_due"] []
  mg_law_numbers : mg "_law_numbers" = some (.ref a.f_law_numbers)
  F_law_told : Fun K "_law_told" "_law_told" s_law_told a.f_law_told a.fd_law_told
  b_law_told : Binds K a.fd_law_told ["_law_chest", "_law_deed"] []
  mg_law_told : mg "_law_told" = some (.ref a.f_law_told)
  F_law_will_of : Fun K "_law_will_of" "_law_will_of" s_law_will_of a.f_law_will_of a.fd_law_will_of
  b_law_will_of : Binds K a.fd_law_will_of ["_law_boxes", "_law_cell", "_law_coming"] []
  mg_law_will_of : mg "_law_will_of" = some (.ref a.f_law_will_of)
  F_law_deed_by : Fun K "_law_deed_by" "_law_deed_by" s_law_deed_by a.f_law_deed_by a.fd_law_deed_by
  b_law_deed_by : Binds K a.fd_law_deed_by ["_law_cell", "_law_world_here"] []
  mg_law_deed_by : mg "_law_deed_by" = some (.ref a.f_law_deed_by)
  F_law_laid : Fun K "_law_laid" "_law_laid" s_law_laid a.f_law_laid a.fd_law_laid
  b_law_laid : Binds K a.fd_law_laid ["_law_far"] []
  mg_law_laid : mg "_law_laid" = some (.ref a.f_law_laid)
  F_law_cells : Fun K "_law_cells" "_law_cells" s_law_cells a.f_law_cells a.fd_law_cells
  b_law_cells : Binds K a.fd_law_cells ["_law_script"] []
  mg_law_cells : mg "_law_cells" = some (.ref a.f_law_cells)
  F_law_view : Fun K "_law_view" "_law_view" s_law_view a.f_law_view a.fd_law_view
  b_law_view : Binds K a.fd_law_view ["_law_chest"] []
  mg_law_view : mg "_law_view" = some (.ref a.f_law_view)
  F_law_three : Fun K "_law_three" "_law_three" s_law_three a.f_law_three a.fd_law_three
  b_law_three : Binds K a.fd_law_three ["_law_found"] []
  mg_law_three : mg "_law_three" = some (.ref a.f_law_three)
  F_law_once : Fun K "_law_once" "_law_once" s_law_once a.f_law_once a.fd_law_once
  b_law_once : Binds K a.fd_law_once ["_law_chest", "_law_wills"] []
  mg_law_once : mg "_law_once" = some (.ref a.f_law_once)
  F_law : Fun K "law" "law" s_law a.f_law a.fd_law
  b_law : Binds K a.fd_law ["_law_script"] []
  mg_law : mg "law" = some (.ref a.f_law)
  cl_Box : Cls K a.Box
  mk_Box : Mk K a.Box a.f_Box__init_
  mg_Box : mg "Box" = some (.ref a.Box)
  na_Box_slots : NoAttr K a.Box "slots"
  na_Box_in_hands : NoAttr K a.Box "in_hands"
  na_Box_deeds : NoAttr K a.Box "deeds"
  cl_Chest : Cls K a.Chest
  mk_Chest : Mk K a.Chest a.f_Chest__init_
  mg_Chest : mg "Chest" = some (.ref a.Chest)
  na_Chest_next_box : NoAttr K a.Chest "next_box"
  na_Chest_next_pair : NoAttr K a.Chest "next_pair"
  na_Chest_kept_boxes : NoAttr K a.Chest "kept_boxes"
  na_Chest_kept_pairs : NoAttr K a.Chest "kept_pairs"
  mg_WillError : mg "WillError" = some (.ref a.WillError)
  mg_NoBox : mg "NoBox" = some (.ref a.NoBox)
  mg_NoSlot : mg "NoSlot" = some (.ref a.NoSlot)
  mg_NoHand : mg "NoHand" = some (.ref a.NoHand)
  mg_NoPair : mg "NoPair" = some (.ref a.NoPair)
  mg_NoWill : mg "NoWill" = some (.ref a.NoWill)
  mg_TooMany : mg "TooMany" = some (.ref a.TooMany)
  x_NoSlot : XC K mg "NoSlot" a.NoSlot
  ec_NoSlot : ExcC K a.NoSlot
  em_NoSlot : PySem.W.exmOne K (.ref a.NoSlot) (.ref a.WillError) = some true
  is_NoSlot_NoBox : PySem.W.kitOne K (.ref a.NoSlot) (.ref a.NoBox) = some false
  is_NoSlot_NoSlot : PySem.W.kitOne K (.ref a.NoSlot) (.ref a.NoSlot) = some true
  is_NoSlot_NoHand : PySem.W.kitOne K (.ref a.NoSlot) (.ref a.NoHand) = some false
  is_NoSlot_NoPair : PySem.W.kitOne K (.ref a.NoSlot) (.ref a.NoPair) = some false
  is_NoSlot_NoWill : PySem.W.kitOne K (.ref a.NoSlot) (.ref a.NoWill) = some false
  is_NoSlot_TooMany : PySem.W.kitOne K (.ref a.NoSlot) (.ref a.TooMany) = some false
  is_NoSlot_ValueError : PySem.W.kitOne K (.ref a.NoSlot) (.type "ValueError") = some true
  x_TooMany : XC K mg "TooMany" a.TooMany
  ec_TooMany : ExcC K a.TooMany
  em_TooMany : PySem.W.exmOne K (.ref a.TooMany) (.ref a.WillError) = some true
  is_TooMany_NoBox : PySem.W.kitOne K (.ref a.TooMany) (.ref a.NoBox) = some false
  is_TooMany_NoSlot : PySem.W.kitOne K (.ref a.TooMany) (.ref a.NoSlot) = some false
  is_TooMany_NoHand : PySem.W.kitOne K (.ref a.TooMany) (.ref a.NoHand) = some false
  is_TooMany_NoPair : PySem.W.kitOne K (.ref a.TooMany) (.ref a.NoPair) = some false
  is_TooMany_NoWill : PySem.W.kitOne K (.ref a.TooMany) (.ref a.NoWill) = some false
  is_TooMany_TooMany : PySem.W.kitOne K (.ref a.TooMany) (.ref a.TooMany) = some true
  is_TooMany_ValueError : PySem.W.kitOne K (.ref a.TooMany) (.type "ValueError") = some true
  x_NoHand : XC K mg "NoHand" a.NoHand
  ec_NoHand : ExcC K a.NoHand
  em_NoHand : PySem.W.exmOne K (.ref a.NoHand) (.ref a.WillError) = some true
  is_NoHand_NoBox : PySem.W.kitOne K (.ref a.NoHand) (.ref a.NoBox) = some false
  is_NoHand_NoSlot : PySem.W.kitOne K (.ref a.NoHand) (.ref a.NoSlot) = some false
  is_NoHand_NoHand : PySem.W.kitOne K (.ref a.NoHand) (.ref a.NoHand) = some true
  is_NoHand_NoPair : PySem.W.kitOne K (.ref a.NoHand) (.ref a.NoPair) = some false
  is_NoHand_NoWill : PySem.W.kitOne K (.ref a.NoHand) (.ref a.NoWill) = some false
  is_NoHand_TooMany : PySem.W.kitOne K (.ref a.NoHand) (.ref a.TooMany) = some false
  is_NoHand_ValueError : PySem.W.kitOne K (.ref a.NoHand) (.type "ValueError") = some true
  x_NoPair : XC K mg "NoPair" a.NoPair
  ec_NoPair : ExcC K a.NoPair
  em_NoPair : PySem.W.exmOne K (.ref a.NoPair) (.ref a.WillError) = some true
  is_NoPair_NoBox : PySem.W.kitOne K (.ref a.NoPair) (.ref a.NoBox) = some false
  is_NoPair_NoSlot : PySem.W.kitOne K (.ref a.NoPair) (.ref a.NoSlot) = some false
  is_NoPair_NoHand : PySem.W.kitOne K (.ref a.NoPair) (.ref a.NoHand) = some false
  is_NoPair_NoPair : PySem.W.kitOne K (.ref a.NoPair) (.ref a.NoPair) = some true
  is_NoPair_NoWill : PySem.W.kitOne K (.ref a.NoPair) (.ref a.NoWill) = some false
  is_NoPair_TooMany : PySem.W.kitOne K (.ref a.NoPair) (.ref a.TooMany) = some false
  is_NoPair_ValueError : PySem.W.kitOne K (.ref a.NoPair) (.type "ValueError") = some true
  x_NoWill : XC K mg "NoWill" a.NoWill
  ec_NoWill : ExcC K a.NoWill
  em_NoWill : PySem.W.exmOne K (.ref a.NoWill) (.ref a.WillError) = some true
  is_NoWill_NoBox : PySem.W.kitOne K (.ref a.NoWill) (.ref a.NoBox) = some false
  is_NoWill_NoSlot : PySem.W.kitOne K (.ref a.NoWill) (.ref a.NoSlot) = some false
  is_NoWill_NoHand : PySem.W.kitOne K (.ref a.NoWill) (.ref a.NoHand) = some false
  is_NoWill_NoPair : PySem.W.kitOne K (.ref a.NoWill) (.ref a.NoPair) = some false
  is_NoWill_NoWill : PySem.W.kitOne K (.ref a.NoWill) (.ref a.NoWill) = some true
  is_NoWill_TooMany : PySem.W.kitOne K (.ref a.NoWill) (.ref a.TooMany) = some false
  is_NoWill_ValueError : PySem.W.kitOne K (.ref a.NoWill) (.type "ValueError") = some true
  x_NoBox : XC K mg "NoBox" a.NoBox
  ec_NoBox : ExcC K a.NoBox
  em_NoBox : PySem.W.exmOne K (.ref a.NoBox) (.ref a.WillError) = some true
  is_NoBox_NoBox : PySem.W.kitOne K (.ref a.NoBox) (.ref a.NoBox) = some true
  is_NoBox_NoSlot : PySem.W.kitOne K (.ref a.NoBox) (.ref a.NoSlot) = some false
  is_NoBox_NoHand : PySem.W.kitOne K (.ref a.NoBox) (.ref a.NoHand) = some false
  is_NoBox_NoPair : PySem.W.kitOne K (.ref a.NoBox) (.ref a.NoPair) = some false
  is_NoBox_NoWill : PySem.W.kitOne K (.ref a.NoBox) (.ref a.NoWill) = some false
  is_NoBox_TooMany : PySem.W.kitOne K (.ref a.NoBox) (.ref a.TooMany) = some false
  is_NoBox_ValueError : PySem.W.kitOne K (.ref a.NoBox) (.type "ValueError") = some true
  mg_LARGEST_SIZE : mg "LARGEST_SIZE" = some (.int 9 a.t_LARGEST_SIZE)
  mg_MOST_BOXES : mg "MOST_BOXES" = some (.int 60 a.t_MOST_BOXES)
  mg_MOST_PAIRS : mg "MOST_PAIRS" = some (.int 60 a.t_MOST_PAIRS)
  mg_MOST_DEEDS : mg "MOST_DEEDS" = some (.int 9 a.t_MOST_DEEDS)
  no_ValueError : mg "ValueError" = none
  no_all : mg "all" = none
  no_any : mg "any" = none
  no_bool : mg "bool" = none
  no_dict : mg "dict" = none
  no_enumerate : mg "enumerate" = none
  no_int : mg "int" = none
  no_isinstance : mg "isinstance" = none
  no_len : mg "len" = none
  no_list : mg "list" = none
  no_min : mg "min" = none
  no_range : mg "range" = none
  no_set : mg "set" = none
  no_sorted : mg "sorted" = none
  no_tuple : mg "tuple" = none

local macro_rules | `(tactic| walk_at "ne") => `(tactic| first
  | assumption
  | exact Ne.symm (by assumption)
  | (refine' ne_of_none ?x1 ?x2; (case x2 => assumption); (case x1 => walk_at "hl"))
  | (refine' Ne.symm (ne_of_none ?x1 ?x2); (case x2 => assumption); (case x1 => walk_at "hl")))
local macro_rules | `(tactic| walk_at "hl") => `(tactic| first
  | assumption
  | exact upd_same
  | (refine' Eq.trans (upd_ne ?x1) ?x2; (case x1 => walk_at "ne"); (case x2 => walk_at "hl")))
local macro_rules | `(tactic| walk_at "go1") => `(tactic| with_reducible first
  | refine g_seq ?_ | refine g_asg ?_ | refine g_name ?_ | refine g_ret ?_ | refine g_drop ?_ | refine g_ifs ?_
  | refine g_msg (by decide +kernel) (by decide +kernel) (by decide +kernel) (by decide +kernel) ?_
  | refine g_op ?_ | refine g_c ?_ | refine g_test ?_ | refine g_tb ?_ | refine g_cons ?_ | refine g_nil ?_
  | refine g_cb ?_ | refine g_un ?_ | refine g_or ?_ | refine g_and ?_ | refine g_not ?_ | refine g_orV ?_ | refine g_andV ?_ | refine g_notV ?_
  | refine g_ifE ?_ | refine g_next ?_
  | refine g_isbl ?_ | refine g_isblA ?_ | refine g_rI0 ?_ | refine g_rU ?_ | refine g_eqI ?_ | refine g_neI ?_ | refine g_eqS ?_ | refine g_neS ?_
  | refine g_isN ?_ | refine g_notN ?_ | refine g_max2 ?_ | refine g_min2 ?_ | refine g_intb ?_
  | refine g_iteNS ?_ | refine g_iteNO ?_ | refine g_iteS ?_ | refine g_iteO ?_
  | refine g_iteT ?_ | refine g_iteF ?_ | refine g_iteNT ?_ | refine g_iteNF ?_ | refine g_iteNN ?_
  | refine g_call ?_ | refine g_dnotin ?_ | refine g_din ?_ | refine g_dget ?_ | refine g_dput ?_ | refine g_sfld ?_ | refine g_meth ?_ | refine g_methP ?_ | refine g_fld ?_ | refine g_dnew ?_ | refine g_bm ?_ | refine g_gsub ?_ | refine g_lc ?_ | refine g_iList ?_ | refine g_iTup ?_ | refine g_iRng1 ?_ | refine g_for ?_ | refine g_sl ?_ | refine g_part ?_ | refine g_nopart ?_ | refine g_partI ?_ | refine g_callE ?_ | refine g_lstRg ?_ | refine g_rg1 ?_ | refine g_rg1I ?_ | refine g_yes ?_ | refine g_make ?_ | refine g_ddel ?_ | refine g_star ?_ | refine g_dpop1 ?_ | refine g_dget2 ?_ | refine g_iKeys ?_ | refine g_callS ?_ | refine g_slS ?_ | refine g_listVals ?_ | refine g_gNil ?_ | refine g_gCons ?_ | refine g_lc2 ?_ | refine g_iEnum ?_ | refine g_dsetd ?_ | refine g_listItems ?_ | refine g_iteIN ?_ | refine g_iteRN ?_ | refine g_iteRN' ?_ | refine g_iteNN2 ?_ | refine g_iteNN' ?_ | refine g_match ?_ | refine g_lenSetI ?_)
local macro_rules | `(tactic| walk_at "go") => `(tactic| repeat (first
  | walk_at "go1"
  | (refine g_var (by rfl) ?_)
  | (refine g_tup ?_)
  | (refine g_lst ?_)))
/-! ### steps at the attributes of this program -/
local macro_rules | `(tactic| walk_at "f1") => `(tactic| first
  | (with_reducible refine' ⟨_, _, _, _, _, rfl, ?x1, Txt.cl_Chest ?x0, Txt.na_Chest_kept_boxes ?x0, fChest_kb, ?x2⟩; (case x0 => assumption); (case x1 => walk_at "hl"))
  | (with_reducible refine' ⟨_, _, _, _, _, rfl, ?x1, Txt.cl_Chest ?x0, Txt.na_Chest_kept_pairs ?x0, fChest_kp, ?x2⟩; (case x0 => assumption); (case x1 => walk_at "hl"))
  | (with_reducible refine' ⟨_, _, _, _, _, rfl, ?x1, Txt.cl_Chest ?x0, Txt.na_Chest_next_box ?x0, fChest_nb, ?x2⟩; (case x0 => assumption); (case x1 => walk_at "hl"))
  | (with_reducible refine' ⟨_, _, _, _, _, rfl, ?x1, Txt.cl_Chest ?x0, Txt.na_Chest_next_pair ?x0, fChest_np, ?x2⟩; (case x0 => assumption); (case x1 => walk_at "hl"))
  | (with_reducible refine' ⟨_, _, _, _, _, rfl, ?x1, Txt.cl_Box ?x0, Txt.na_Box_slots ?x0, fBox_slots, ?x2⟩; (case x0 => assumption); (case x1 => walk_at "hl"))
  | (with_reducible refine' ⟨_, _, _, _, _, rfl, ?x1, Txt.cl_Box ?x0, Txt.na_Box_in_hands ?x0, fBox_hand, ?x2⟩; (case x0 => assumption); (case x1 => walk_at "hl"))
  | (with_reducible refine' ⟨_, _, _, _, _, rfl, ?x1, Txt.cl_Box ?x0, Txt.na_Box_deeds ?x0, fBox_deeds, ?x2⟩; (case x0 => assumption); (case x1 => walk_at "hl")))
local macro_rules | `(tactic| walk_at "m1") => `(tactic| (refine' ⟨_, _, _, rfl, ?x1, fChest_no (by decide +kernel) (by decide +kernel) (by decide +kernel) (by decide +kernel), ?x2⟩; (case x1 => walk_at "hl")))
local macro_rules | `(tactic| walk_at "gof") => `(tactic| repeat (first
  | walk_at "go1"
  | (refine g_var (by rfl) ?_)
  | (refine g_tup ?_)
  | (refine g_lst ?_)
  | walk_at "f1"))
local macro_rules | `(tactic| walk_at "errw") => `(tactic| first | exact .inl ⟨rfl, rfl⟩ | exact .inr (.inl ⟨rfl, rfl⟩) | exact .inr (.inr (.inl ⟨rfl, rfl⟩)) | exact .inr (.inr (.inr (.inl ⟨rfl, rfl⟩))) | exact .inr (.inr (.inr (.inr (.inl ⟨rfl, rfl⟩)))) | exact .inr (.inr (.inr (.inr (.inr (⟨rfl, rfl⟩))))))
local macro_rules | `(tactic| walk_at "ixt") => `(tactic| first
  | (refine' g_ixT (SqT.of ?x1) (at_of (j := 0) ?x2 ?x3) ?x4; (case x2 => rfl); (case x1 => walk_at "hl"); (case x3 => rfl))
  | (refine' g_ixT (SqT.of ?x1) (at_of (j := 1) ?x2 ?x3) ?x4; (case x2 => rfl); (case x1 => walk_at "hl"); (case x3 => rfl))
  | (refine' g_ixT (SqT.of ?x1) (at_of (j := 2) ?x2 ?x3) ?x4; (case x2 => rfl); (case x1 => walk_at "hl"); (case x3 => rfl))
  | (refine' g_ixT (SqT.of ?x1) (at_of (j := 3) ?x2 ?x3) ?x4; (case x2 => rfl); (case x1 => walk_at "hl"); (case x3 => rfl))
  | (refine' g_ixT (SqT.of ?x1) (at_of (j := 4) ?x2 ?x3) ?x4; (case x2 => rfl); (case x1 => walk_at "hl"); (case x3 => rfl)))
local macro_rules | `(tactic| walk_at "ixl") => `(tactic| first
  | (refine' g_ixL (SqL.of ?x1) (at_of (j := 0) ?x2 ?x3) ?x4; (case x2 => rfl); (case x1 => walk_at "hl"); (case x3 => rfl))
  | (refine' g_ixL (SqL.of ?x1) (at_of (j := 1) ?x2 ?x3) ?x4; (case x2 => rfl); (case x1 => walk_at "hl"); (case x3 => rfl))
  | (refine' g_ixL (SqL.of ?x1) (at_of (j := 2) ?x2 ?x3) ?x4; (case x2 => rfl); (case x1 => walk_at "hl"); (case x3 => rfl))
  | (refine' g_ixL (SqL.of ?x1) (at_of (j := 3) ?x2 ?x3) ?x4; (case x2 => rfl); (case x1 => walk_at "hl"); (case x3 => rfl))
  | (refine' g_ixL (SqL.of ?x1) (at_of (j := 4) ?x2 ?x3) ?x4; (case x2 => rfl); (case x1 => walk_at "hl"); (case x3 => rfl)))
local macro_rules | `(tactic| walk_at "str") => `(tactic| first
  | (with_reducible refine g_ite (fun _ => ?_) (fun c => absurd rfl c))
  | (refine g_ite (fun c => absurd c (by decide +kernel)) (fun _ => ?_)))
local macro_rules | `(tactic| walk_at "gos") => `(tactic| repeat (first
  | walk_at "go1"
  | (refine g_var (by rfl) ?_)
  | walk_at "f1"
  | walk_at "ixt"
  | walk_at "ixl"
  | (refine g_tup ?_)
  | (refine g_lst ?_)
  | walk_at "str"))
section
variable {P : Program} {w : World} {K : PySem.W.Frag} {mg : Str → Option Value} {base : Heap} {a : Ad}

/-! ### Box.__init__ -/
def spBoxInit (a : Ad) : Sp := fun vs H Q _ => ∃ (x dx : Addr) (n : Int), vs = [.ref x, .int n] ∧ H x = some (.ins a.Box dx []) ∧ 0 ≤ n ∧ n ≤ 9 ∧
  ∀ (l w : Addr) (H' : Hp), H l = none → H w = none → l ≠ w → (∀ b o, b ≠ x → H b = some o → H' b = some o) →
    H' x = some (.ins a.Box dx (fBox l true w)) → H' l = some (.lst (List.replicate n.toNat .non)) → H' w = some (.lst []) → Q .non H'
theorem ok_Box__init_ (T : Txt a K mg) : FnOk P w K mg base (CN P w) 1 a.f_Box__init_ a.fd_Box__init_ ["self", "size"] (spBoxInit a) := by
  refine okN T.F_Box__init_ sc_Box__init_ (fun vs H Q E h => ?_) (fun cdv A outer s H vs Q E hr h => ?_)
  · obtain ⟨x, dx, n, rfl, _⟩ := h; rfl
  · obtain ⟨x, dx, n, rfl, hx, n0, n9, k⟩ := h
    refine ⟨_, (pss_cons (ps_fld (pv 0) (pe_op op_rep (pe_lst (pa_cons pe_non pa_nil)) (pv 1)) rfl)
      (pss_cons (ps_fld (pv 0) pe_bl rfl)
      (pss_one (ps_fld (pv 0) (pe_lst pa_nil) rfl)))), ?_⟩
    try dsimp only [cxOf]
    walk_at "go"
    refine ⟨by decide, fun l0 h0 => ?_⟩
    walk_at "go"
    refine g_rep (xs := [.non]) upd_same n0 (by omega) (by decide) fun l hl => ?_
    walk_at "go"
    refine ⟨_, _, _, _, rfl, (by walk_at "hl"), T.cl_Box, T.na_Box_slots, by decide, ?_⟩
    walk_at "go"
    refine ⟨_, _, _, _, rfl, (by walk_at "hl"), T.cl_Box, T.na_Box_in_hands, putF_lt (n := 999) (by decide), ?_⟩
    walk_at "go"
    refine ⟨by decide, fun w hw => ?_⟩
    walk_at "go"
    refine ⟨_, _, _, _, rfl, (by walk_at "hl"), T.cl_Box, T.na_Box_deeds, putF_lt (n := 999) (putF_lt (n := 998) (by decide)), ?_⟩
    have f1 : H l = none := (none_upd hl).2
    have f2 : H w = none := (none_upd (none_upd (none_upd (none_upd hw).2).2).2).2
    have hlw : l ≠ w := (none_upd (none_upd (none_upd hw).2).2).1.symm
    have el : (List.replicate n.toNat [V.non]).flatten = List.replicate n.toNat V.non := by simp
    have hxl : x ≠ l := by walk_at "ne"
    have hxw : x ≠ w := by walk_at "ne"
    refine k l w _ f1 f2 hlw (fun b o nb hb => by walk_at "hl") upd_same (by rw [← el]; walk_at "hl") (by walk_at "hl")

/-! ### Chest.__init__ -/
def spChestInit (a : Ad) : Sp := fun vs H Q _ => ∃ (x dx : Addr), vs = [.ref x] ∧ H x = some (.ins a.Chest dx []) ∧
  ∀ (d1 d2 : Addr) (H' : Hp), H d1 = none → H d2 = none → d1 ≠ d2 → (∀ b o, b ≠ x → H b = some o → H' b = some o) →
    H' x = some (.ins a.Chest dx (fChest 0 0 d1 d2)) → H' d1 = some (.dK []) → H' d2 = some (.dK []) → Q .non H'
theorem ok_Chest__init_ (T : Txt a K mg) : FnOk P w K mg base (CN P w) 1 a.f_Chest__init_ a.fd_Chest__init_ ["self"] (spChestInit a) := by
  refine okN T.F_Chest__init_ sc_Chest__init_ (fun vs H Q E h => ?_) (fun cdv A outer s H vs Q E hr h => ?_)
  · obtain ⟨x, dx, rfl, _⟩ := h; rfl
  · obtain ⟨x, dx, rfl, hx, k⟩ := h
    refine ⟨_, (pss_cons (ps_fld (pv 0) pe_int rfl)
      (pss_cons (ps_fld (pv 0) pe_int rfl)
      (pss_cons (ps_fld (pv 0) pe_dnewK rfl)
      (pss_one (ps_fld (pv 0) pe_dnewK rfl))))), ?_⟩
    try dsimp only [cxOf]
    walk_at "go"
    refine ⟨_, _, _, _, rfl, (by walk_at "hl"), T.cl_Chest, T.na_Chest_next_box, by decide, ?_⟩
    walk_at "go"
    refine ⟨_, _, _, _, rfl, (by walk_at "hl"), T.cl_Chest, T.na_Chest_next_pair, putF_lt (n := 999) (by decide), ?_⟩
    walk_at "go"
    intro d1 h1
    walk_at "go"
    refine ⟨_, _, _, _, rfl, (by walk_at "hl"), T.cl_Chest, T.na_Chest_kept_boxes, putF_lt (n := 999) (putF_lt (n := 998) (by decide)), ?_⟩
    walk_at "go"
    intro d2 h2
    walk_at "go"
    refine ⟨_, _, _, _, rfl, (by walk_at "hl"), T.cl_Chest, T.na_Chest_kept_pairs, putF_lt (n := 999) (putF_lt (n := 998) (putF_lt (n := 997) (by decide))), ?_⟩
    have f1 : H d1 = none := (none_upd (none_upd h1).2).2
    have f2 : H d2 = none := (none_upd (none_upd (none_upd (none_upd h2).2).2).2).2
    have n12 : d1 ≠ d2 := (none_upd (none_upd h2).2).1.symm
    have n1 : x ≠ d1 := by walk_at "ne"
    have n2 : x ≠ d2 := by walk_at "ne"
    exact k d1 d2 _ f1 f2 n12 (fun b o nb hb => by walk_at "hl") upd_same (by walk_at "hl") (by walk_at "hl")

/-! ### _kept_box -/
def spKept (a : Ad) : Sp := fun vs H Q E => ∃ (p : Addr) (n : Int) (C : LCh), vs = [.ref p, .int n] ∧ CAt a.Chest a.Box H p C ∧
  (C.B.lookup n = none → E (.ref a.NoBox) none H) ∧ ∀ b, C.B.lookup n = some b → Q (.ref b.a) H
theorem ok_Chest_kept_box (T : Txt a K mg) : FnOk P w K mg base (CN P w) 1 a.f_Chest_kept_box a.fd_Chest_kept_box ["self", "box"] (spKept a) := by
  refine okN T.F_Chest_kept_box sc_Chest_kept_box (fun vs H Q E h => ?_) (fun cdv A outer s H vs Q E hr h => ?_)
  · obtain ⟨p, n, C, rfl, _⟩ := h; rfl
  · obtain ⟨p, n, C, rfl, hC, k1, k2⟩ := h
    have hu := hu_of hr
    have h1 := hC.ob
    have h2 := hC.d1
    refine ⟨_, (pss_cons (ps_if (pt_cmp (pc_dnotin hu (pv 1) (pe_fld (pv 0) rfl))) (pss_one (L2N.ps_raise (W := fun cls d _ H => E cls d H) rfl (L2N.takes_of rfl rfl rfl rfl) (pmk_N T.x_NoBox rfl pe_str))) pss_nil)
      (pss_one (ps_ret (pe_dget hu (pe_fld (pv 0) rfl) (pv 1) (fun _ _ => rfl))))), ?_⟩
    try dsimp only [cxOf]
    walk_at "gof"
    refine ⟨_, _, rfl, DGet.k (k := Sum.inl n) h2, ?_⟩
    cases e : C.B.lookup n with
    | none =>
      rw [kvB_none e]
      walk_at "gof"
      exact k1 e
    | some b =>
      rw [kvB_some e]
      walk_at "gof"
      exact ⟨_, _, rfl, by rw [← kvB_some e]; exact DGet.k (k := Sum.inl n) h2, k2 b e⟩

/-! ### _slots_with -/
def spSlotsWith (a : Ad) : Sp := fun vs H Q E => ∃ (p : Addr) (n s : Int) (C : LCh), vs = [.ref p, .int n, .int s] ∧ CAt a.Chest a.Box H p C ∧
  (C.B.lookup n = none → E (.ref a.NoBox) none H) ∧ ∀ b, C.B.lookup n = some b → ((s < 0 ∨ (b.vs.length : Int) ≤ s) → E (.ref a.NoSlot) none H) ∧ (0 ≤ s → s < (b.vs.length : Int) → Q (.ref b.l) H)
theorem ok_Chest_slots_with (T : Txt a K mg) : FnOk P w K mg base (CN P w) 2 a.f_Chest_slots_with a.fd_Chest_slots_with ["self", "box", "slot"] (spSlotsWith a) := by
  refine okN T.F_Chest_slots_with sc_Chest_slots_with (fun vs H Q E h => ?_) (fun cdv A outer s H vs Q E hr h => ?_)
  · obtain ⟨p, n, s, C, rfl, _⟩ := h; rfl
  · obtain ⟨p, n, s, C, rfl, hC, k1, k2⟩ := h
    have hu := hu_of hr
    have h1 := hC.ob
    have hr1 : Room 1 _ := hr.mono (by decide);
    refine ⟨_, (pss_cons (ps_set (i := 3) sc_Chest_slots_with.nd rfl (Or.inl rfl) (pe_fld (pe_meth (pv 0) T.cl_Chest T.m_Chest_kept_box (ok_Chest_kept_box T) hr1 T.b_Chest_kept_box .nil (L2N.passes_call (W := fun cls d _ H => E cls d H) (L2N.takes_of rfl rfl rfl rfl) (fun _ _ _ _ h => h)) (pa_cons (pv 1) pa_nil)) rfl))
      (pss_cons (ps_if (PW.pt (pw_or (pt_cmpR op_lt (pv 2) pe_int (nomark _)) (pw_or1 (pt_cmpR op_ge (pv 2) (pe_callB call_lenS (by rfl) T.no_len (by decide +kernel) (pa_cons (pv 3) pa_nil)) (nomark _))))) (pss_one (L2N.ps_raise (W := fun cls d _ H => E cls d H) rfl (L2N.takes_of rfl rfl rfl rfl) (pmk_N T.x_NoSlot rfl pe_str))) pss_nil)
      (pss_one (ps_ret (pv 3))))), ?_⟩
    try dsimp only [cxOf]
    walk_at "gof"
    walk_at "m1"
    walk_at "gof"
    refine ⟨p, n, C, rfl, hC, k1, fun b e => ?_⟩
    obtain ⟨k3, k4⟩ := k2 b e
    have hb := (hC.bx _ (lk_mem e)).ob
    have hl := (hC.bx _ (lk_mem e)).sl
    dsimp only at hb hl
    walk_at "gof"
    refine g_ite (fun c => ?_) (fun c => ?_)
    · walk_at "gof"
      exact k3 (.inl c)
    · walk_at "gof"
      refine g_lenL (SqL.of hl) ?_
      walk_at "gof"
      refine g_ite (fun c2 => ?_) (fun c2 => ?_)
      · walk_at "gof"
        exact k3 (.inr c2)
      · walk_at "gof"
        exact k4 (by omega) (by omega)

/-! ### make -/
def spMake (a : Ad) : Sp := fun vs H Q E => ∃ (p : Addr) (n : Int) (C : LCh), vs = [.ref p, .int n] ∧ CAt a.Chest a.Box H p C ∧
  ((n < 0 ∨ 9 < n) → E (.ref a.NoSlot) none H) ∧ (0 ≤ n → n ≤ 9 → C.B.length = 60 → E (.ref a.TooMany) none H) ∧
  (0 ≤ n → n ≤ 9 → C.B.length < 60 → ∀ (H' : Hp) (b : LBx), b.vs = List.replicate n.toNat .non → b.hand = true → b.ds = [] → (∀ c ∈ ownB b, H c = none) → Fr [p, C.d1] H H' →
    CAt a.Chest a.Box H' p { C with nb := C.nb + 1, B := C.B ++ [(C.nb, b)] } → Q (.int C.nb) H')
theorem ok_Chest_make (T : Txt a K mg) : FnOk P w K mg base (CN P w) 3 a.f_Chest_make a.fd_Chest_make ["self", "size"] (spMake a) := by
  refine okN T.F_Chest_make sc_Chest_make (fun vs H Q E h => ?_) (fun cdv A outer s H vs Q E hr h => ?_)
  · obtain ⟨p, n, C, rfl, _⟩ := h; rfl
  · obtain ⟨p, n, C, rfl, hC, k1, k2, k3⟩ := h
    have hu := hu_of hr
    have h1 := hC.ob
    have h2 := hC.d1
    have hr1 : Room 1 _ := hr.mono (by decide); have hr2 : Room 2 _ := hr.mono (by decide);
    refine ⟨_, (pss_cons (ps_if (PW.pt (pw_or (pt_cmpR op_lt (pv 1) pe_int (nomark _)) (pw_or1 (pt_cmpR op_gt (pv 1) (pe_glob (v := .int 9) rfl T.mg_LARGEST_SIZE ⟨_, rfl⟩) (nomark _))))) (pss_one (L2N.ps_raise (W := fun cls d _ H => E cls d H) rfl (L2N.takes_of rfl rfl rfl rfl) (pmk_N T.x_NoSlot rfl (pe_joined (PJ.cons pe_str (PJ.cons (pe_fmt (pe_glob (v := .int 9) rfl T.mg_LARGEST_SIZE ⟨_, rfl⟩)) (PJ.cons pe_str PJ.nil))))))) pss_nil)
      (pss_cons (ps_if (pt_cmpR op_ge (pe_callB call_lenD' (by rfl) T.no_len (by decide +kernel) (pa_cons (pe_fld (pv 0) rfl) pa_nil)) (pe_glob (v := .int 60) rfl T.mg_MOST_BOXES ⟨_, rfl⟩) (nomark _)) (pss_one (L2N.ps_raise (W := fun cls d _ H => E cls d H) rfl (L2N.takes_of rfl rfl rfl rfl) (pmk_N T.x_TooMany rfl (pe_joined (PJ.cons pe_str (PJ.cons (pe_fmt (pe_glob (v := .int 60) rfl T.mg_MOST_BOXES ⟨_, rfl⟩)) (PJ.cons pe_str PJ.nil))))))) pss_nil)
      (pss_cons (ps_set (i := 2) sc_Chest_make.nd rfl (Or.inl rfl) (pe_fld (pv 0) rfl))
      (pss_cons (ps_dput hu (pe_fld (pv 0) rfl) (pv 2) (pe_make T.mk_Box (ok_Box__init_ T) hr2 rfl T.mg_Box T.b_Box__init_ .nil pass0N (pa_cons (pv 1) pa_nil)) rfl)
      (pss_cons (ps_fld (pv 0) (pe_op op_add (pv 2) pe_int) rfl)
      (pss_one (ps_ret (pv 2)))))))), ?_⟩
    try dsimp only [cxOf]
    walk_at "gof"
    refine g_ite (fun c => ?_) (fun c => ?_)
    · walk_at "gof"
      exact k1 (.inl c)
    walk_at "gof"
    refine g_ite (fun c9 => ?_) (fun c9 => ?_)
    · walk_at "gof"
      exact k1 (.inr c9)
    walk_at "gof"
    refine g_lenD h2 ?_
    walk_at "gof"
    refine g_ite (fun cm => ?_) (fun cm => ?_)
    · walk_at "gof"
      rw [kvB_len] at cm
      exact k2 (by omega) (by omega) (by have := hC.sB; omega)
    rw [kvB_len] at cm
    walk_at "gof"
    intro x dx hx hdx hne
    refine ⟨x, dx, n, rfl, upd_same, by omega, by omega, fun l w H' hl hw hlw kp hx' hl' hw' => ⟨rfl, ?_⟩⟩
    have xl := none_upd hl
    have xw := none_upd hw
    have s0 : Same H H' := fun b o e => kp b o (ne_of_none e hx) (by rw [upd_ne (ne_of_none e hx), upd_ne (ne_of_none e hdx)]; exact e)
    have h1' := s0 _ _ h1
    have h2' := s0 _ _ h2
    walk_at "gof"
    refine ⟨_, _, rfl, DPut.k (k := Sum.inl C.nb) h2' (small1000 (by rw [kvB_len]; omega)), ?_⟩
    have npd : p ≠ C.d1 := fun z => by rw [← z, h1] at h2; cases h2
    walk_at "gof"
    refine ⟨_, _, _, _, rfl, (by walk_at "hl"), T.cl_Chest, T.na_Chest_next_box, (by show 4 < 1000; decide), ?_⟩
    walk_at "gof"
    have fx : H x = none := hx
    have fl : H l = none := (none_upd (none_upd hl).2).2
    have fw : H w = none := (none_upd (none_upd hw).2).2
    refine k3 (by omega) (by omega) (by omega) _ ⟨x, dx, l, w, List.replicate n.toNat .non, true, []⟩ rfl rfl rfl ?_ ?_ ?_
    · intro c hc
      simp only [ownB, List.mem_cons, List.not_mem_nil, or_false] at hc
      rcases hc with rfl | rfl | rfl <;> assumption
    · intro b o e nb
      simp only [List.mem_cons, List.not_mem_nil, or_false, not_or] at nb
      rw [upd_ne nb.1, upd_ne nb.2]
      exact s0 b o e
    · have nxp : p ≠ x := ne_of_none h1 fx
      have nxd : C.d1 ≠ x := ne_of_none h2 fx
      have nlp : p ≠ l := ne_of_none h1 fl
      have nld : C.d1 ≠ l := ne_of_none h2 fl
      have nwp : p ≠ w := ne_of_none h1 fw
      have nwd : C.d1 ≠ w := ne_of_none h2 fw
      have hd2 := hC.d2
      have nd := hC.nd
      have nd2 : C.d2 ≠ p ∧ C.d2 ≠ C.d1 := by
        unfold own at nd
        simp only [List.nodup_cons, List.mem_cons, not_or] at nd
        exact ⟨fun z => nd.1.2.1 z.symm, fun z => nd.2.1.1 z.symm⟩
      have inB : ∀ c, c ∈ ownBs C.B → c ≠ p ∧ c ≠ C.d1 := by
        unfold own at nd
        simp only [List.nodup_cons, List.mem_cons, not_or] at nd
        intro c hc
        exact ⟨fun z => nd.1.2.2 (z ▸ hc), fun z => nd.2.1.2 (z ▸ hc)⟩
      refine ⟨?_, ?_, ?_, ?_, ?_, ?_, ?_, hC.kR, hC.lR, ?_, hC.sR, ?_⟩
      · exact upd_same
      · rw [upd_ne npd.symm, upd_same, show V.ref x = V.ref (LBx.a ⟨x, dx, l, w, List.replicate n.toNat .non, true, []⟩) from rfl, kvB_put (fun e he => (hC.lB e he).2)]
      · rw [upd_ne nd2.1, upd_ne nd2.2]
        exact s0 _ _ hd2
      · intro e he
        rcases List.mem_append.mp he with he | he
        · refine (hC.bx e he).keep fun c o hc hh => ?_
          have := inB c (ownBs_mem.mpr ⟨e, he, by simpa [ownB] using hc⟩)
          rw [upd_ne this.1, upd_ne this.2]
          exact s0 _ _ hh
        · cases List.mem_singleton.mp he
          exact ⟨by walk_at "hl", by walk_at "hl", by walk_at "hl", by simp; omega⟩
      · show (p :: C.d1 :: C.d2 :: ownBs (C.B ++ [(C.nb, _)])).Nodup
        rw [ownBs_snoc]
        refine nd_app hC.nd ?_ ?_
        · simp only [ownB, List.nodup_cons, List.mem_cons, List.not_mem_nil, or_false, not_or, not_false_eq_true, List.nodup_nil, and_true]
          exact ⟨⟨xl.1.symm, xw.1.symm⟩, hlw⟩
        · intro c hc
          simp only [ownB, List.mem_cons, List.not_mem_nil, or_false] at hc
          rcases hc with rfl | rfl | rfl <;> exact hC.fresh (by assumption)
      · rw [List.map_append]
        exact pw_snoc hC.kB fun y hy => by
          obtain ⟨e, he, rfl⟩ := List.mem_map.mp hy
          exact (hC.lB e he).2
      · intro e he
        rcases List.mem_append.mp he with he | he
        · have := hC.lB e he
          exact ⟨this.1, by show e.1 < C.nb + 1; omega⟩
        · cases List.mem_singleton.mp he
          exact ⟨hC.nn.1, by show C.nb < C.nb + 1; omega⟩
      · simp; omega
      · exact ⟨by show 0 ≤ C.nb + 1; have := hC.nn.1; omega, hC.nn.2⟩
end
section
variable {P : Program} {w : World} {K : PySem.W.Frag} {mg : Str → Option Value} {base : Heap} {a : Ad}
/-! ### boxes, size, told, hands, will -/
def spBoxes (a : Ad) : Sp := fun vs H Q _ => ∃ (p : Addr) (C : LCh), vs = [.ref p] ∧ CAt a.Chest a.Box H p C ∧
  ∀ q, H q = none → Q (.ref q) (upd H q (.lst ((C.B.map (·.1)).map V.int)))
theorem ok_Chest_boxes (T : Txt a K mg) : FnOk P w K mg base (CN P w) 1 a.f_Chest_boxes a.fd_Chest_boxes ["self"] (spBoxes a) := by
  refine okN T.F_Chest_boxes sc_Chest_boxes (fun vs H Q E h => ?_) (fun cdv A outer s H vs Q E hr h => ?_)
  · obtain ⟨p, C, rfl, _⟩ := h; rfl
  · obtain ⟨p, C, rfl, hC, k⟩ := h
    have h1 := hC.ob
    have h2 := hC.d1
    refine ⟨_, (pss_one (ps_ret (pe_callB (call_sortedDI' rfl) (by rfl) T.no_sorted (by decide +kernel) (pa_cons (pe_fld (pv 0) rfl) pa_nil)))), ?_⟩
    try dsimp only [cxOf]
    walk_at "gof"
    refine ⟨_, _, C.B.map (·.1), rfl, .inl h2, kvB_keys _, (by rw [List.length_map]; have := hC.sB; omega), fun ys q pm srt hq => ?_⟩
    rw [perm_sorted pm srt hC.kB]
    exact k q hq

def spSize (a : Ad) : Sp := fun vs H Q E => ∃ (p : Addr) (n : Int) (C : LCh), vs = [.ref p, .int n] ∧ CAt a.Chest a.Box H p C ∧
  (C.B.lookup n = none → E (.ref a.NoBox) none H) ∧ ∀ b, C.B.lookup n = some b → Q (.int (b.vs.length : Int)) H
theorem ok_Chest_size (T : Txt a K mg) : FnOk P w K mg base (CN P w) 2 a.f_Chest_size a.fd_Chest_size ["self", "box"] (spSize a) := by
  refine okN T.F_Chest_size sc_Chest_size (fun vs H Q E h => ?_) (fun cdv A outer s H vs Q E hr h => ?_)
  · obtain ⟨p, n, C, rfl, _⟩ := h; rfl
  · obtain ⟨p, n, C, rfl, hC, k1, k2⟩ := h
    have hu := hu_of hr
    have h1 := hC.ob
    have hr1 : Room 1 _ := hr.mono (by decide);
    refine ⟨_, (pss_one (ps_ret (pe_callB call_lenS (by rfl) T.no_len (by decide +kernel) (pa_cons (pe_fld (pe_meth (pv 0) T.cl_Chest T.m_Chest_kept_box (ok_Chest_kept_box T) hr1 T.b_Chest_kept_box .nil (L2N.passes_call (W := fun cls d _ H => E cls d H) (L2N.takes_of rfl rfl rfl rfl) (fun _ _ _ _ h => h)) (pa_cons (pv 1) pa_nil)) rfl) pa_nil)))), ?_⟩
    try dsimp only [cxOf]
    walk_at "gof"
    walk_at "m1"
    walk_at "gof"
    refine ⟨p, n, C, rfl, hC, k1, fun b e => ?_⟩
    have hb := (hC.bx _ (lk_mem e)).ob
    have hl := (hC.bx _ (lk_mem e)).sl
    dsimp only at hb hl
    walk_at "gof"
    refine g_lenL (SqL.of hl) ?_
    exact k2 b e

def spTold (a : Ad) : Sp := fun vs H Q E => ∃ (p : Addr) (n s : Int) (C : LCh), vs = [.ref p, .int n, .int s] ∧ CAt a.Chest a.Box H p C ∧
  (C.B.lookup n = none → E (.ref a.NoBox) none H) ∧ ∀ b, C.B.lookup n = some b → ((s < 0 ∨ (b.vs.length : Int) ≤ s) → E (.ref a.NoSlot) none H) ∧
    (0 ≤ s → s < (b.vs.length : Int) → ∀ v, b.vs[s.toNat]? = some v → Q v H)
theorem ok_Chest_told (T : Txt a K mg) : FnOk P w K mg base (CN P w) 3 a.f_Chest_told a.fd_Chest_told ["self", "box", "slot"] (spTold a) := by
  refine okN T.F_Chest_told sc_Chest_told (fun vs H Q E h => ?_) (fun cdv A outer s H vs Q E hr h => ?_)
  · obtain ⟨p, n, s, C, rfl, _⟩ := h; rfl
  · obtain ⟨p, n, s, C, rfl, hC, k1, k2⟩ := h
    have h1 := hC.ob
    have hr2 : Room 2 _ := hr.mono (by decide);
    refine ⟨_, (pss_one (ps_ret (pe_ix ix_list (pe_meth (pv 0) T.cl_Chest T.m_Chest_slots_with (ok_Chest_slots_with T) hr2 T.b_Chest_slots_with .nil (L2N.passes_call (W := fun cls d _ H => E cls d H) (L2N.takes_of rfl rfl rfl rfl) (fun _ _ _ _ h => h)) (pa_cons (pv 1) (pa_cons (pv 2) pa_nil))) (pv 2) (fun _ _ => rfl)))), ?_⟩
    try dsimp only [cxOf]
    walk_at "gof"
    walk_at "m1"
    walk_at "gof"
    refine ⟨p, n, s, C, rfl, hC, k1, fun b e => ?_⟩
    obtain ⟨k3, k4⟩ := k2 b e
    refine ⟨k3, fun s0 s1 => ?_⟩
    have hl := (hC.bx _ (lk_mem e)).sl
    dsimp only at hl
    have hs : s.toNat < b.vs.length := by omega
    walk_at "gof"
    refine g_ixL (SqL.of hl) (at_of (j := s.toNat) (by omega) (List.getElem?_eq_getElem hs)) ?_
    exact k4 s0 s1 _ (List.getElem?_eq_getElem hs)

def spWill (a : Ad) : Sp := fun vs H Q E => ∃ (p : Addr) (n : Int) (C : LCh), vs = [.ref p, .int n] ∧ CAt a.Chest a.Box H p C ∧
  (C.B.lookup n = none → E (.ref a.NoBox) none H) ∧ ∀ b, C.B.lookup n = some b → ∀ q, H q = none → Q (.ref q) (upd H q (.lst b.ds))
theorem ok_Chest_will (T : Txt a K mg) : FnOk P w K mg base (CN P w) 2 a.f_Chest_will a.fd_Chest_will ["self", "box"] (spWill a) := by
  refine okN T.F_Chest_will sc_Chest_will (fun vs H Q E h => ?_) (fun cdv A outer s H vs Q E hr h => ?_)
  · obtain ⟨p, n, C, rfl, _⟩ := h; rfl
  · obtain ⟨p, n, C, rfl, hC, k1, k2⟩ := h
    have hu := hu_of hr
    have h1 := hC.ob
    have hr1 : Room 1 _ := hr.mono (by decide);
    refine ⟨_, (pss_one (ps_ret (pe_callTy call_listS (by rfl) T.no_list (by decide +kernel) (pa_cons (pe_fld (pe_meth (pv 0) T.cl_Chest T.m_Chest_kept_box (ok_Chest_kept_box T) hr1 T.b_Chest_kept_box .nil (L2N.passes_call (W := fun cls d _ H => E cls d H) (L2N.takes_of rfl rfl rfl rfl) (fun _ _ _ _ h => h)) (pa_cons (pv 1) pa_nil)) rfl) pa_nil)))), ?_⟩
    try dsimp only [cxOf]
    walk_at "gof"
    walk_at "m1"
    walk_at "gof"
    refine ⟨p, n, C, rfl, hC, k1, fun b e => ?_⟩
    have hb := (hC.bx _ (lk_mem e)).ob
    have hl := (hC.bx _ (lk_mem e)).wl
    dsimp only at hb hl
    walk_at "gof"
    refine g_listL (SqL.of hl) fun q hq => ?_
    exact k2 b e q hq

def spHands (a : Ad) : Sp := fun vs H Q _ => ∃ (p : Addr) (C : LCh), vs = [.ref p] ∧ CAt a.Chest a.Box H p C ∧
  ∀ q H', H q = none → Same H H' → H' q = some (.lst (((C.B.filter fun e => e.2.hand).map (·.1)).map V.int)) → Q (.ref q) H'
theorem ok_Chest_hands (T : Txt a K mg) : FnOk P w K mg base (CN P w) 2 a.f_Chest_hands a.fd_Chest_hands ["self"] (spHands a) := by
  refine okN T.F_Chest_hands sc_Chest_hands (fun vs H Q E h => ?_) (fun cdv A outer s H vs Q E hr h => ?_)
  · obtain ⟨p, C, rfl, _⟩ := h; rfl
  · obtain ⟨p, C, rfl, hC, k⟩ := h
    have hu := hu_of hr
    have h1 := hC.ob
    have h2 := hC.d1
    have hr1 : Room 1 _ := hr.mono (by decide);
    refine ⟨_, (pss_one (ps_ret (pe_lc (own := [("box", 1)]) (g := gName 1) (tt := (tB (tFld K (tDGet (tFld K (tVar 0) "kept_boxes") (tVar 1)) "in_hands"))) (te := (tVar 1)) (by rfl) sc_Chest_hands.nd (pi_list (pe_meth0 (pv 0) T.cl_Chest T.m_Chest_boxes (ok_Chest_boxes T) hr1 T.b_Chest_boxes .nil pass0N)) (blkOk_by (own := [("box", 1)]) (N := N_Chest_hands) (sc := defScope s_Chest_hands) (by decide +kernel)) (fun _ _ _ _ _ => (pg_name (i := 1) sc_Chest_hands.nd rfl (Or.inl rfl))) (fun _ _ _ _ _ => pts_one (pt_val (pe_fld (pe_dget hu (pe_fld (pv 0) rfl) (pv 1) (fun _ _ => rfl)) rfl))) (fun _ _ _ _ _ => (pv 1))))), ?_⟩
    try dsimp only [cxOf]
    walk_at "gof"
    walk_at "m1"
    walk_at "gof"
    refine ⟨p, C, rfl, hC, fun q hq => ?_⟩
    refine ⟨q, rfl, ⟨_, SqL.of upd_same⟩, fun D hD => lc_list (K := K) (a := q) (xs := (C.B.map (·.1)).map V.int)
      (fun i H1 => Same H H1 ∧ H1 q = some (.lst ((C.B.map (·.1)).map V.int)) ∧ H1 D = some (.lst ((((C.B.take i).filter fun e => e.2.hand).map (·.1)).map V.int))) ?_ (fun i H1 _ h => SqL.of h.2.1) ?_ ?_⟩
    · refine ⟨fun b o e => by walk_at "hl", by walk_at "hl", upd_same⟩
    · rintro i x H1 hx ⟨f1, f2, f3⟩
      rw [List.map_map, List.getElem?_map] at hx
      obtain ⟨⟨n, b⟩, hb, rfl⟩ := Option.map_eq_some_iff.mp hx
      have hm := List.mem_of_getElem? hb
      have e := lk_of_mem hC.kB hm
      have h1' := f1 _ _ h1
      have h2' := f1 _ _ h2
      have h3' := f1 _ _ (hC.bx _ hm).ob
      have hD' : D ≠ q := (none_upd hD).1
      walk_at "go"
      refine ⟨rfl, ?_⟩
      walk_at "gof"
      refine ⟨_, _, rfl, by rw [← kvB_some e]; exact DGet.k (k := Sum.inl n) h2', ?_⟩
      walk_at "gof"
      refine g_iteB (fun c => ?_) (fun c => ?_)
      · walk_at "gof"
        refine ⟨_, f3, ?_, fun b o eb => ?_, ?_, ?_⟩
        · have := (List.length_filter_le (fun e : Int × LBx => e.2.hand) (C.B.take i))
          have := hC.sB
          refine small1000 ?_
          rw [List.length_map, List.length_map]
          have : (C.B.take i).length ≤ C.B.length := by rw [List.length_take]; omega
          omega
        · rw [upd_ne (ne_of_none (Same.new hq _ _ eb) hD)]
          exact f1 b o eb
        · rw [upd_ne hD'.symm]; exact f2
        · rw [upd_same, take_snoc hb, List.filter_append, List.map_append, List.map_append]
          have c : b.hand = true := c
          simp [List.filter, c]
      · refine ⟨f1, f2, ?_⟩
        rw [f3, take_snoc hb, List.filter_append, List.map_append, List.map_append]
        have c : b.hand = false := c
        simp [List.filter, c]
    · rintro H1 ⟨f1, f2, f3⟩
      rw [List.length_map, List.length_map, List.take_length] at f3
      exact k D H1 (none_upd hD).2 f1 f3
end
section
variable {P : Program} {w : World} {K : PySem.W.Frag} {mg : Str → Option Value} {base : Heap} {a : Ad}
/-! ### put, empty, take, drop, bequeath -/
def LCh.setB (C : LCh) (n : Int) (b : LBx) : LCh := { C with B := LW.setB C.B n fun _ => b }
def spPut (a : Ad) : Sp := fun vs H Q E => ∃ (p : Addr) (n s o : Int) (g : Bool) (C : LCh), vs = [.ref p, .int n, .int s, .int o, .bl g] ∧ CAt a.Chest a.Box H p C ∧
  (C.B.lookup n = none → E (.ref a.NoBox) none H) ∧ ∀ b, C.B.lookup n = some b → ((s < 0 ∨ (b.vs.length : Int) ≤ s) → E (.ref a.NoSlot) none H) ∧
    (0 ≤ s → s < (b.vs.length : Int) → (C.B.lookup o = none → E (.ref a.NoBox) none H) ∧ ((∃ x, C.B.lookup o = some x) → ∀ t H', H t = none → Fr [b.l] H H' → H' t = some (.tup [.int o, .bl g]) →
      CAt a.Chest a.Box H' p (C.setB n { b with vs := b.vs.set s.toNat (.ref t) }) → Q .non H'))
theorem ixN_of {n : Nat} {s : Int} (h0 : 0 ≤ s) (h1 : s < (n : Int)) : ixN n s = some s.toNat := by
  unfold ixN
  rw [if_pos h0, if_pos h1]
theorem ok_Chest_put (T : Txt a K mg) : FnOk P w K mg base (CN P w) 3 a.f_Chest_put a.fd_Chest_put ["self", "box", "slot", "other", "holds"] (spPut a) := by
  refine okN T.F_Chest_put sc_Chest_put (fun vs H Q E h => ?_) (fun cdv A outer s H vs Q E hr h => ?_)
  · obtain ⟨p, n, s, o, g, C, rfl, _⟩ := h; rfl
  · obtain ⟨p, n, s, o, g, C, rfl, hC, k1, k2⟩ := h
    have h1 := hC.ob
    have hr1 : Room 1 _ := hr.mono (by decide); have hr2 : Room 2 _ := hr.mono (by decide);
    refine ⟨_, (pss_cons (ps_set (i := 5) sc_Chest_put.nd rfl (Or.inl rfl) (pe_meth (pv 0) T.cl_Chest T.m_Chest_slots_with (ok_Chest_slots_with T) hr2 T.b_Chest_slots_with .nil (L2N.passes_call (W := fun cls d _ H => E cls d H) (L2N.takes_of rfl rfl rfl rfl) (fun _ _ _ _ h => h)) (pa_cons (pv 1) (pa_cons (pv 2) pa_nil))))
      (pss_cons (ps_expr (pe_meth (pv 0) T.cl_Chest T.m_Chest_kept_box (ok_Chest_kept_box T) hr1 T.b_Chest_kept_box .nil (L2N.passes_call (W := fun cls d _ H => E cls d H) (L2N.takes_of rfl rfl rfl rfl) (fun _ _ _ _ h => h)) (pa_cons (pv 3) pa_nil)))
      (pss_one (ps_asg (pe_tup (pa_cons (pv 3) (pa_cons (pv 4) pa_nil))) (pg_sub (pv 5) (pv 2) set_list))))), ?_⟩
    try dsimp only [cxOf]
    walk_at "gof"
    walk_at "m1"
    walk_at "gof"
    refine ⟨p, n, s, C, rfl, hC, k1, fun b e => ?_⟩
    obtain ⟨k3, k4⟩ := k2 b e
    refine ⟨k3, fun s0 s1 => ?_⟩
    obtain ⟨k5, k6⟩ := k4 s0 s1
    have hB := hC.bx _ (lk_mem e)
    have hl := hB.sl
    try dsimp only at hl
    walk_at "gof"
    walk_at "m1"
    walk_at "gof"
    refine ⟨p, o, C, rfl, hC, k5, fun x ex => ?_⟩
    walk_at "gof"
    refine ⟨by show 2 ≤ sizeLine; decide, fun t ht => ?_⟩
    walk_at "gof"
    have hs : s.toNat < b.vs.length := by omega
    refine g_setL (by walk_at "hl") (ixN_of s0 s1) ?_
    have fB := hB.ob
    have fW := hB.wl
    try dsimp only at fB fW
    have nal : b.a ≠ b.l := ne_of fB hl (by intro z; cases z)
    have nwl : b.w ≠ b.l := by
      intro z
      have nd := hC.nd
      have hm := lk_mem e
      obtain ⟨l1, l2, eB, h1, h2⟩ := lk_split hC.kB e
      have eo : own p C = (p :: C.d1 :: C.d2 :: ownBs l1) ++ ([b.a, b.l] ++ b.w :: ownBs l2) := by
        unfold own; rw [eB]; unfold ownBs; simp [ownB]
      rw [eo] at nd
      obtain ⟨_, n23, _⟩ := List.nodup_append.mp nd
      obtain ⟨_, _, n5⟩ := List.nodup_append.mp n23
      exact n5 b.l (by simp) b.w (by simp) z.symm
    refine k6 ⟨x, ex⟩ t _ ht ?_ (by walk_at "hl") ?_
    · intro c u hc nc
      rw [upd_ne (by simpa using nc), upd_ne (ne_of_none hc ht)]; exact hc
    · refine hC.upd e rfl rfl (.inl rfl) ⟨?_, upd_same, ?_, by rw [List.length_set]; exact hB.sz⟩ ?_
      · rw [upd_ne nal, upd_ne (ne_of_none fB ht)]; exact fB
      · rw [upd_ne nwl, upd_ne (ne_of_none fW ht)]; exact fW
      · intro c u hc nc
        simp only [ownB, List.mem_cons, List.not_mem_nil, or_false, not_or] at nc
        rw [upd_ne nc.2.1, upd_ne (ne_of_none hc ht)]; exact hc
theorem BxAt.ne {a : Ad} {H : Hp} {p : Addr} {C : LCh} {n : Int} {b : LBx} (hC : CAt a.Chest a.Box H p C) (e : C.B.lookup n = some b) : b.a ≠ b.l ∧ b.w ≠ b.l ∧ b.a ≠ b.w := by
  have nd := hC.nd
  obtain ⟨l1, l2, eB, h1, h2⟩ := lk_split hC.kB e
  have eo : own p C = (p :: C.d1 :: C.d2 :: ownBs l1) ++ ([b.a, b.l, b.w] ++ ownBs l2) := by
    unfold own; rw [eB]; unfold ownBs; simp [ownB]
  rw [eo] at nd
  obtain ⟨_, n23, _⟩ := List.nodup_append.mp nd
  obtain ⟨n2, _, _⟩ := List.nodup_append.mp n23
  simp only [List.nodup_cons, List.mem_cons, List.not_mem_nil, or_false, not_or] at n2
  exact ⟨n2.1.1, fun z => n2.2.1 z.symm, n2.1.2⟩
def spEmpty (a : Ad) : Sp := fun vs H Q E => ∃ (p : Addr) (n s : Int) (C : LCh), vs = [.ref p, .int n, .int s] ∧ CAt a.Chest a.Box H p C ∧
  (C.B.lookup n = none → E (.ref a.NoBox) none H) ∧ ∀ b, C.B.lookup n = some b → ((s < 0 ∨ (b.vs.length : Int) ≤ s) → E (.ref a.NoSlot) none H) ∧
    (0 ≤ s → s < (b.vs.length : Int) → ∀ H', Fr [b.l] H H' → CAt a.Chest a.Box H' p (C.setB n { b with vs := b.vs.set s.toNat .non }) → Q .non H')
theorem ok_Chest_empty (T : Txt a K mg) : FnOk P w K mg base (CN P w) 3 a.f_Chest_empty a.fd_Chest_empty ["self", "box", "slot"] (spEmpty a) := by
  refine okN T.F_Chest_empty sc_Chest_empty (fun vs H Q E h => ?_) (fun cdv A outer s H vs Q E hr h => ?_)
  · obtain ⟨p, n, s, C, rfl, _⟩ := h; rfl
  · obtain ⟨p, n, s, C, rfl, hC, k1, k2⟩ := h
    have h1 := hC.ob
    have hr2 : Room 2 _ := hr.mono (by decide);
    refine ⟨_, (pss_cons (ps_set (i := 3) sc_Chest_empty.nd rfl (Or.inl rfl) (pe_meth (pv 0) T.cl_Chest T.m_Chest_slots_with (ok_Chest_slots_with T) hr2 T.b_Chest_slots_with .nil (L2N.passes_call (W := fun cls d _ H => E cls d H) (L2N.takes_of rfl rfl rfl rfl) (fun _ _ _ _ h => h)) (pa_cons (pv 1) (pa_cons (pv 2) pa_nil))))
      (pss_one (ps_asg pe_non (pg_sub (pv 3) (pv 2) set_list)))), ?_⟩
    try dsimp only [cxOf]
    walk_at "gof"
    walk_at "m1"
    walk_at "gof"
    refine ⟨p, n, s, C, rfl, hC, k1, fun b e => ?_⟩
    obtain ⟨k3, k4⟩ := k2 b e
    refine ⟨k3, fun s0 s1 => ?_⟩
    have hB := hC.bx _ (lk_mem e)
    have hl := hB.sl
    have fB := hB.ob
    have fW := hB.wl
    try dsimp only at hl fB fW
    obtain ⟨nal, nwl, _⟩ := BxAt.ne hC e
    walk_at "gof"
    refine g_setL (by walk_at "hl") (ixN_of s0 s1) ?_
    refine k4 s0 s1 _ ?_ ?_
    · intro c u hc nc
      rw [upd_ne (by simpa using nc)]; exact hc
    · refine hC.upd e rfl rfl (.inl rfl) ⟨?_, upd_same, ?_, by rw [List.length_set]; exact hB.sz⟩ ?_
      · rw [upd_ne nal]; exact fB
      · rw [upd_ne nwl]; exact fW
      · intro c u hc nc
        simp only [ownB, List.mem_cons, List.not_mem_nil, or_false, not_or] at nc
        rw [upd_ne nc.2.1]; exact hc
def spTake (a : Ad) : Sp := fun vs H Q E => ∃ (p : Addr) (n : Int) (C : LCh), vs = [.ref p, .int n] ∧ CAt a.Chest a.Box H p C ∧
  (C.B.lookup n = none → E (.ref a.NoBox) none H) ∧ ∀ b, C.B.lookup n = some b → ∀ H', Fr [b.a] H H' → CAt a.Chest a.Box H' p (C.setB n { b with hand := true }) → Q .non H'
theorem ok_Chest_take (T : Txt a K mg) : FnOk P w K mg base (CN P w) 2 a.f_Chest_take a.fd_Chest_take ["self", "box"] (spTake a) := by
  refine okN T.F_Chest_take sc_Chest_take (fun vs H Q E h => ?_) (fun cdv A outer s H vs Q E hr h => ?_)
  · obtain ⟨p, n, C, rfl, _⟩ := h; rfl
  · obtain ⟨p, n, C, rfl, hC, k1, k2⟩ := h
    have h1 := hC.ob
    have hr1 : Room 1 _ := hr.mono (by decide);
    refine ⟨_, (pss_cons (ps_set (i := 2) sc_Chest_take.nd rfl (Or.inl rfl) (pe_meth (pv 0) T.cl_Chest T.m_Chest_kept_box (ok_Chest_kept_box T) hr1 T.b_Chest_kept_box .nil (L2N.passes_call (W := fun cls d _ H => E cls d H) (L2N.takes_of rfl rfl rfl rfl) (fun _ _ _ _ h => h)) (pa_cons (pv 1) pa_nil)))
      (pss_one (ps_fld (pv 2) pe_bl rfl))), ?_⟩
    try dsimp only [cxOf]
    walk_at "gof"
    walk_at "m1"
    walk_at "gof"
    refine ⟨p, n, C, rfl, hC, k1, fun b e => ?_⟩
    have hB := hC.bx _ (lk_mem e)
    have hl := hB.sl
    have fB := hB.ob
    have fW := hB.wl
    try dsimp only at hl fB fW
    obtain ⟨nal, nwl, naw⟩ := BxAt.ne hC e
    walk_at "gof"
    refine ⟨_, _, _, _, rfl, fB, T.cl_Box, T.na_Box_in_hands, (by show 3 < 1000; decide), ?_⟩
    rw [fBox_putHand]
    refine k2 b e _ (Fr.upd (by simp)) ?_
    · refine hC.upd e rfl rfl (.inl rfl) ⟨upd_same, ?_, ?_, hB.sz⟩ ?_
      · rw [upd_ne nal.symm]; exact hl
      · rw [upd_ne naw.symm]; exact fW
      · intro c u hc nc
        simp only [ownB, List.mem_cons, List.not_mem_nil, or_false, not_or] at nc
        rw [upd_ne nc.1]; exact hc
def spDrop (a : Ad) : Sp := fun vs H Q E => ∃ (p : Addr) (n : Int) (C : LCh), vs = [.ref p, .int n] ∧ CAt a.Chest a.Box H p C ∧
  (C.B.lookup n = none → E (.ref a.NoBox) none H) ∧ ∀ b, C.B.lookup n = some b → (b.hand = false → E (.ref a.NoHand) none H) ∧
    (b.hand = true → ∀ H', Fr [b.a] H H' → CAt a.Chest a.Box H' p (C.setB n { b with hand := false }) → Q .non H')
theorem ok_Chest_drop (T : Txt a K mg) : FnOk P w K mg base (CN P w) 2 a.f_Chest_drop a.fd_Chest_drop ["self", "box"] (spDrop a) := by
  refine okN T.F_Chest_drop sc_Chest_drop (fun vs H Q E h => ?_) (fun cdv A outer s H vs Q E hr h => ?_)
  · obtain ⟨p, n, C, rfl, _⟩ := h; rfl
  · obtain ⟨p, n, C, rfl, hC, k1, k2⟩ := h
    have h1 := hC.ob
    have hr1 : Room 1 _ := hr.mono (by decide);
    refine ⟨_, (pss_cons (ps_set (i := 2) sc_Chest_drop.nd rfl (Or.inl rfl) (pe_meth (pv 0) T.cl_Chest T.m_Chest_kept_box (ok_Chest_kept_box T) hr1 T.b_Chest_kept_box .nil (L2N.passes_call (W := fun cls d _ H => E cls d H) (L2N.takes_of rfl rfl rfl rfl) (fun _ _ _ _ h => h)) (pa_cons (pv 1) pa_nil)))
      (pss_cons (ps_if (pt_not (pt_val (pe_fld (pv 2) rfl))) (pss_one (L2N.ps_raise (W := fun cls d _ H => E cls d H) rfl (L2N.takes_of rfl rfl rfl rfl) (pmk_N T.x_NoHand rfl pe_str))) pss_nil)
      (pss_one (ps_fld (pv 2) pe_bl rfl)))), ?_⟩
    try dsimp only [cxOf]
    walk_at "gof"
    walk_at "m1"
    walk_at "gof"
    refine ⟨p, n, C, rfl, hC, k1, fun b e => ?_⟩
    obtain ⟨k3, k4⟩ := k2 b e
    have hB := hC.bx _ (lk_mem e)
    have hl := hB.sl
    have fB := hB.ob
    have fW := hB.wl
    try dsimp only at hl fB fW
    obtain ⟨nal, nwl, naw⟩ := BxAt.ne hC e
    walk_at "gof"
    refine g_iteNB (fun c => ?_) (fun c => ?_)
    · walk_at "gof"
      exact k3 c
    · walk_at "gof"
      refine ⟨_, _, _, _, rfl, fB, T.cl_Box, T.na_Box_in_hands, (by show 3 < 1000; decide), ?_⟩
      rw [fBox_putHand]
      refine k4 c _ (Fr.upd (by simp)) ?_
      · refine hC.upd e rfl rfl (.inl rfl) ⟨upd_same, ?_, ?_, hB.sz⟩ ?_
        · rw [upd_ne nal.symm]; exact hl
        · rw [upd_ne naw.symm]; exact fW
        · intro c u hc nc
          simp only [ownB, List.mem_cons, List.not_mem_nil, or_false, not_or] at nc
          rw [upd_ne nc.1]; exact hc
end
section
variable {P : Program} {w : World} {K : PySem.W.Frag} {mg : Str → Option Value} {base : Heap} {a : Ad}
/-! ### pair, unpair, pairs, bequeath -/
def LCh.pairs (C : LCh) (t : Addr) : LCh := { C with np := C.np + 1, R := C.R ++ [(C.np, t)] }
def spPair (a : Ad) : Sp := fun vs H Q E => ∃ (p : Addr) (h k o : Int) (C : LCh), vs = [.ref p, .int h, .int k, .int o] ∧ CAt a.Chest a.Box H p C ∧
  (C.B.lookup h = none ∨ C.B.lookup k = none ∨ C.B.lookup o = none → ∀ H', Same H H' → E (.ref a.NoBox) none H') ∧
  (C.B.lookup h ≠ none → C.B.lookup k ≠ none → C.B.lookup o ≠ none → (C.R.length = 60 → ∀ H', Same H H' → E (.ref a.TooMany) none H') ∧
    (C.R.length < 60 → ∀ t H', H t = none → Fr [p, C.d2] H H' → H' t = some (.tup [.int h, .int k, .int o]) → CAt a.Chest a.Box H' p (C.pairs t) → Q (.int C.np) H'))
theorem none_or {α : Type} {o : Option α} : o = none ∨ ∃ x, o = some x := by cases o with | none => exact .inl rfl | some x => exact .inr ⟨x, rfl⟩
theorem ok_Chest_pair (T : Txt a K mg) : FnOk P w K mg base (CN P w) 2 a.f_Chest_pair a.fd_Chest_pair ["self", "home", "key", "other"] (spPair a) := by
  refine okN T.F_Chest_pair sc_Chest_pair (fun vs H Q E h => ?_) (fun cdv A outer s H vs Q E hr h => ?_)
  · obtain ⟨p, h, k, o, C, rfl, _⟩ := h; rfl
  · obtain ⟨p, h, k, o, C, rfl, hC, k1, k2⟩ := h
    have hu := hu_of hr
    have h1 := hC.ob
    have hd := hC.d2
    have hr1 : Room 1 _ := hr.mono (by decide);
    refine ⟨_, (pss_cons (ps_for PassesOwn.leaving rfl (pi_tup (pe_tup (pa_cons (pv 1) (pa_cons (pv 2) (pa_cons (pv 3) pa_nil))))) (pg_name (i := 4) sc_Chest_pair.nd rfl (Or.inl rfl))
      (pss_one (ps_expr (pe_meth (pv 0) T.cl_Chest T.m_Chest_kept_box (ok_Chest_kept_box T) hr1 T.b_Chest_kept_box .nil (L2N.passes_call (W := fun cls d _ H => E cls d H) (L2N.takes_of rfl rfl rfl rfl) (fun _ _ _ _ h => h)) (pa_cons (pv 4) pa_nil)))))
      (pss_cons (ps_if (pt_cmpR op_ge (pe_callB call_lenD' (by rfl) T.no_len (by decide +kernel) (pa_cons (pe_fld (pv 0) rfl) pa_nil)) (pe_glob (v := .int 60) rfl T.mg_MOST_PAIRS ⟨_, rfl⟩) (nomark _)) (pss_one (L2N.ps_raise (W := fun cls d _ H => E cls d H) rfl (L2N.takes_of rfl rfl rfl rfl) (pmk_N T.x_TooMany rfl (pe_joined (PJ.cons pe_str (PJ.cons (pe_fmt (pe_glob (v := .int 60) rfl T.mg_MOST_PAIRS ⟨_, rfl⟩)) (PJ.cons pe_str PJ.nil))))))) pss_nil)
      (pss_cons (ps_set (i := 5) sc_Chest_pair.nd rfl (Or.inl rfl) (pe_fld (pv 0) rfl))
      (pss_cons (ps_dput hu (pe_fld (pv 0) rfl) (pv 5) (pe_tup (pa_cons (pv 1) (pa_cons (pv 2) (pa_cons (pv 3) pa_nil)))) rfl)
      (pss_cons (ps_fld (pv 0) (pe_op op_add (pv 5) pe_int) rfl)
      (pss_one (ps_ret (pv 5)))))))), ?_⟩
    try dsimp only [cxOf]
    walk_at "gof"
    refine ⟨by show 3 ≤ sizeLine; decide, fun t0 ht0 => ?_⟩
    refine ⟨t0, rfl, ⟨_, SqT.of upd_same⟩, for_tup (K := K) (a := t0) (xs := [.int h, .int k, .int o]) (fun i σ H1 => ∃ v4 : Option V, σ = [some (.ref p), some (.int h), some (.int k), some (.int o), v4, none] ∧ H1 = upd H t0 (.tup [.int h, .int k, .int o]) ∧
      (1 ≤ i → C.B.lookup h ≠ none) ∧ (2 ≤ i → C.B.lookup k ≠ none) ∧ (3 ≤ i → C.B.lookup o ≠ none)) ⟨none, rfl, rfl, by omega, by omega, by omega⟩ (fun i σ H1 _ hh => ?_) ?_ ?_⟩
    · obtain ⟨_, _, rfl, _⟩ := hh
      exact SqT.of upd_same
    · rintro i x σ H1 hx ⟨v4, rfl, rfl, q1, q2, q3⟩
      have hC' := hC.same (Same.new (o := .tup [.int h, .int k, .int o]) ht0)
      have hi : i < 3 := (List.getElem?_eq_some_iff.mp hx).1
      have hx' : x = .int (if i = 0 then h else if i = 1 then k else o) ∧ (C.B.lookup (if i = 0 then h else if i = 1 then k else o) = none → C.B.lookup h = none ∨ C.B.lookup k = none ∨ C.B.lookup o = none) := by
        have : i = 0 ∨ i = 1 ∨ i = 2 := by omega
        rcases this with rfl | rfl | rfl
        · cases hx; exact ⟨rfl, .inl⟩
        · cases hx; exact ⟨rfl, fun z => .inr (.inl z)⟩
        · cases hx; exact ⟨rfl, fun z => .inr (.inr z)⟩
      obtain ⟨rfl, hno⟩ := hx'
      walk_at "gof"
      refine ⟨_, _, _, rfl, hC'.ob, fChest_no (by decide +kernel) (by decide +kernel) (by decide +kernel) (by decide +kernel), ?_⟩
      walk_at "gof"
      refine ⟨p, _, C, rfl, hC', fun e => k1 (hno e) _ (Same.new ht0), fun b e => ?_⟩
      refine ⟨_, rfl, rfl, ?_, ?_, ?_⟩
      · intro z
        by_cases i0 : i = 0
        · rw [if_pos i0] at e; rw [e]; exact fun q => nomatch q
        · exact q1 (by omega)
      · intro z
        by_cases i0 : i = 1
        · rw [if_neg (by omega), if_pos i0] at e; rw [e]; exact fun q => nomatch q
        · exact q2 (by omega)
      · intro z
        by_cases i0 : i = 2
        · rw [if_neg (by omega), if_neg (by omega)] at e; rw [e]; exact fun q => nomatch q
        · exact q3 (by omega)
    · rintro σ H1 ⟨v4, rfl, rfl, q1, q2, q3⟩
      obtain ⟨k3, k4⟩ := k2 (q1 (by show 1 ≤ 3; decide)) (q2 (by show 2 ≤ 3; decide)) (q3 (by show 3 ≤ 3; decide))
      have s1 : Same H (upd H t0 (.tup [.int h, .int k, .int o])) := Same.new ht0
      have hC' := hC.same s1
      have hd' := hC'.d2
      walk_at "gof"
      refine g_lenD hd' ?_
      rw [kvR_len]
      walk_at "gof"
      refine g_ite (fun c => ?_) (fun c => ?_)
      · walk_at "gof"
        exact k3 (by have := hC.sR; omega) _ s1
      · walk_at "gof"
        refine ⟨by show 3 ≤ sizeLine; decide, fun t ht => ?_⟩
        have ht' := none_upd ht
        have s2 : Same H (upd (upd H t0 (.tup [.int h, .int k, .int o])) t (.tup [.int h, .int k, .int o])) := s1.trans (Same.new ht)
        have hC2 := hC.same s2
        walk_at "gof"
        refine ⟨_, _, rfl, DPut.k (k := Sum.inl C.np) hC2.d2 (small1000 (by rw [kvR_len]; omega)), ?_⟩
        rw [kvR_put (fun e he => (hC.lR e he).2)]
        have npd : p ≠ C.d2 := ne_of h1 hd (by intro z; cases z)
        walk_at "gof"
        refine ⟨_, _, _, _, rfl, (by rw [upd_ne npd]; exact hC2.ob), T.cl_Chest, T.na_Chest_next_pair, (by show 4 < 1000; decide), ?_⟩
        rw [fChest_putNp]
        walk_at "gof"
        have nd := hC.nd
        unfold own at nd
        simp only [List.nodup_cons, List.mem_cons, not_or] at nd
        have ntp : t ≠ p := (ne_of_none h1 ht'.2).symm
        have ntd : t ≠ C.d2 := (ne_of_none hd ht'.2).symm
        refine k4 (by omega) t _ ht'.2 ?_ (by rw [upd_ne ntp, upd_ne ntd]; exact upd_same) ?_
        · intro c u hc nc
          simp only [List.mem_cons, List.not_mem_nil, or_false, not_or] at nc
          rw [upd_ne nc.1, upd_ne nc.2]; exact s2 _ _ hc
        · refine ⟨upd_same, ?_, ?_, ?_, hC.nd, hC.kB, hC.lB, ?_, ?_, hC.sB, ?_, ⟨hC.nn.1, by show 0 ≤ C.np + 1; have := hC.nn.2; omega⟩⟩
          · show upd (upd _ C.d2 _) p _ C.d1 = some (.dK (kvB C.B))
            rw [upd_ne (fun z => nd.1.1 z.symm), upd_ne (fun z => nd.2.1.1 z)]; exact hC2.d1
          · show upd (upd _ C.d2 _) p _ C.d2 = some (.dK (kvR (C.R ++ [(C.np, t)])))
            rw [upd_ne npd.symm]; exact upd_same
          · intro e he
            refine (hC2.bx e he).keep fun c u hc hh => ?_
            have := own_disj hC.nd e he c hc
            rw [upd_ne this.1, upd_ne this.2.2]; exact hh
          · show ((C.R ++ [(C.np, t)]).map (·.1)).Pairwise (· < ·)
            rw [List.map_append]
            exact pw_snoc hC.kR fun y hy => by
              obtain ⟨e, he, rfl⟩ := List.mem_map.mp hy
              exact (hC.lR e he).2
          · intro e he
            rcases List.mem_append.mp he with he | he
            · have := hC.lR e he
              exact ⟨this.1, by show e.1 < C.np + 1; omega⟩
            · cases List.mem_singleton.mp he
              exact ⟨hC.nn.2, by show C.np < C.np + 1; omega⟩
          · show (C.R ++ [(C.np, t)]).length ≤ 60
            rw [List.length_append, List.length_singleton]; omega
def spUnpair (a : Ad) : Sp := fun vs H Q E => ∃ (p : Addr) (n : Int) (C : LCh), vs = [.ref p, .int n] ∧ CAt a.Chest a.Box H p C ∧
  (C.R.lookup n = none → E (.ref a.NoPair) none H) ∧ (∀ t, C.R.lookup n = some t → ∀ H', Fr [C.d2] H H' → CAt a.Chest a.Box H' p { C with R := C.R.filter fun e => decide (e.1 ≠ n) } → Q .non H')
theorem kvR_drop {R : List (Int × Addr)} {n : Int} : dropK (kvR R) (Sum.inl n : Key) = kvR (R.filter fun e => decide (e.1 ≠ n)) := by
  unfold dropK kvR
  rw [List.filter_map]
  congr 1
  refine List.filter_congr fun e _ => ?_
  show decide ((Sum.inl e.1 : Key) ≠ Sum.inl n) = decide (e.1 ≠ n)
  by_cases q : e.1 = n
  · simp [q]
  · simp [q]
theorem ok_Chest_unpair (T : Txt a K mg) : FnOk P w K mg base (CN P w) 1 a.f_Chest_unpair a.fd_Chest_unpair ["self", "pair"] (spUnpair a) := by
  refine okN T.F_Chest_unpair sc_Chest_unpair (fun vs H Q E h => ?_) (fun cdv A outer s H vs Q E hr h => ?_)
  · obtain ⟨p, n, C, rfl, _⟩ := h; rfl
  · obtain ⟨p, n, C, rfl, hC, k1, k2⟩ := h
    have hu := hu_of hr
    have h1 := hC.ob
    have hd := hC.d2
    skip
    refine ⟨_, (pss_cons (ps_if (pt_cmp (pc_dnotin hu (pv 1) (pe_fld (pv 0) rfl))) (pss_one (L2N.ps_raise (W := fun cls d _ H => E cls d H) rfl (L2N.takes_of rfl rfl rfl rfl) (pmk_N T.x_NoPair rfl pe_str))) pss_nil)
      (pss_one (ps_ddel (pe_fld (pv 0) rfl) (pv 1)))), ?_⟩
    try dsimp only [cxOf]
    walk_at "gof"
    refine ⟨_, _, rfl, DGet.k (k := Sum.inl n) hd, ?_⟩
    cases e : C.R.lookup n with
    | none =>
      rw [kvR_none e]
      walk_at "gof"
      exact k1 e
    | some t =>
      rw [kvR_some e]
      walk_at "gof"
      refine ⟨_, _, Sum.inl n, rfl, hd, rfl, (by rw [kvR_some e]; rfl), ?_⟩
      rw [kvR_drop]
      have npd : p ≠ C.d2 := ne_of h1 hd (by intro z; cases z)
      have nd := hC.nd
      unfold own at nd
      simp only [List.nodup_cons, List.mem_cons, not_or] at nd
      refine k2 t e _ (Fr.upd (by simp)) ⟨by rw [upd_ne npd]; exact h1, ?_, upd_same, ?_, hC.nd, hC.kB, hC.lB, ?_, ?_, hC.sB, ?_, hC.nn⟩
      · rw [upd_ne (fun z => nd.2.1.1 z)]; exact hC.d1
      · intro e he
        refine (hC.bx e he).keep fun c u hc hh => ?_
        have := own_disj hC.nd e he c hc
        rw [upd_ne this.2.2]; exact hh
      · exact hC.kR.sublist (List.Sublist.map _ (List.filter_sublist))
      · exact fun e he => hC.lR e (List.mem_filter.mp he).1
      · exact Nat.le_trans (List.length_filter_le _ _) hC.sR
/-- a row of pairs() -/
def RowV (H : Hp) (v : V) (f : Int × Int × Int × Int) : Prop := ∃ t, v = .ref t ∧ H t = some (.tup [.int f.1, .int f.2.1, .int f.2.2.1, .int f.2.2.2])
def spPairs (a : Ad) : Sp := fun vs H Q _ => ∃ (p : Addr) (C : LCh) (ps : List (Int × (Int × Int × Int))), vs = [.ref p] ∧ CAt a.Chest a.Box H p C ∧ Paired (fun e f => e.1 = f.1 ∧ PairV H e.2 f.2) C.R ps ∧
  ∀ q H' ws, H q = none → Same H H' → H' q = some (.lst ws) → Paired (RowV H') ws ps → Q (.ref q) H'
theorem paired_get {α β : Type} {F : α → β → Prop} : ∀ {l1 : List α} {l2 : List β}, Paired F l1 l2 → ∀ {i : Nat} {x : α}, l1[i]? = some x → ∃ y, l2[i]? = some y ∧ F x y
  | _, _, .nil, i, x, h => by simp at h
  | _, _, .cons (a := c) (b := d) f r, 0, x, h => by cases (Option.some.inj h : c = x); exact ⟨d, rfl, f⟩
  | _, _, .cons f r, i + 1, x, h => paired_get r (i := i) h
theorem ok_Chest_pairs (T : Txt a K mg) : FnOk P w K mg base (CN P w) 1 a.f_Chest_pairs a.fd_Chest_pairs ["self"] (spPairs a) := by
  refine okN T.F_Chest_pairs sc_Chest_pairs (fun vs H Q E h => ?_) (fun cdv A outer s H vs Q E hr h => ?_)
  · obtain ⟨p, C, ps, rfl, _⟩ := h; rfl
  · obtain ⟨p, C, ps, rfl, hC, hP, k⟩ := h
    have hu := hu_of hr
    have h1 := hC.ob
    have hd := hC.d2
    skip
    refine ⟨_, (pss_one (ps_ret (pe_lc (own := [("pair", 1)]) (g := gName 1) (tt := tYes) (te := (tTup (tCons (tVar 1) (StX.tStar K (tDGet (tFld K (tVar 0) "kept_pairs") (tVar 1)) tNil)))) (by rfl) sc_Chest_pairs.nd (pi_list (pe_callB (call_sortedDI' rfl) (by rfl) T.no_sorted (by decide +kernel) (pa_cons (pe_fld (pv 0) rfl) pa_nil))) (blkOk_by (own := [("pair", 1)]) (N := N_Chest_pairs) (sc := defScope s_Chest_pairs) (by decide +kernel)) (fun _ _ _ _ _ => (pg_name (i := 1) sc_Chest_pairs.nd rfl (Or.inl rfl))) (fun _ _ _ _ _ => pts_nil) (fun _ _ _ _ _ => (pe_tup (pa_cons (pv 1) (StX.pa_star (pe_dget hu (pe_fld (pv 0) rfl) (pv 1) (fun _ _ => rfl)) pa_nil))))))), ?_⟩
    try dsimp only [cxOf]
    walk_at "gof"
    refine ⟨_, _, C.R.map (·.1), rfl, .inl hd, kvR_keys _, (by rw [List.length_map]; have := hC.sR; omega), fun ys q pm srt hq => ?_⟩
    rw [perm_sorted pm srt hC.kR]
    refine ⟨q, rfl, ⟨_, SqL.of upd_same⟩, fun D hD => lc_list (K := K) (a := q) (xs := (C.R.map (·.1)).map V.int)
      (fun i H1 => Same H H1 ∧ H1 q = some (.lst ((C.R.map (·.1)).map V.int)) ∧ ∃ ws, H1 D = some (.lst ws) ∧ Paired (RowV H1) ws (ps.take i)) ?_ (fun i H1 _ h => SqL.of h.2.1) ?_ ?_⟩
    · exact ⟨fun b o e => by walk_at "hl", by walk_at "hl", [], upd_same, .nil⟩
    · rintro i x H1 hx ⟨f1, f2, ws, f3, f4⟩
      rw [List.map_map, List.getElem?_map] at hx
      obtain ⟨⟨n, t⟩, hb, rfl⟩ := Option.map_eq_some_iff.mp hx
      obtain ⟨⟨n', pr⟩, hps, hn, hpr⟩ := paired_get hP hb
      have hn : n = n' := hn
      subst hn
      have hpr : H t = some (.tup [.int pr.1, .int pr.2.1, .int pr.2.2]) := hpr
      have hm := List.mem_of_getElem? hb
      have e := lk_of_mem hC.kR hm
      have h1' := f1 _ _ h1
      have hd' := f1 _ _ hd
      have hDn : H D = none := (none_upd hD).2
      walk_at "go"
      refine ⟨rfl, ?_⟩
      walk_at "gof"
      refine ⟨_, _, rfl, by rw [← kvR_some e]; exact DGet.k (k := Sum.inl n) hd', ?_⟩
      refine ⟨t, _, rfl, .inl (SqT.of (f1 _ _ hpr)), ?_⟩
      walk_at "gof"
      refine ⟨by show 4 ≤ sizeLine; decide, fun u hu2 => ?_⟩
      have hlen := f4.length
      have hDu : D ≠ u := ne_of_none f3 hu2
      have hqu : q ≠ u := ne_of_none f2 hu2
      have hqD : q ≠ D := fun z => by rw [← z] at hD; rw [upd_same] at hD; cases hD
      refine ⟨ws, by rw [upd_ne hDu]; exact f3, ?_, fun b o eb => ?_, ?_, ws ++ [.ref u], upd_same, ?_⟩
      · refine small1000 ?_
        have := (hP.length).symm
        have := hC.sR
        rw [List.length_take] at hlen
        omega
      · rw [upd_ne (ne_of_none eb hDn), upd_ne (ne_of_none (f1 _ _ eb) hu2)]; exact f1 _ _ eb
      · rw [upd_ne hqD, upd_ne hqu]; exact f2
      · rw [take_snoc hps]
        refine Paired.snoc (L2.Paired.mapP f4 ?_) ⟨u, rfl, by rw [upd_ne hDu.symm]; exact upd_same⟩
        rintro v f ⟨t2, rfl, e2⟩
        refine ⟨t2, rfl, ?_⟩
        rw [upd_ne (ne_of e2 f3 (by intro z; cases z)), upd_ne (ne_of_none e2 hu2)]; exact e2
    · rintro H1 ⟨f1, f2, ws, f3, f4⟩
      rw [List.length_map, List.length_map, hP.length, List.take_length] at f4
      exact k D H1 ws (none_upd hD).2 f1 f3 f4
def spNeg : Sp := fun vs H Q _ => ∃ (v : V) (d : Deed), vs = [v] ∧ DeedV H v d ∧ ∀ H', Same H H' → Q (.bl d.isNeg) H'
theorem ok_has_number_below_0 (T : Txt a K mg) : FnOk P w K mg base (CN P w) 1 a.f_has_number_below_0 a.fd_has_number_below_0 ["deed"] spNeg := by
  refine okN T.F_has_number_below_0 sc_has_number_below_0 (fun vs H Q E h => ?_) (fun cdv A outer s H vs Q E hr h => ?_)
  · obtain ⟨v, d, rfl, _⟩ := h; rfl
  · obtain ⟨v, d, rfl, hd, k⟩ := h
    refine ⟨_, (pss_one (ps_ret (pe_callB (cr_any rfl) (by rfl) T.no_any (by decide +kernel) (pa_cons (pe_lc (own := [("number", 1)]) (g := gName 1) (tt := tYes) (te := (tOp (rI0 fun i j => .bl (decide (i < j))) (tVar 1) (tC (.int 0)))) (by rfl) sc_has_number_below_0.nd (pi_tup (pe_slice (sl_tupK (K := K) rfl) (pv 0) (po_some pe_int) (po_some pe_int))) (blkOk_by (own := [("number", 1)]) (N := N_has_number_below_0) (sc := defScope s_has_number_below_0) (by decide +kernel)) (fun _ _ _ _ _ => (pg_name (i := 1) sc_has_number_below_0.nd rfl (Or.inl rfl))) (fun _ _ _ _ _ => pts_nil) (fun _ _ _ _ _ => (pe_cmpR op_lt (pv 1) pe_int (nomark _)))) pa_nil)))), ?_⟩
    try dsimp only [cxOf]
    obtain ⟨t, xs, ns, rfl, ht, hx1, hx, hk⟩ : ∃ (t : Addr) (xs : List V) (ns : List Int), v = .ref t ∧ H t = some (.tup xs) ∧ 1 ≤ xs.length ∧ cutV xs (some 1) (some 3) = ns.map V.int ∧ (ns.any fun z => decide (z < 0)) = d.isNeg := by
      cases hd with
      | up e => exact ⟨_, _, [], rfl, e, by decide, rfl, rfl⟩
      | down e => exact ⟨_, _, [_], rfl, e, (by show 1 ≤ 2; decide), rfl, by simp [Deed.isNeg]⟩
      | hang e => exact ⟨_, _, [_, _], rfl, e, (by show 1 ≤ 4; decide), rfl, by simp [Deed.isNeg]⟩
    have hnl : ns.length ≤ xs.length := by
      have := cutV_length xs (some 1) (some 3)
      rw [hx, List.length_map] at this
      exact this
    have hxl : ns.length ≤ 3 := by
      have : (cutV xs (some 1) (some 3)).length ≤ 3 := by
        unfold cutV
        rw [List.length_take]
        have : HT.sIx xs.length xs.length (some 3) ≤ 3 := by
          show (if (3 : Int) < 0 then ((3 : Int) + (xs.length : Int)).toNat else min (3 : Int).toNat xs.length) ≤ 3
          rw [if_neg (by decide)]
          exact Nat.min_le_left _ _
        omega
      rw [hx, List.length_map] at this
      exact this
    walk_at "gof"
    refine ⟨1, rfl, ?_⟩
    walk_at "gof"
    refine ⟨3, rfl, ?_⟩
    refine ⟨t, xs, rfl, SqT.of ht, ?_, fun u hu => ?_⟩
    · intro z
      have e : HT.sIx xs.length 0 (some 1) = min 1 xs.length := by
        show (if (1 : Int) < 0 then ((1 : Int) + (xs.length : Int)).toNat else min (1 : Int).toNat xs.length) = _
        rw [if_neg (by decide)]; rfl
      rw [e] at z
      omega
    rw [hx]
    refine ⟨u, rfl, ⟨_, SqT.of upd_same⟩, fun D hD => lc_tup (K := K) (a := u) (xs := ns.map V.int)
      (fun i H1 => Same H H1 ∧ H1 u = some (.tup (ns.map V.int)) ∧ H1 D = some (.lst (((ns.take i).map fun z => decide (z < 0)).map V.bl))) ?_ (fun i H1 _ h => SqT.of h.2.1) ?_ ?_⟩
    · exact ⟨fun b o e => by walk_at "hl", by walk_at "hl", upd_same⟩
    · rintro i x H1 hxi ⟨f1, f2, f3⟩
      rw [List.getElem?_map] at hxi
      obtain ⟨z, hz, rfl⟩ := Option.map_eq_some_iff.mp hxi
      walk_at "go"
      refine ⟨rfl, ?_⟩
      walk_at "gof"
      refine ⟨_, f3, ?_, fun b o eb => ?_, ?_, ?_⟩
      · refine small1000 ?_
        rw [List.length_map, List.length_map, List.length_take]; omega
      · rw [upd_ne (ne_of_none eb (none_upd hD).2)]; exact f1 _ _ eb
      · rw [upd_ne (fun z => by rw [← z, upd_same] at hD; cases hD)]; exact f2
      · rw [upd_same, take_snoc hz, List.map_append, List.map_append]; rfl
    · rintro H1 ⟨f1, f2, f3⟩
      rw [List.length_map, List.take_length] at f3
      walk_at "gof"
      refine ⟨_, _, rfl, SqL.of f3, ?_⟩
      rw [List.any_map]
      exact (show (ns.any (id ∘ fun z => decide (z < 0))) = d.isNeg from hk) ▸ k H1 f1
def spBequeath (a : Ad) : Sp := fun vs H Q E => ∃ (p l : Addr) (n : Int) (C : LCh) (us : List V) (ds : List Deed), vs = [.ref p, .int n, .ref l] ∧ CAt a.Chest a.Box H p C ∧ H l = some (.lst us) ∧ us.length ≤ 1000 ∧ Paired (DeedV H) us ds ∧
  (C.B.lookup n = none → ∀ H', Same H H' → E (.ref a.NoBox) none H') ∧ (∀ b, C.B.lookup n = some b → ((9 < ds.length ∨ ds.any Deed.isNeg = true) → ∀ H', Same H H' → E (.ref a.NoWill) none H') ∧
    (ds.length ≤ 9 → ds.any Deed.isNeg = false → ∀ w H', H w = none → Fr [b.a] H H' → CAt a.Chest a.Box H' p (C.setB n { b with w := w, ds := us }) → Q .non H'))
theorem ok_Chest_bequeath (T : Txt a K mg) : FnOk P w K mg base (CN P w) 2 a.f_Chest_bequeath a.fd_Chest_bequeath ["self", "box", "deeds"] (spBequeath a) := by
  refine okN T.F_Chest_bequeath sc_Chest_bequeath (fun vs H Q E h => ?_) (fun cdv A outer s H vs Q E hr h => ?_)
  · obtain ⟨p, l, n, C, us, ds, rfl, _⟩ := h; rfl
  · obtain ⟨p, l, n, C, us, ds, rfl, hC, hl, hus, hD, k1, k2⟩ := h
    have h1 := hC.ob
    have hr1 : Room 1 _ := hr.mono (by decide);
    refine ⟨_, (pss_cons (ps_set (i := 3) sc_Chest_bequeath.nd rfl (Or.inl rfl) (pe_meth (pv 0) T.cl_Chest T.m_Chest_kept_box (ok_Chest_kept_box T) hr1 T.b_Chest_kept_box .nil (L2N.passes_call (W := fun cls d _ H => E cls d H) (L2N.takes_of rfl rfl rfl rfl) (fun _ _ _ _ h => h)) (pa_cons (pv 1) pa_nil)))
      (pss_cons (ps_if (pt_cmpR op_gt (pe_callB call_lenS (by rfl) T.no_len (by decide +kernel) (pa_cons (pv 2) pa_nil)) (pe_glob (v := .int 9) rfl T.mg_MOST_DEEDS ⟨_, rfl⟩) (nomark _)) (pss_one (L2N.ps_raise (W := fun cls d _ H => E cls d H) rfl (L2N.takes_of rfl rfl rfl rfl) (pmk_N T.x_NoWill rfl (pe_joined (PJ.cons pe_str (PJ.cons (pe_fmt (pe_glob (v := .int 9) rfl T.mg_MOST_DEEDS ⟨_, rfl⟩)) (PJ.cons pe_str PJ.nil))))))) pss_nil)
      (pss_cons (ps_for PassesOwn.leaving rfl (pi_list (pv 2)) (pg_name (i := 4) sc_Chest_bequeath.nd rfl (Or.inl rfl))
      (pss_one (ps_if (pt_val (pe_call (ok_has_number_below_0 T) hr1 rfl T.mg_has_number_below_0 T.F_has_number_below_0.kp T.b_has_number_below_0 .nil pass0N (pa_cons (pv 4) pa_nil))) (pss_one (L2N.ps_raise (W := fun cls d _ H => E cls d H) rfl (L2N.takes_of rfl rfl rfl rfl) (pmk_N T.x_NoWill rfl pe_str))) pss_nil)))
      (pss_one (ps_fld (pv 3) (pe_callTy call_listS (by rfl) T.no_list (by decide +kernel) (pa_cons (pv 2) pa_nil)) rfl))))), ?_⟩
    try dsimp only [cxOf]
    walk_at "gof"
    walk_at "m1"
    walk_at "gof"
    refine ⟨p, n, C, rfl, hC, fun e => k1 e _ (Same.refl _), fun b e => ?_⟩
    obtain ⟨k3, k4⟩ := k2 b e
    walk_at "gof"
    refine g_lenL (SqL.of hl) ?_
    rw [hD.length]
    walk_at "gof"
    refine g_ite (fun c => ?_) (fun c => ?_)
    · walk_at "gof"
      exact k3 (.inl (by omega)) _ (Same.refl _)
    · walk_at "gof"
      refine ⟨l, rfl, ⟨_, SqL.of hl⟩, for_list (K := K) (a := l) (xs := us) (fun i σ H1 => ∃ v : Option V, σ = [some (.ref p), some (.int n), some (.ref l), some (.ref b.a), v] ∧ Same H H1 ∧ (ds.take i).any Deed.isNeg = false)
        ⟨none, rfl, Same.refl _, rfl⟩ (fun i σ H1 _ hh => ?_) ?_ ?_⟩
      · obtain ⟨_, _, sm, _⟩ := hh
        exact SqL.of (sm _ _ hl)
      · rintro i x σ H1 hx ⟨v, rfl, sm, hn⟩
        obtain ⟨d, hd, hdv⟩ := paired_get hD hx
        walk_at "gof"
        refine ⟨x, d, rfl, hdv.keep (fun t xs e => sm _ _ e), fun H2 s2 => ?_⟩
        walk_at "gof"
        refine g_iteB (fun c2 => ?_) (fun c2 => ?_)
        · walk_at "gof"
          exact k3 (.inr (List.any_eq_true.mpr ⟨d, List.mem_of_getElem? hd, c2⟩)) _ (sm.trans s2)
        · walk_at "gof"
          refine ⟨_, rfl, sm.trans s2, ?_⟩
          rw [take_snoc hd, List.any_append, hn]
          simp [c2]
      · rintro σ H1 ⟨v, rfl, sm, hn⟩
        rw [hD.length, List.take_length] at hn
        have hC1 := hC.same sm
        have hB := hC1.bx _ (lk_mem e)
        have fL := hB.sl
        have fB := hB.ob
        have fW := hB.wl
        try dsimp only at fL fB fW
        obtain ⟨nal, nwl, naw⟩ := BxAt.ne hC1 e
        walk_at "gof"
        refine g_listL (SqL.of (sm _ _ hl)) fun w hw => ?_
        walk_at "gof"
        have naw2 : b.a ≠ w := ne_of_none fB hw
        refine ⟨_, _, _, _, rfl, (by rw [upd_ne naw2]; exact fB), T.cl_Box, T.na_Box_deeds, (by show 3 < 1000; decide), ?_⟩
        rw [fBox_putDeeds]
        refine k4 (by omega) hn w _ (sm.free hw) ?_ ?_
        · intro c u hc nc
          rw [upd_ne (by simpa using nc), upd_ne (ne_of_none (sm _ _ hc) hw)]; exact sm _ _ hc
        · refine hC1.upd e rfl rfl (.inr hw) ⟨upd_same, ?_, ?_, hB.sz.1, by show us.length ≤ 9; rw [hD.length]; omega⟩ ?_
          · rw [upd_ne nal.symm, upd_ne (ne_of_none fL hw)]; exact fL
          · rw [upd_ne naw2.symm]; exact upd_same
          · intro c u hc nc
            simp only [ownB, List.mem_cons, List.not_mem_nil, or_false, not_or] at nc
            rw [upd_ne nc.1, upd_ne (ne_of_none hc hw)]; exact hc
end
section
variable {P : Program} {w : World} {K : PySem.W.Frag} {mg : Str → Option Value} {base : Heap} {a : Ad}
/-! ### the class of an error, by its word -/
def ErrW (a : Ad) (D : Addr) (wd : Str) : Prop := (D = a.NoSlot ∧ wd = "slot") ∨ (D = a.TooMany ∧ wd = "many") ∨ (D = a.NoHand ∧ wd = "hand") ∨ (D = a.NoPair ∧ wd = "pair") ∨ (D = a.NoWill ∧ wd = "will") ∨ (D = a.NoBox ∧ wd = "box")
theorem ErrW.ec (T : Txt a K mg) {D : Addr} {wd : Str} (h : ErrW a D wd) : ExcC K D := by
  rcases h with ⟨rfl, _⟩ | ⟨rfl, _⟩ | ⟨rfl, _⟩ | ⟨rfl, _⟩ | ⟨rfl, _⟩ | ⟨rfl, _⟩ <;> first | exact T.ec_NoSlot | exact T.ec_TooMany | exact T.ec_NoHand | exact T.ec_NoPair | exact T.ec_NoWill | exact T.ec_NoBox
theorem ErrW.em (T : Txt a K mg) {D : Addr} {wd : Str} (h : ErrW a D wd) : PySem.W.exmOne K (.ref D) (.ref a.WillError) = some true := by
  rcases h with ⟨rfl, _⟩ | ⟨rfl, _⟩ | ⟨rfl, _⟩ | ⟨rfl, _⟩ | ⟨rfl, _⟩ | ⟨rfl, _⟩ <;> first | exact T.em_NoSlot | exact T.em_TooMany | exact T.em_NoHand | exact T.em_NoPair | exact T.em_NoWill | exact T.em_NoBox
def spClass (a : Ad) : Addr × Obj → Sp := fun p vs H Q _ => vs = [.ref p.1] ∧ (∃ us, p.2.data = .fields us) ∧ ∃ (D : Addr) (wd : Str), Zc (.ref D) none p.2 ∧ ErrW a D wd ∧ ∀ H', Same H H' → Q (.str wd) H'
/-- .. as the suite knows it -/
def spErr (a : Ad) (ea : Addr) (cls : Value) (d : Option Addr) : Sp := fun vs H Q _ => vs = [.ref ea] ∧ ∃ (D : Addr) (wd : Str), cls = .ref D ∧ d = none ∧ ErrW a D wd ∧ ∀ H', Same H H' → Q (.str wd) H'
theorem spErr_to {ea : Addr} {oe : Obj} {cls : Value} {d : Option Addr} (hz : L2N.Zn cls d oe) (hf : ∃ us, oe.data = .fields us) : ∀ vs H Q, spErr a ea cls d vs H Q E0 → spClass a (ea, oe) vs H Q E0 := by
  rintro vs H Q ⟨h1, D, wd, rfl, rfl, hD, k⟩
  exact ⟨h1, hf, D, wd, hz.zc, hD, k⟩

end
section
variable {P : Program} {w : World} {K : PySem.W.Frag} {mg : Str → Option Value} {base : Heap} {a : Ad}
/-! ### the law's helpers -/
def cellAt (ns : List Int) (k : Int) : Int := (ns[k.toNat]?).getD 0
def spCellAt (K : PySem.W.Frag) : Sp := fun vs H Q _ => ∃ (p : Addr) (ns : List Int) (k : Int), vs = [.ref p, .int k] ∧ SqL K H p (ns.map V.int) ∧ 0 ≤ k ∧ Q (.int (cellAt ns k)) H
theorem ok_law_cell_at (T : Txt a K mg) : FnOk P w K mg base (CN P w) 1 a.f_law_cell_at a.fd_law_cell_at ["_law_script", "_law_k"] (spCellAt K) := by
  refine okN T.F_law_cell_at sc_law_cell_at (fun vs H Q E h => ?_) (fun cdv A outer s H vs Q E hr h => ?_)
  · obtain ⟨p, ns, k, rfl, _⟩ := h; rfl
  · obtain ⟨p, ns, k, rfl, hs, h0, kq⟩ := h
    refine ⟨_, (pss_cons (ps_if (pt_cmpR op_lt (pv 1) (pe_callB call_lenS (by rfl) T.no_len (by decide +kernel) (pa_cons (pv 0) pa_nil)) (nomark _)) (pss_one (ps_ret (pe_ix ix_list (pv 0) (pv 1) (fun _ _ => rfl)))) pss_nil)
      (pss_one (ps_ret pe_int))), ?_⟩
    try dsimp only [cxOf]
    walk_at "gof"
    refine g_lenL hs ?_
    walk_at "gof"
    unfold cellAt at kq
    refine g_ite (fun c => ?_) (fun c => ?_)
    · rw [List.length_map] at c
      have hk : k.toNat < ns.length := by omega
      rw [List.getElem?_eq_getElem hk] at kq
      walk_at "gof"
      exact g_ixL hs (at_of (j := k.toNat) (by omega) (by rw [List.getElem?_map, List.getElem?_eq_getElem hk]; rfl)) kq
    · rw [List.length_map] at c
      rw [List.getElem?_eq_none (by omega)] at kq
      walk_at "gof"
      exact kq

def spWhole : Sp := fun vs H Q _ => ∃ (i : Int), vs = [.int i] ∧ Q (.bl true) H
theorem ok_law_whole (T : Txt a K mg) : FnOk P w K mg base (CN P w) 1 a.f_law_whole a.fd_law_whole ["_law_found"] spWhole := by
  refine okN T.F_law_whole sc_law_whole (fun vs H Q E h => ?_) (fun cdv A outer s H vs Q E hr h => ?_)
  · obtain ⟨i, rfl, _⟩ := h; rfl
  · obtain ⟨i, rfl, kq⟩ := h
    refine ⟨_, (pss_one (ps_ret (pe_and (pe_callB call_isi (by rfl) T.no_isinstance (by decide +kernel) (pa_cons (pv 0) (pa_cons (pe_bltn (v := .ty "int") (by rfl) T.no_int (by decide +kernel) rfl) pa_nil))) (pe_one (pe_not (pe_callB call_isi (by rfl) T.no_isinstance (by decide +kernel) (pa_cons (pv 0) (pa_cons (pe_bltn (v := .ty "bool") (by rfl) T.no_bool (by decide +kernel) rfl) pa_nil)))))))), ?_⟩
    try dsimp only [cxOf]
    walk_at "gof"
    refine g_isiI (TyOf.int i) (kit_ty (r := true) (by decide +kernel)) ?_
    walk_at "gof"
    refine g_isiI (TyOf.int i) (kit_ty (r := false) (by decide +kernel)) ?_
    walk_at "gof"
    exact kq

def someL : List Int := [99991, 99989, 99971, 99961, 99929, 99923, 99907, 99901, 99881, 99877, 99871]
def mixA (c k : Int) : Int := ((c + 7 * k) * 48271).fmod (cellAt someL (k % 11))
def mixF (c k m : Int) : Int := ((mixA c k * mixA c k * 7 + mixA c k + k) % 1000003).fmod m
theorem mixF_in {c k m : Int} (h : 0 < m) : 0 ≤ mixF c k m ∧ mixF c k m < m := by
  unfold mixF
  rw [Int.fmod_eq_emod_of_nonneg _ (by omega)]
  exact ⟨Int.emod_nonneg _ (by omega), Int.emod_lt_of_pos _ h⟩
theorem someL_in {k : Int} (h0 : 0 ≤ k) (h1 : k < 11) : someL[k.toNat]? = some (cellAt someL k) ∧ 0 < cellAt someL k ∧ cellAt someL k ≤ 100000 := by
  have : k = 0 ∨ k = 1 ∨ k = 2 ∨ k = 3 ∨ k = 4 ∨ k = 5 ∨ k = 6 ∨ k = 7 ∨ k = 8 ∨ k = 9 ∨ k = 10 := by omega
  rcases this with rfl | rfl | rfl | rfl | rfl | rfl | rfl | rfl | rfl | rfl | rfl <;> exact ⟨rfl, by decide, by decide⟩
def spMixed (K : PySem.W.Frag) : Sp := fun vs H Q _ => ∃ (c k m : Int), vs = [.int c, .int k, .int m] ∧ 0 < m ∧ ∀ H', Same H H' → Q (.int (mixF c k m)) H'
theorem ok_law_mixed (T : Txt a K mg) : FnOk P w K mg base (CN P w) 1 a.f_law_mixed a.fd_law_mixed ["_law_cell", "_law_k", "_law_many"] (spMixed K) := by
  refine okN T.F_law_mixed sc_law_mixed (fun vs H Q E h => ?_) (fun cdv A outer s H vs Q E hr h => ?_)
  · obtain ⟨c, k, m, rfl, _⟩ := h; rfl
  · obtain ⟨c, k, m, rfl, hm, kq⟩ := h
    refine ⟨_, (pss_cons (ps_set (i := 3) sc_law_mixed.nd rfl (Or.inl rfl) (pe_lst (pa_cons pe_int (pa_cons pe_int (pa_cons pe_int (pa_cons pe_int (pa_cons pe_int (pa_cons pe_int (pa_cons pe_int (pa_cons pe_int (pa_cons pe_int (pa_cons pe_int (pa_cons pe_int pa_nil)))))))))))))
      (pss_cons (ps_set (i := 4) sc_law_mixed.nd rfl (Or.inl rfl) (pe_op op_modN (pe_op op_mul (pe_op op_add (pv 0) (pe_op op_mul pe_int (pv 1))) pe_int) (pe_ix ix_list (pv 3) (pe_op op_mod (pv 1) pe_int) (fun _ _ => rfl))))
      (pss_one (ps_ret (pe_op op_modN (pe_op op_mod (pe_op op_add (pe_op op_add (pe_op op_mul (pe_op op_mul (pv 4) (pv 4)) pe_int) (pv 4)) (pv 1)) pe_int) (pv 2)))))), ?_⟩
    try dsimp only [cxOf]
    walk_at "gof"
    refine ⟨by decide, fun l hl => ?_⟩
    obtain ⟨e1, e2, e3⟩ := someL_in (k := k % 11) (Int.emod_nonneg _ (by decide)) (Int.emod_lt_of_pos _ (by decide))
    walk_at "gof"
    refine g_rI (by exact .inl ⟨by decide, by decide⟩) ?_
    walk_at "gof"
    refine g_rI (by exact .inr ⟨by decide, by decide⟩) ?_
    walk_at "gof"
    refine g_rI (by decide) ?_
    refine g_ixL (xs := someL.map V.int) (v := .int (cellAt someL (k % 11))) (SqL.of upd_same) (at_of (j := (k % 11).toNat) (by omega) (by rw [List.getElem?_map, e1]; rfl)) ?_
    refine g_rI (by omega) ?_
    have eA : ((c + 7 * k) * 48271).fmod (cellAt someL (k % 11)) = mixA c k := rfl
    rw [eA]
    have b1 : 0 ≤ mixA c k ∧ mixA c k < 100000 := by
      unfold mixA
      rw [Int.fmod_eq_emod_of_nonneg _ (by omega)]
      have := Int.emod_nonneg ((c + 7 * k) * 48271) (b := cellAt someL (k % 11)) (by omega)
      have := Int.emod_lt_of_pos ((c + 7 * k) * 48271) (b := cellAt someL (k % 11)) (by omega)
      omega
    walk_at "gof"
    refine g_rI (by exact .inl ⟨by omega, by omega⟩) ?_
    walk_at "gof"
    refine g_rI (by exact .inr ⟨by decide, by decide⟩) ?_
    walk_at "gof"
    refine g_rI (by decide) ?_
    walk_at "gof"
    refine g_rI (by omega) ?_
    exact kq _ (Same.new hl)

def spNumbers : Sp := fun vs H Q _ => ∃ (p q : Addr) (ns : List Int), vs = [.ref p, .ref q] ∧ H p = some (.lst (ns.map V.int)) ∧ H q = some (.lst (ns.map V.int)) ∧ ns.length ≤ 1000 ∧ Q (.bl true) H
theorem ok_law_numbers (T : Txt a K mg) : FnOk P w K mg base (CN P w) 2 a.f_law_numbers a.fd_law_numbers ["_law_found", "_law_due"] spNumbers := by
  refine okN T.F_law_numbers sc_law_numbers (fun vs H Q E h => ?_) (fun cdv A outer s H vs Q E hr h => ?_)
  · obtain ⟨p, q, ns, rfl, _⟩ := h; rfl
  · obtain ⟨p, q, ns, rfl, hp, hq, hn, kq⟩ := h
    have hr1 : Room 1 _ := hr.mono (by decide);
    refine ⟨_, (pss_cons (ps_if (PW.pt (pw_or (pt_not (pt_val (pe_callB call_isi (by rfl) T.no_isinstance (by decide +kernel) (pa_cons (pv 0) (pa_cons (pe_bltn (v := .ty "list") (by rfl) T.no_list (by decide +kernel) rfl) pa_nil))))) (pw_or1 (pt_cmpR op_ne (pe_callB call_lenS (by rfl) T.no_len (by decide +kernel) (pa_cons (pv 0) pa_nil)) (pe_callB call_lenS (by rfl) T.no_len (by decide +kernel) (pa_cons (pv 1) pa_nil)) (nomark _))))) (pss_one (ps_ret pe_bl)) pss_nil)
      (pss_cons (ps_for PassesOwn.leaving rfl (pi_range1 (by rfl) T.no_range (pa_cons (pe_callB call_lenS (by rfl) T.no_len (by decide +kernel) (pa_cons (pv 1) pa_nil)) pa_nil)) (pg_name (i := 2) sc_law_numbers.nd rfl (Or.inl rfl))
      (pss_one (ps_if (PW.pt (pw_or (pt_not (pt_val (pe_call (ok_law_whole T) hr1 rfl T.mg_law_whole T.F_law_whole.kp T.b_law_whole .nil pass0N (pa_cons (pe_ix ix_list (pv 0) (pv 2) (fun _ _ => rfl)) pa_nil)))) (pw_or1 (pt_cmpR op_ne (pe_ix ix_list (pv 0) (pv 2) (fun _ _ => rfl)) (pe_ix ix_list (pv 1) (pv 2) (fun _ _ => rfl)) (nomark _))))) (pss_one (ps_ret pe_bl)) pss_nil)))
      (pss_one (ps_ret pe_bl)))), ?_⟩
    try dsimp only [cxOf]
    walk_at "gof"
    refine g_isiI (TyOf.lst hp) (kit_ty (r := true) (by decide +kernel)) ?_
    walk_at "gof"
    refine g_lenL (SqL.of hp) ?_
    walk_at "gof"
    refine g_lenL (SqL.of hq) ?_
    walk_at "gof"
    refine g_iteN (fun c => (c rfl).elim) (fun _ => ?_)
    walk_at "gof"
    refine g_lenL (SqL.of hq) ?_
    refine ⟨_, rfl, by omega, by rw [List.length_map]; omega, for_range (lo := 0) (n := ((ns.map V.int).length : Int).toNat) (fun i σ H1 => ∃ v : Option V, σ = [some (.ref p), some (.ref q), v] ∧ H1 = H) ⟨none, rfl, rfl⟩ ?_ ?_⟩
    · rintro i σ H1 hi ⟨v, rfl, rfl⟩
      rw [Int.toNat_natCast, List.length_map] at hi
      have e1 : (ns.map V.int)[i]? = some (.int ns[i]) := by rw [List.getElem?_map, List.getElem?_eq_getElem hi]; rfl
      walk_at "gof"
      refine g_ixL (SqL.of hp) (at_of (j := i) (by omega) e1) ?_
      refine ⟨_, rfl, ?_⟩
      walk_at "gof"
      refine g_ixL (SqL.of hp) (at_of (j := i) (by omega) e1) ?_
      walk_at "gof"
      refine g_ixL (SqL.of hq) (at_of (j := i) (by omega) e1) ?_
      walk_at "gof"
      refine g_iteN (fun c => (c rfl).elim) (fun _ => ?_)
      walk_at "gof"
      exact ⟨_, rfl, rfl⟩
    · rintro σ H1 ⟨v, rfl, rfl⟩
      walk_at "gof"
      exact kq
end
section
variable {P : Program} {w : World} {K : PySem.W.Frag} {mg : Str → Option Value} {base : Heap} {a : Ad}
/-! ### a deed told to the chest -/
def spToldD (a : Ad) : Sp := fun vs H Q E => ∃ (p t : Addr) (S : Ch) (O : List Addr) (d : LD), vs = [.ref p, .ref t] ∧ ChestAt a.Chest a.Box H p S O ∧ LDAt H t d ∧
  ((S.step d).1 ≠ "" → ∀ D, ErrW a D (S.step d).1 → ∀ H', Same H H' → E (.ref D) none H') ∧
  ((S.step d).1 = "" → ∀ H' O', Fr O H H' → Gr O O' H → ChestAt a.Chest a.Box H' p (S.step d).2.2 O' → Q (retV (S.step d).2.1) H')
theorem ok_law_told (T : Txt a K mg) : FnOk P w K mg base (CN P w) 4 a.f_law_told a.fd_law_told ["_law_chest", "_law_deed"] (spToldD a) := by
  refine okN T.F_law_told sc_law_told (fun vs H Q E h => ?_) (fun cdv A outer s H vs Q E hr h => ?_)
  · obtain ⟨p, t, S, O, d, rfl, _⟩ := h; rfl
  · obtain ⟨p, t, S, O, d, rfl, hS, hd, kE, kQ⟩ := h
    obtain ⟨C, hC, hCS, rfl⟩ := hS
    have h1 := hC.ob
    have hr1 : Room 1 _ := hr.mono (by decide); have hr2 : Room 2 _ := hr.mono (by decide); have hr3 : Room 3 _ := hr.mono (by decide);
    refine ⟨_, (pss_cons (ps_if (pt_cmpR op_eq (pe_ix ix_tup (pv 1) pe_int (fun _ _ => rfl)) pe_str (nomark _)) (pss_one (ps_ret (pe_meth (pv 0) T.cl_Chest T.m_Chest_make (ok_Chest_make T) hr3 T.b_Chest_make .nil (L2N.passes_call (W := fun cls d _ H => E cls d H) (L2N.takes_of rfl rfl rfl rfl) (fun _ _ _ _ h => h)) (pa_cons (pe_ix ix_tup (pv 1) pe_int (fun _ _ => rfl)) pa_nil)))) pss_nil)
      (pss_cons (ps_if (pt_cmpR op_eq (pe_ix ix_tup (pv 1) pe_int (fun _ _ => rfl)) pe_str (nomark _)) (pss_one (ps_ret (pe_meth (pv 0) T.cl_Chest T.m_Chest_put (ok_Chest_put T) hr3 T.b_Chest_put .nil (L2N.passes_call (W := fun cls d _ H => E cls d H) (L2N.takes_of rfl rfl rfl rfl) (fun _ _ _ _ h => h)) (pa_cons (pe_ix ix_tup (pv 1) pe_int (fun _ _ => rfl)) (pa_cons (pe_ix ix_tup (pv 1) pe_int (fun _ _ => rfl)) (pa_cons (pe_ix ix_tup (pv 1) pe_int (fun _ _ => rfl)) (pa_cons (pe_ix ix_tup (pv 1) pe_int (fun _ _ => rfl)) pa_nil))))))) pss_nil)
      (pss_cons (ps_if (pt_cmpR op_eq (pe_ix ix_tup (pv 1) pe_int (fun _ _ => rfl)) pe_str (nomark _)) (pss_one (ps_ret (pe_meth (pv 0) T.cl_Chest T.m_Chest_empty (ok_Chest_empty T) hr3 T.b_Chest_empty .nil (L2N.passes_call (W := fun cls d _ H => E cls d H) (L2N.takes_of rfl rfl rfl rfl) (fun _ _ _ _ h => h)) (pa_cons (pe_ix ix_tup (pv 1) pe_int (fun _ _ => rfl)) (pa_cons (pe_ix ix_tup (pv 1) pe_int (fun _ _ => rfl)) pa_nil))))) pss_nil)
      (pss_cons (ps_if (pt_cmpR op_eq (pe_ix ix_tup (pv 1) pe_int (fun _ _ => rfl)) pe_str (nomark _)) (pss_one (ps_ret (pe_meth (pv 0) T.cl_Chest T.m_Chest_take (ok_Chest_take T) hr2 T.b_Chest_take .nil (L2N.passes_call (W := fun cls d _ H => E cls d H) (L2N.takes_of rfl rfl rfl rfl) (fun _ _ _ _ h => h)) (pa_cons (pe_ix ix_tup (pv 1) pe_int (fun _ _ => rfl)) pa_nil)))) pss_nil)
      (pss_cons (ps_if (pt_cmpR op_eq (pe_ix ix_tup (pv 1) pe_int (fun _ _ => rfl)) pe_str (nomark _)) (pss_one (ps_ret (pe_meth (pv 0) T.cl_Chest T.m_Chest_drop (ok_Chest_drop T) hr2 T.b_Chest_drop .nil (L2N.passes_call (W := fun cls d _ H => E cls d H) (L2N.takes_of rfl rfl rfl rfl) (fun _ _ _ _ h => h)) (pa_cons (pe_ix ix_tup (pv 1) pe_int (fun _ _ => rfl)) pa_nil)))) pss_nil)
      (pss_cons (ps_if (pt_cmpR op_eq (pe_ix ix_tup (pv 1) pe_int (fun _ _ => rfl)) pe_str (nomark _)) (pss_one (ps_ret (pe_meth (pv 0) T.cl_Chest T.m_Chest_pair (ok_Chest_pair T) hr2 T.b_Chest_pair .nil (L2N.passes_call (W := fun cls d _ H => E cls d H) (L2N.takes_of rfl rfl rfl rfl) (fun _ _ _ _ h => h)) (pa_cons (pe_ix ix_tup (pv 1) pe_int (fun _ _ => rfl)) (pa_cons (pe_ix ix_tup (pv 1) pe_int (fun _ _ => rfl)) (pa_cons (pe_ix ix_tup (pv 1) pe_int (fun _ _ => rfl)) pa_nil)))))) pss_nil)
      (pss_cons (ps_if (pt_cmpR op_eq (pe_ix ix_tup (pv 1) pe_int (fun _ _ => rfl)) pe_str (nomark _)) (pss_one (ps_ret (pe_meth (pv 0) T.cl_Chest T.m_Chest_unpair (ok_Chest_unpair T) hr1 T.b_Chest_unpair .nil (L2N.passes_call (W := fun cls d _ H => E cls d H) (L2N.takes_of rfl rfl rfl rfl) (fun _ _ _ _ h => h)) (pa_cons (pe_ix ix_tup (pv 1) pe_int (fun _ _ => rfl)) pa_nil)))) pss_nil)
      (pss_one (ps_ret (pe_meth (pv 0) T.cl_Chest T.m_Chest_bequeath (ok_Chest_bequeath T) hr2 T.b_Chest_bequeath .nil (L2N.passes_call (W := fun cls d _ H => E cls d H) (L2N.takes_of rfl rfl rfl rfl) (fun _ _ _ _ h => h)) (pa_cons (pe_ix ix_tup (pv 1) pe_int (fun _ _ => rfl)) (pa_cons (pe_callTy call_listS (by rfl) T.no_list (by decide +kernel) (pa_cons (pe_ix ix_tup (pv 1) pe_int (fun _ _ => rfl)) pa_nil)) pa_nil)))))))))))), ?_⟩
    try dsimp only [cxOf]
    have err : ∀ {wd : Str} {D : Addr} {H' : Hp}, (S.step d).1 = wd → wd ≠ "" → ErrW a D wd → Same H H' → E (.ref D) none H' := fun e n hw sm => kE (by rw [e]; exact n) _ (by rw [e]; exact hw) _ sm
    cases d with
    | make n =>
      have hd : H t = some (.tup [.str "make", .int n]) := hd
      walk_at "gos"
      walk_at "m1"
      walk_at "gos"
      refine ⟨p, n, C, rfl, hC, fun c => ?_, fun c0 c9 cl => ?_, fun c0 c9 cl H' b e1 e2 e3 e4 e5 e6 => ?_⟩
      · exact err (wd := "slot") (by rw [st_make, if_pos c]) (by decide +kernel) (by walk_at "errw") (Same.refl _)
      · exact err (wd := "many") (by rw [st_make, if_neg (by omega), if_pos (by rw [← hCS.blen]; exact cl)]) (by decide +kernel) (by walk_at "errw") (Same.refl _)
      · have es : S.step (.make n) = (("" : Str), some S.nb, S.made n) := by
          rw [st_make, if_neg (by omega), if_neg (by rw [← hCS.blen]; omega)]
        rw [es] at kQ
        have fr : Fr (own p C) H H' := e5.sub fun x hx => by
          simp only [List.mem_cons, List.not_mem_nil, or_false] at hx
          rcases hx with rfl | rfl
          · exact own_mem.mpr (.inl rfl)
          · exact own_mem.mpr (.inr (.inl rfl))
        rw [hCS.nb] at e6 ⊢
        refine kQ rfl H' _ fr ?_ ⟨_, e6, ?_, rfl⟩
        · intro x hx
          have hx : x ∈ own p C ++ ownB b := by
            show x ∈ p :: C.d1 :: C.d2 :: (ownBs C.B ++ ownB b)
            rw [← ownBs_snoc (n := S.nb)]; exact hx
          rcases List.mem_append.mp hx with hx | hx
          · exact .inl hx
          · exact .inr (e4 x hx)
        · have := hCS.made (hC.tups fr) (n := n) e1 e2 e3
          rw [hCS.nb] at this
          exact this
    | put b s o g =>
      have hd : H t = some (.tup [.str "put", .int b, .int s, .int o, .bl g]) := hd
      walk_at "gos"
      walk_at "m1"
      walk_at "gos"
      refine ⟨p, b, s, o, g, C, rfl, hC, fun e => ?_, fun x e => ?_⟩
      · exact err (wd := "box") (congrArg Prod.fst (st_put0 (hCS.nn.mp e))) (by decide +kernel) (by walk_at "errw") (Same.refl _)
      · obtain ⟨y, ey, by1, by2, by3⟩ := hCS.ss e
        have el : x.vs.length = y.sl.length := by1.length
        refine ⟨fun c => ?_, fun c0 c1 => ⟨fun eo => ?_, ?_⟩⟩
        · exact err (wd := "slot") (congrArg Prod.fst (st_put1 ey (by rw [← el]; exact c))) (by decide +kernel) (by walk_at "errw") (Same.refl _)
        · exact err (wd := "box") (congrArg Prod.fst (st_put2 ey (by rw [← el]; omega) (hCS.nn.mp eo))) (by decide +kernel) (by walk_at "errw") (Same.refl _)
        · rintro ⟨z, ez⟩ u H' hu fr hut hC'
          have eo := own_setB (b' := { x with vs := x.vs.set s.toNat (.ref u) }) hC e rfl rfl rfl
          obtain ⟨y2, ey2, _⟩ := hCS.ss ez
          rw [st_put3 ey (by rw [← el]; omega) ey2] at kQ
          have fr' : Fr (own p C) H H' := fr.sub fun w hw => by
            rw [List.mem_singleton.mp hw]
            exact own_mem.mpr (.inr (.inr (.inr (ownBs_mem.mpr ⟨_, lk_mem e, .inr (.inl rfl)⟩))))
          have tp := hC.tups fr'
          refine kQ rfl H' _ fr' (Gr.same eo) ⟨_, hC', CS.bset tp hCS ⟨slots_set (L2.Paired.mapP by1 fun _ _ h => h.keep tp) (.tup hut) _, by2, L2.Paired.mapP by3 fun _ _ h => h.keep tp⟩, rfl⟩
    | empty b s =>
      have hd : H t = some (.tup [.str "empty", .int b, .int s]) := hd
      walk_at "gos"
      walk_at "m1"
      walk_at "gos"
      refine ⟨p, b, s, C, rfl, hC, fun e => ?_, fun x e => ?_⟩
      · exact err (wd := "box") (congrArg Prod.fst (st_empty0 (hCS.nn.mp e))) (by decide +kernel) (by walk_at "errw") (Same.refl _)
      · obtain ⟨y, ey, by1, by2, by3⟩ := hCS.ss e
        have el : x.vs.length = y.sl.length := by1.length
        refine ⟨fun c => ?_, fun c0 c1 H' fr hC' => ?_⟩
        · exact err (wd := "slot") (congrArg Prod.fst (st_empty1 ey (by rw [← el]; exact c))) (by decide +kernel) (by walk_at "errw") (Same.refl _)
        · rw [st_empty2 ey (by rw [← el]; omega)] at kQ
          have eo := own_setB (b' := { x with vs := x.vs.set s.toNat .non }) hC e rfl rfl rfl
          have fr' : Fr (own p C) H H' := fr.sub fun w hw => by
            rw [List.mem_singleton.mp hw]
            exact own_mem.mpr (.inr (.inr (.inr (ownBs_mem.mpr ⟨_, lk_mem e, .inr (.inl rfl)⟩))))
          have tp := hC.tups fr'
          refine kQ rfl H' _ fr' (Gr.same eo) ⟨_, hC', CS.bset tp hCS ⟨slots_set (L2.Paired.mapP by1 fun _ _ h => h.keep tp) .non _, by2, L2.Paired.mapP by3 fun _ _ h => h.keep tp⟩, rfl⟩
    | take b =>
      have hd : H t = some (.tup [.str "take", .int b]) := hd
      walk_at "gos"
      walk_at "m1"
      walk_at "gos"
      refine ⟨p, b, C, rfl, hC, fun e => ?_, fun x e H' fr hC' => ?_⟩
      · exact err (wd := "box") (congrArg Prod.fst (st_take0 (hCS.nn.mp e))) (by decide +kernel) (by walk_at "errw") (Same.refl _)
      · obtain ⟨y, ey, by1, by2, by3⟩ := hCS.ss e
        rw [st_take1 ey] at kQ
        have eo := own_setB (b' := { x with hand := true }) hC e rfl rfl rfl
        have fr' : Fr (own p C) H H' := fr.sub fun w hw => by
          rw [List.mem_singleton.mp hw]
          exact own_mem.mpr (.inr (.inr (.inr (ownBs_mem.mpr ⟨_, lk_mem e, .inl rfl⟩))))
        have tp := hC.tups fr'
        exact kQ rfl H' _ fr' (Gr.same eo) ⟨_, hC', CS.bset tp hCS ⟨L2.Paired.mapP by1 fun _ _ h => h.keep tp, rfl, L2.Paired.mapP by3 fun _ _ h => h.keep tp⟩, rfl⟩
    | drop b =>
      have hd : H t = some (.tup [.str "drop", .int b]) := hd
      walk_at "gos"
      walk_at "m1"
      walk_at "gos"
      refine ⟨p, b, C, rfl, hC, fun e => ?_, fun x e => ?_⟩
      · exact err (wd := "box") (congrArg Prod.fst (st_drop0 (hCS.nn.mp e))) (by decide +kernel) (by walk_at "errw") (Same.refl _)
      · obtain ⟨y, ey, by1, by2, by3⟩ := hCS.ss e
        refine ⟨fun c => ?_, fun c H' fr hC' => ?_⟩
        · exact err (wd := "hand") (congrArg Prod.fst (st_drop1 ey (by rw [← by2]; exact c))) (by decide +kernel) (by walk_at "errw") (Same.refl _)
        · rw [st_drop2 ey (by rw [← by2, c]; decide)] at kQ
          have eo := own_setB (b' := { x with hand := false }) hC e rfl rfl rfl
          have fr' : Fr (own p C) H H' := fr.sub fun w hw => by
            rw [List.mem_singleton.mp hw]
            exact own_mem.mpr (.inr (.inr (.inr (ownBs_mem.mpr ⟨_, lk_mem e, .inl rfl⟩))))
          have tp := hC.tups fr'
          exact kQ rfl H' _ fr' (Gr.same eo) ⟨_, hC', CS.bset tp hCS ⟨L2.Paired.mapP by1 fun _ _ h => h.keep tp, rfl, L2.Paired.mapP by3 fun _ _ h => h.keep tp⟩, rfl⟩
    | pair h k o =>
      have hd : H t = some (.tup [.str "pair", .int h, .int k, .int o]) := hd
      walk_at "gos"
      walk_at "m1"
      walk_at "gos"
      refine ⟨p, h, k, o, C, rfl, hC, fun e H' sm => ?_, fun e1 e2 e3 => ⟨fun cl H' sm => ?_, fun cl u H' hu fr hut hC' => ?_⟩⟩
      · refine err (wd := "box") ?_ (by decide +kernel) (by walk_at "errw") sm
        rw [st_pair, if_pos (by rw [← hCS.nn, ← hCS.nn, ← hCS.nn]; exact e)]
      · refine err (wd := "many") ?_ (by decide +kernel) (by walk_at "errw") sm
        rw [st_pair, if_neg (by rw [← hCS.nn, ← hCS.nn, ← hCS.nn]; exact fun z => z.elim e1 fun z => z.elim e2 e3), if_pos (by rw [← hCS.plen]; exact cl)]
      · have es : S.step (.pair h k o) = (("" : Str), some S.np, S.tied h k o) := by
          rw [st_pair, if_neg (by rw [← hCS.nn, ← hCS.nn, ← hCS.nn]; exact fun z => z.elim e1 fun z => z.elim e2 e3), if_neg (by rw [← hCS.plen]; omega)]
        rw [es] at kQ
        have fr' : Fr (own p C) H H' := fr.sub fun w hw => by
          simp only [List.mem_cons, List.not_mem_nil, or_false] at hw
          rcases hw with rfl | rfl
          · exact own_mem.mpr (.inl rfl)
          · exact own_mem.mpr (.inr (.inr (.inl rfl)))
        rw [hCS.np]
        exact kQ rfl H' _ fr' (Gr.same rfl) ⟨_, hC', hCS.tied (hC.tups fr') hut, rfl⟩
    | unpair n =>
      have hd : H t = some (.tup [.str "unpair", .int n]) := hd
      walk_at "gos"
      walk_at "m1"
      walk_at "gos"
      refine ⟨p, n, C, rfl, hC, fun e => ?_, fun u e H' fr hC' => ?_⟩
      · exact err (wd := "pair") (congrArg Prod.fst (st_unpair0 (hCS.pnone.mp e))) (by decide +kernel) (by walk_at "errw") (Same.refl _)
      · obtain ⟨y, ey, _⟩ := (paired_lk hCS.ps).2 u e
        rw [st_unpair1 ey] at kQ
        have fr' : Fr (own p C) H H' := fr.sub fun w hw => by
          rw [List.mem_singleton.mp hw]
          exact own_mem.mpr (.inr (.inr (.inl rfl)))
        exact kQ rfl H' _ fr' (Gr.same rfl) ⟨_, hC', hCS.loose (hC.tups fr'), rfl⟩
    | will b ds =>
      obtain ⟨l, us, hd, hl, hus, hp⟩ := hd
      walk_at "gos"
      walk_at "m1"
      walk_at "gos"
      refine g_listL (SqL.of hl) fun l2 hl2 => ?_
      walk_at "gos"
      have sm0 : Same H (upd H l2 (.lst us)) := Same.new hl2
      have tp0 : Tups H (upd H l2 (.lst us)) := fun x xs e => sm0 _ _ e
      refine ⟨p, l2, b, C, us, ds, rfl, hC.same sm0, upd_same, hus, L2.Paired.mapP hp fun _ _ h => h.keep tp0, fun e H' sm => ?_, fun x e => ⟨fun c H' sm => ?_, fun c1 c2 w' H' hw' fr hC' => ?_⟩⟩
      · exact err (wd := "box") (congrArg Prod.fst (st_will0 (hCS.nn.mp e))) (by decide +kernel) (by walk_at "errw") (sm0.trans sm)
      · obtain ⟨y, ey, _⟩ := hCS.ss e
        exact err (wd := "will") (congrArg Prod.fst (st_will1 ey c)) (by decide +kernel) (by walk_at "errw") (sm0.trans sm)
      · obtain ⟨y, ey, by1, by2, by3⟩ := hCS.ss e
        rw [st_will2 ey (fun z => z.elim (fun h => by omega) (fun h => by rw [c2] at h; cases h))] at kQ
        have fr' : Fr (own p C) H H' := (Fr.same sm0).trans (fr.sub fun w hw => by
          rw [List.mem_singleton.mp hw]
          exact own_mem.mpr (.inr (.inr (.inr (ownBs_mem.mpr ⟨_, lk_mem e, .inl rfl⟩)))))
        have tp := hC.tups fr'
        refine kQ rfl H' _ fr' ?_ ⟨_, hC', CS.bset tp hCS ⟨L2.Paired.mapP by1 fun _ _ h => h.keep tp, by2, L2.Paired.mapP hp fun _ _ h => h.keep tp⟩, rfl⟩
        intro w hw
        rcases own_setW hC e hw with hw | rfl
        · exact .inl hw
        · exact .inr (sm0.free hw')
end
section
variable {P : Program} {w : World} {K : PySem.W.Frag} {mg : Str → Option Value} {base : Heap} {a : Ad}
/-! ### what is told of all slots -/
def TellV (H : Hp) (v : V) (e : Int × Int × Int × Bool) : Prop := ∃ t, v = .ref t ∧ H t = some (.tup [.int e.1, .int e.2.1, .int e.2.2.1, .bl e.2.2.2])
theorem TellV.keep {H H' : Hp} (f : Tups H H') {v : V} {e : Int × Int × Int × Bool} (h : TellV H v e) : TellV H' v e := by
  obtain ⟨t, x, y⟩ := h
  exact ⟨t, x, f _ _ y⟩
theorem take_map {α β : Type} (f : α → β) (l : List α) (i : Nat) : (l.take i).map f = (l.map f).take i := by rw [List.map_take]
def spTellings (a : Ad) : Sp := fun vs H Q _ => ∃ (p : Addr) (S : Ch) (O : List Addr), vs = [.ref p] ∧ ChestAt a.Chest a.Box H p S O ∧ ∀ q H' us, H q = none → Same H H' → H' q = some (.lst us) → Paired (TellV H') us S.tells → us.length ≤ 1000 → Q (.ref q) H'
theorem ok_Chest_tellings (T : Txt a K mg) : FnOk P w K mg base (CN P w) 2 a.f_Chest_tellings a.fd_Chest_tellings ["self"] (spTellings a) := by
  refine okN T.F_Chest_tellings sc_Chest_tellings (fun vs H Q E h => ?_) (fun cdv A outer s H vs Q E hr h => ?_)
  · obtain ⟨p, S, O, rfl, _⟩ := h; rfl
  · obtain ⟨p, S, O, rfl, ⟨C, hC, hCS, rfl⟩, k⟩ := h
    have hu := hu_of hr
    have h1 := hC.ob
    have h2 := hC.d1
    have hr1 : Room 1 _ := hr.mono (by decide);
    refine ⟨_, (pss_one (ps_ret (pe_lc2 (own := [("box", 1), ("slot", 2), ("told", 3)]) (g := gName 1) (tt := tYes) (wi1 := (iEnum K (tCons (tFld K (tDGet (tFld K (tVar 0) "kept_boxes") (tVar 1)) "slots") tNil))) (g1 := gTup K 2 (gCons (gName 2) (gCons (gName 3) gNil))) (tt1 := (tTest (tOp rNotN (tVar 3) (tC .non)))) (vs1 := [2, 3]) (te := (tTup (tCons (tVar 1) (tCons (tVar 2) (StX.tStar K (tVar 3) tNil))))) (by rfl) sc_Chest_tellings.nd (pi_list (pe_meth0 (pv 0) T.cl_Chest T.m_Chest_boxes (ok_Chest_boxes T) hr1 T.b_Chest_boxes .nil pass0N)) (blkOk_by (own := [("box", 1), ("slot", 2), ("told", 3)]) (N := N_Chest_tellings) (sc := defScope s_Chest_tellings) (by decide +kernel)) (by decide) (fun _ _ _ _ _ => (pg_name (i := 1) sc_Chest_tellings.nd rfl (Or.inl rfl))) (fun _ _ _ _ _ => pts_nil) (fun _ _ _ _ _ => (pi_enum (by rfl) T.no_enumerate (pa_cons (pe_fld (pe_dget hu (pe_fld (pv 0) rfl) (pv 1) (fun _ _ => rfl)) rfl) pa_nil))) (fun _ _ _ _ _ => (pg_tup (by rfl) (pgs_cons (pg_name (i := 2) sc_Chest_tellings.nd rfl (Or.inl rfl)) (pgs_cons (pg_name (i := 3) sc_Chest_tellings.nd rfl (Or.inl rfl)) pgs_nil)))) (fun _ _ _ _ _ => pts_one (pt_cmpR op_notN' (pv 3) pe_non (nomark _))) (fun _ _ _ _ _ => (pe_tup (pa_cons (pv 1) (pa_cons (pv 2) (StX.pa_star (pv 3) pa_nil)))))))), ?_⟩
    try dsimp only [cxOf]
    walk_at "gof"
    walk_at "m1"
    walk_at "gof"
    refine ⟨p, C, rfl, hC, fun bl hbl => ?_⟩
    have n1 := Same.new (o := HO.lst ((C.B.map (·.1)).map V.int)) hbl
    refine ⟨bl, rfl, ⟨_, SqL.of upd_same⟩, fun D hD => lc2_list (K := K) (a := bl) (xs := (C.B.map (·.1)).map V.int)
      (fun i H1 => Same H H1 ∧ H1 bl = some (.lst ((C.B.map (·.1)).map V.int)) ∧ ∃ us, H1 D = some (.lst us) ∧ Paired (TellV H1) us ((S.bs.take i).flatMap fun e => tellB e.1 e.2.sl e.2.sl.length) ∧ us.length ≤ 9 * i) ?_ (fun i H1 _ h => SqL.of h.2.1) ?_ ?_⟩
    · exact ⟨n1.trans (Same.new hD), (Same.new hD) _ _ upd_same, [], upd_same, .nil, Nat.le_refl _⟩
    · rintro i x H1 hx ⟨f1, f2, us, f3, f4, f5⟩
      rw [List.map_map, List.getElem?_map] at hx
      obtain ⟨⟨n, b⟩, hb, rfl⟩ := Option.map_eq_some_iff.mp hx
      obtain ⟨⟨n', y⟩, hps, hn, by1, by2, by3⟩ := paired_get hCS.bs hb
      have hn : n = n' := hn
      subst hn
      have hm := List.mem_of_getElem? hb
      have e := lk_of_mem hC.kB hm
      have hDn : H D = none := (none_upd hD).2
      have bx := hC.bx _ hm
      have bl9 : b.vs.length ≤ 9 := bx.sz.1
      have i60 : i < 60 := by
        have := (List.getElem?_eq_some_iff.mp hb).1
        have := hC.sB
        omega
      have h1' := f1 _ _ h1
      have h2' := f1 _ _ h2
      have hb1 := f1 _ _ bx.ob
      have hl1 := f1 _ _ bx.sl
      dsimp only at hb1 hl1
      walk_at "go"
      refine ⟨rfl, ?_⟩
      walk_at "gof"
      refine ⟨_, _, rfl, by rw [← kvB_some e]; exact DGet.k (k := Sum.inl n) h2', ?_⟩
      walk_at "gof"
      refine ⟨b.l, b.vs, rfl, SqL.of hl1, in_enum (K := K) (b := b.l) (ys := b.vs) (fun j H2 => Same H H2 ∧ H2 bl = some (.lst ((C.B.map (·.1)).map V.int)) ∧ ∃ us, H2 D = some (.lst us) ∧ Paired (TellV H2) us (((S.bs.take i).flatMap fun e => tellB e.1 e.2.sl e.2.sl.length) ++ tellB n y.sl j) ∧ us.length ≤ 9 * i + j) ?_ (fun j H2 _ h => SqL.of (h.1 _ _ bx.sl)) ?_ ?_⟩
      · refine ⟨f1, f2, us, f3, ?_, by omega⟩
        rw [show tellB n y.sl 0 = [] from rfl, List.append_nil]; exact f4
      · rintro j v T H2 hv ⟨g1, g2, us, g3, g4, g5⟩ hT
        obtain ⟨sl, es, hsv⟩ := paired_get by1 hv
        have hsv := hsv.keep (H' := H2) fun t xs e => g1 _ _ e
        have nT := Same.new (o := HO.tup [.int (j : Int), v]) hT
        have j9 : j < b.vs.length := (List.getElem?_eq_some_iff.mp hv).1
        refine g_gTup upd_same rfl ?_
        walk_at "go"
        refine ⟨rfl, ?_⟩
        walk_at "go"
        cases hsv with
        | non =>
          walk_at "go"
          refine ⟨g1.trans nT, nT _ _ g2, us, nT _ _ g3, ?_, by omega⟩
          rw [tellB_none es]
          exact L2.Paired.mapP g4 fun _ _ h => h.keep fun t xs e => nT _ _ e
        | @tup t o h et =>
          walk_at "go"
          refine ⟨t, [.int o, .bl h], rfl, .inl (SqT.of (nT _ _ et)), ?_⟩
          walk_at "go"
          refine ⟨by show 4 ≤ sizeLine; decide, fun u hu2 => ?_⟩
          have nu := Same.new (o := HO.tup [.int n, .int (j : Int), .int o, .bl h]) hu2
          have hDu : D ≠ u := ne_of_none (nT _ _ g3) hu2
          have hDT : D ≠ T := ne_of_none g3 hT
          have hbD : bl ≠ D := fun z => by rw [← z] at hD; rw [upd_same] at hD; cases hD
          have lu := g4.length
          refine ⟨us, nu _ _ (nT _ _ g3), small1000 (by omega), fun x o' ex => ?_, ?_, us ++ [.ref u], upd_same, ?_, by rw [List.length_append]; show us.length + 1 ≤ _; omega⟩
          · show upd _ D _ x = _
            rw [upd_ne (ne_of_none ex hDn)]; exact nu _ _ (nT _ _ (g1 _ _ ex))
          · show upd _ D _ bl = _
            rw [upd_ne hbD]; exact nu _ _ (nT _ _ g2)
          · rw [tellB_some es, ← List.append_assoc]
            refine Paired.snoc (L2.Paired.mapP g4 ?_) ⟨u, rfl, ?_⟩
            · intro v f h3
              exact h3.keep fun t' xs e => by rw [upd_ne (ne_of e g3 (by intro z; cases z))]; exact nu _ _ (nT _ _ e)
            · show upd _ D _ u = _
              rw [upd_ne hDu.symm]; exact upd_same
      · rintro H2 ⟨g1, g2, us, g3, g4, g5⟩
        refine ⟨g1, g2, us, g3, ?_, by omega⟩
        rw [take_snoc hps, List.flatMap_append, List.flatMap_singleton]
        rw [by1.length] at g4
        exact g4
    · rintro H1 ⟨f1, f2, us, f3, f4, f5⟩
      rw [List.length_map, List.length_map, hCS.blen, List.take_length] at f4
      rw [List.length_map, List.length_map] at f5
      exact k D H1 us (none_upd hD).2 f1 f3 f4 (by have := hC.sB; omega)
end
section
variable {P : Program} {w : World} {K : PySem.W.Frag} {mg : Str → Option Value} {base : Heap} {a : Ad}
/-! ### what is held; what is come to -/
def WhyV (H : Hp) (w : Addr) : Why → Prop
  | .hand => H w = some (.tup [.str "hand"])
  | .slot b s => H w = some (.tup [.str "slot", .int b, .int s])
  | .pair n => H w = some (.tup [.str "pair", .int n])
theorem WhyV.keep {H H' : Hp} (f : Tups H H') {w : Addr} {y : Why} (h : WhyV H w y) : WhyV H' w y := by
  cases y with
  | hand => exact f _ _ h
  | slot b s => exact f _ _ h
  | pair n => exact f _ _ h
def RowW (H : Hp) (v : V) (r : Int × Why) : Prop := ∃ t w, v = .ref t ∧ H t = some (.tup [.int r.1, .ref w]) ∧ WhyV H w r.2
theorem RowW.keep {H H' : Hp} (f : Tups H H') {v : V} {r : Int × Why} (h : RowW H v r) : RowW H' v r := by
  obtain ⟨t, w, e, e1, e2⟩ := h
  exact ⟨t, w, e, f _ _ e1, e2.keep f⟩
theorem tups_set {H : Hp} {D : Addr} {us vs : List V} (e : H D = some (.lst us)) : Tups H (upd H D (.lst vs)) := fun b xs z => by
  rw [upd_ne (fun c => by rw [c, e] at z; cases z)]; exact z
theorem rows_snoc {H1 H2 : Hp} {D t w : Addr} {us : List V} {R : List (Int × Why)} {b : Int} {y : Why} (pu : Paired (RowW H1) us R) (s : Same H1 H2) (e2 : H2 D = some (.lst us)) (et : H2 t = some (.tup [.int b, .ref w])) (ew : WhyV H2 w y) :
    Paired (RowW (upd H2 D (.lst (us ++ [.ref t])))) (us ++ [.ref t]) (R ++ [(b, y)]) := by
  have tp : Tups H2 (upd H2 D (.lst (us ++ [.ref t]))) := tups_set e2
  exact Paired.snoc (L2.Paired.mapP pu fun _ _ h => (h.keep fun t xs e => s _ _ e).keep tp) ⟨t, w, rfl, tp _ _ et, ew.keep tp⟩
theorem valV_keys {n : Int} : ∀ {kvs : List (Key × V)} {ks : List Int}, kvs.map (·.1) = ks.map Sum.inl → (valV kvs (Sum.inl n : Key)).isSome = decide (n ∈ ks)
  | [], [], _ => rfl
  | [], _ :: _, h => by cases h
  | _ :: _, [], h => by cases h
  | (k, v) :: kvs, m :: ks, h => by
    rw [List.map_cons, List.map_cons, List.cons.injEq] at h
    obtain ⟨h1, h2⟩ := h
    have h1 : k = Sum.inl m := h1
    subst h1
    by_cases e : n = m
    · subst e; rw [valV_pos rfl]; simp
    · rw [valV_neg (fun z => e (Sum.inl.inj z).symm), valV_keys h2]; simp [e]
def heldT (ks : List Int) (e : Int × Int × Int × Bool) : Option (Int × Why) := if e.2.2.2 = true ∧ e.1 ∈ ks then some (e.2.2.1, Why.slot e.1 e.2.1) else none
def heldP (ks : List Int) (e : Int × Int × Int × Int) : Option (Int × Why) := if e.2.1 ∈ ks ∧ e.2.2.1 ∈ ks then some (e.2.2.2, Why.pair e.1) else none
theorem held_eq (S : Ch) (ks : List Int) : S.held ks = S.tells.filterMap (heldT ks) ++ S.ps.filterMap (heldP ks) := rfl
theorem fm_snoc {α β : Type} {f : α → Option β} {l : List α} {i : Nat} {x : α} (h : l[i]? = some x) : (l.take (i + 1)).filterMap f = (l.take i).filterMap f ++ (f x).toList := by
  rw [take_snoc h, List.filterMap_append]
  cases e : f x with
  | none => simp [e]
  | some y => simp [e]
def spHeldBy (a : Ad) : Sp := fun vs H Q _ => ∃ (p r : Addr) (S : Ch) (O : List Addr) (kvs : List (Key × V)) (ks : List Int), vs = [.ref p, .ref r] ∧ ChestAt a.Chest a.Box H p S O ∧ H r = some (.dK kvs) ∧ kvs.map (·.1) = ks.map Sum.inl ∧
  ∀ q H' us, H q = none → Same H H' → H' q = some (.lst us) → Paired (RowW H') us (S.held ks) → us.length ≤ 2000 → Q (.ref q) H'
theorem ok_held_by (T : Txt a K mg) : FnOk P w K mg base (CN P w) 3 a.f_held_by a.fd_held_by ["chest", "reached"] (spHeldBy a) := by
  refine okN T.F_held_by sc_held_by (fun vs H Q E h => ?_) (fun cdv A outer s H vs Q E hr h => ?_)
  · obtain ⟨p, r, S, O, kvs, ks, rfl, _⟩ := h; rfl
  · obtain ⟨p, r, S, O, kvs, ks, rfl, hS, hr0, hks, k⟩ := h
    have hu := hu_of hr
    obtain ⟨C, hC, hCS, eO⟩ := id hS
    have h1 := hC.ob
    have zp : S.ps.length ≤ 60 := by rw [← hCS.ps.length]; exact hC.sR
    have hr1 : Room 1 _ := hr.mono (by decide); have hr2 : Room 2 _ := hr.mono (by decide);
    refine ⟨_, (pss_cons (ps_set (i := 2) sc_held_by.nd rfl (Or.inl rfl) (pe_lst pa_nil))
      (pss_cons (ps_for PassesOwn.leaving rfl (pi_list (pe_meth0 (pv 0) T.cl_Chest T.m_Chest_tellings (ok_Chest_tellings T) hr2 T.b_Chest_tellings .nil pass0N)) (pg_tup (by rfl) (pgs_cons (pg_name (i := 3) sc_held_by.nd rfl (Or.inl rfl)) (pgs_cons (pg_name (i := 4) sc_held_by.nd rfl (Or.inl rfl)) (pgs_cons (pg_name (i := 5) sc_held_by.nd rfl (Or.inl rfl)) (pgs_cons (pg_name (i := 6) sc_held_by.nd rfl (Or.inl rfl)) pgs_nil)))))
      (pss_one (ps_if (PW.pt (pw_and (pt_val (pv 6)) (pw_and1 (pt_cmp (pc_din hu (pv 3) (pv 1)))))) (pss_one (ps_expr (pe_bm PySem.F.plainAttrs_list PySem.F.slot_list_append PySem.F.type_list_append mt_append (pv 2) (pa_cons (pe_tup (pa_cons (pv 5) (pa_cons (pe_tup (pa_cons pe_str (pa_cons (pv 3) (pa_cons (pv 4) pa_nil)))) pa_nil))) pa_nil)))) pss_nil)))
      (pss_cons (ps_for PassesOwn.leaving rfl (pi_list (pe_meth0 (pv 0) T.cl_Chest T.m_Chest_pairs (ok_Chest_pairs T) hr1 T.b_Chest_pairs .nil pass0N)) (pg_tup (by rfl) (pgs_cons (pg_name (i := 7) sc_held_by.nd rfl (Or.inl rfl)) (pgs_cons (pg_name (i := 8) sc_held_by.nd rfl (Or.inl rfl)) (pgs_cons (pg_name (i := 9) sc_held_by.nd rfl (Or.inl rfl)) (pgs_cons (pg_name (i := 10) sc_held_by.nd rfl (Or.inl rfl)) pgs_nil)))))
      (pss_one (ps_if (PW.pt (pw_and (pt_cmp (pc_din hu (pv 8) (pv 1))) (pw_and1 (pt_cmp (pc_din hu (pv 9) (pv 1)))))) (pss_one (ps_expr (pe_bm PySem.F.plainAttrs_list PySem.F.slot_list_append PySem.F.type_list_append mt_append (pv 2) (pa_cons (pe_tup (pa_cons (pv 10) (pa_cons (pe_tup (pa_cons pe_str (pa_cons (pv 7) pa_nil))) pa_nil))) pa_nil)))) pss_nil)))
      (pss_one (ps_ret (pv 2)))))), ?_⟩
    try dsimp only [cxOf]
    walk_at "go"
    refine ⟨by decide, fun D hD => ?_⟩
    have nD := Same.new (o := HO.lst []) hD
    have hDk : ∀ {H' : Hp}, Same (upd H D (.lst [])) H' → Same H H' := fun s => nD.trans s
    walk_at "go"
    refine ⟨p, _, _, rfl, nD _ _ h1, fChest_no (by decide +kernel) (by decide +kernel) (by decide +kernel) (by decide +kernel), ?_⟩
    walk_at "go"
    refine ⟨p, S, O, rfl, hS.same nD, fun q1 H1 ts hq1 s1 e1 pt lt => ?_⟩
    have eD1 := s1 _ _ (upd_same (H := H) (a := D) (o := HO.lst []))
    have s01 := nD.trans s1
    have hDq : D ≠ q1 := fun z => by rw [← z, upd_same] at hq1; cases hq1
    refine ⟨q1, rfl, ⟨_, SqL.of e1⟩, for_list (K := K) (a := q1) (xs := ts) (fun i σ H2 => ∃ v3 v4 v5 v6 us, σ = [some (.ref p), some (.ref r), some (.ref D), v3, v4, v5, v6, none, none, none, none] ∧ Fr [D] H1 H2 ∧ H2 D = some (.lst us) ∧ Paired (RowW H2) us ((S.tells.take i).filterMap (heldT ks)) ∧ us.length ≤ i)
      ⟨_, _, _, _, [], rfl, Fr.refl _ _, eD1, .nil, Nat.le_refl _⟩ (fun i σ H2 _ h => by
        obtain ⟨_, _, _, _, _, _, f, _⟩ := h
        exact SqL.of (f _ _ e1 fun z => hDq (List.mem_singleton.mp z).symm)) ?_ ?_⟩
    · rintro i x σ H2 hx ⟨v3, v4, v5, v6, us, rfl, f2, e2, pu, lu⟩
      obtain ⟨⟨b, s, o, g⟩, hts, t, rfl, et⟩ := paired_get pt hx
      have i1000 : i < ts.length := (List.getElem?_eq_some_iff.mp hx).1
      have et2 := f2.tups (fun b m => by rw [List.mem_singleton.mp m]; exact ⟨_, eD1, fun _ z => nomatch z⟩) _ _ et
      have hr2 := f2 _ _ (s01 _ _ hr0) fun z => by
        have := List.mem_singleton.mp z
        rw [← this, hr0] at hD; cases hD
      rw [fm_snoc hts]
      refine g_gTup et2 rfl ?_
      walk_at "go"
      cases g with
      | false =>
        walk_at "go"
        rw [show heldT ks (b, s, o, false) = none from if_neg (fun z => by simp at z)]
        refine ⟨_, _, _, _, us, rfl, f2, e2, by simpa using pu, by omega⟩
      | true =>
        walk_at "go"
        refine ⟨_, _, rfl, DGet.k (k := Sum.inl b) hr2, ?_⟩
        rw [valV_keys hks]
        walk_at "go"
        refine g_ite (fun c => ?_) (fun c => ?_)
        · rw [show heldT ks (b, s, o, true) = some (o, Why.slot b s) from if_pos ⟨rfl, c⟩]
          walk_at "go"
          refine ⟨.inl ⟨rfl, _, SqL.of e2⟩, ?_⟩
          walk_at "go"
          refine ⟨by show 3 ≤ sizeLine; decide, fun tw htw => ?_⟩
          have n1 := Same.new (o := HO.tup [.str "slot", .int b, .int s]) htw
          walk_at "go"
          refine ⟨by show 2 ≤ sizeLine; decide, fun t2 ht2 => ?_⟩
          have n2 := Same.new (o := HO.tup [.int o, .ref tw]) ht2
          have e3 := n2 _ _ (n1 _ _ e2)
          walk_at "go"
          refine g_appendK e3 (by omega) ?_
          walk_at "go"
          refine ⟨_, _, _, _, us ++ [.ref t2], rfl, f2.trans ((Fr.same (n1.trans n2)).trans (Fr.upd (List.mem_singleton.mpr rfl))), upd_same, ?_, by rw [List.length_append]; show us.length + 1 ≤ _; omega⟩
          exact rows_snoc pu (n1.trans n2) e3 upd_same (n2 _ _ upd_same)
        · rw [show heldT ks (b, s, o, true) = none from if_neg (fun z => c z.2)]
          walk_at "go"
          refine ⟨_, _, _, _, us, rfl, f2, e2, by simpa using pu, by omega⟩
    · rintro σ H2 ⟨v3, v4, v5, v6, us, rfl, f2, e2, pu, lu⟩
      rw [pt.length, List.take_length] at pu
      have s02 : Same H H2 := fun b o e => f2 _ _ (s01 _ _ e) fun z => by rw [List.mem_singleton.mp z, hD] at e; cases e
      have h12 := s02 _ _ h1
      walk_at "go"
      refine ⟨p, _, _, rfl, h12, fChest_no (by decide +kernel) (by decide +kernel) (by decide +kernel) (by decide +kernel), ?_⟩
      walk_at "go"
      refine ⟨p, C, S.ps, rfl, hC.same s02, (hCS.keep fun t xs e => s02 _ _ e).ps, fun q3 H3 ws hq3 s3 e3 pw => ?_⟩
      have eD3 := s3 _ _ e2
      have hDq3 : D ≠ q3 := fun z => by rw [← z, e2] at hq3; cases hq3
      have pu3 := L2.Paired.mapP pu (G := RowW H3) fun _ _ h => h.keep fun t xs e => s3 _ _ e
      refine ⟨q3, rfl, ⟨_, SqL.of e3⟩, for_list (K := K) (a := q3) (xs := ws) (fun i σ H4 => ∃ v3 v4 v5 v6 v7 v8 v9 v10 us, σ = [some (.ref p), some (.ref r), some (.ref D), v3, v4, v5, v6, v7, v8, v9, v10] ∧ Fr [D] H3 H4 ∧ H4 D = some (.lst us) ∧ Paired (RowW H4) us (S.tells.filterMap (heldT ks) ++ (S.ps.take i).filterMap (heldP ks)) ∧ us.length ≤ 1000 + i)
        ⟨_, _, _, _, _, _, _, _, us, rfl, Fr.refl _ _, eD3, by simpa using pu3, by omega⟩ (fun i σ H2 _ h => by
          obtain ⟨_, _, _, _, _, _, _, _, _, _, f, _⟩ := h
          exact SqL.of (f _ _ e3 fun z => hDq3 (List.mem_singleton.mp z).symm)) ?_ ?_⟩
      · rintro i x σ H4 hx ⟨v3, v4, v5, v6, v7, v8, v9, v10, us, rfl, f4, e4, pu, lu⟩
        obtain ⟨⟨n, x1, x2, x3⟩, hts, t, rfl, et⟩ := paired_get pw hx
        have i60 : i < 60 := by
          have := (List.getElem?_eq_some_iff.mp hx).1
          have := pw.length
          omega
        have et4 := f4.tups (fun b m => by rw [List.mem_singleton.mp m]; exact ⟨_, eD3, fun _ z => nomatch z⟩) _ _ et
        have hr4 := f4 _ _ (s3 _ _ (s02 _ _ hr0)) fun z => by
          have := List.mem_singleton.mp z
          rw [← this, hr0] at hD; cases hD
        rw [fm_snoc hts, ← List.append_assoc]
        refine g_gTup et4 rfl ?_
        walk_at "go"
        refine ⟨_, _, rfl, DGet.k (k := Sum.inl x1) hr4, ?_⟩
        rw [valV_keys hks]
        walk_at "go"
        refine g_ite (fun c1 => ?_) (fun c1 => ?_)
        · walk_at "go"
          refine ⟨_, _, rfl, DGet.k (k := Sum.inl x2) hr4, ?_⟩
          rw [valV_keys hks]
          walk_at "go"
          refine g_ite (fun c2 => ?_) (fun c2 => ?_)
          · rw [show heldP ks (n, x1, x2, x3) = some (x3, Why.pair n) from if_pos ⟨c1, c2⟩]
            walk_at "go"
            refine ⟨.inl ⟨rfl, _, SqL.of e4⟩, ?_⟩
            walk_at "go"
            refine ⟨by show 2 ≤ sizeLine; decide, fun tw htw => ?_⟩
            have n1 := Same.new (o := HO.tup [.str "pair", .int n]) htw
            walk_at "go"
            refine ⟨by show 2 ≤ sizeLine; decide, fun t2 ht2 => ?_⟩
            have n2 := Same.new (o := HO.tup [.int x3, .ref tw]) ht2
            have e5 := n2 _ _ (n1 _ _ e4)
            walk_at "go"
            refine g_appendK e5 (by omega) ?_
            walk_at "go"
            refine ⟨_, _, _, _, _, _, _, _, us ++ [.ref t2], rfl, f4.trans ((Fr.same (n1.trans n2)).trans (Fr.upd (List.mem_singleton.mpr rfl))), upd_same, ?_, by rw [List.length_append]; show us.length + 1 ≤ _; omega⟩
            exact rows_snoc pu (n1.trans n2) e5 upd_same (n2 _ _ upd_same)
          · rw [show heldP ks (n, x1, x2, x3) = none from if_neg (fun z => c2 z.2)]
            walk_at "go"
            refine ⟨_, _, _, _, _, _, _, _, us, rfl, f4, e4, by simpa using pu, by omega⟩
        · rw [show heldP ks (n, x1, x2, x3) = none from if_neg (fun z => c1 z.1)]
          walk_at "go"
          refine ⟨_, _, _, _, _, _, _, _, us, rfl, f4, e4, by simpa using pu, by omega⟩
      · rintro σ H4 ⟨v3, v4, v5, v6, v7, v8, v9, v10, us, rfl, f4, e4, pu, lu⟩
        have lw := pw.length
        rw [lw, List.take_length] at pu
        walk_at "go"
        refine k D H4 us hD (fun b o e => f4 _ _ (s3 _ _ (s02 _ _ e)) fun z => by rw [List.mem_singleton.mp z, hD] at e; cases e) e4 pu (by omega)
end
section
variable {P : Program} {w : World} {K : PySem.W.Frag} {mg : Str → Option Value} {base : Heap} {a : Ad}
theorem hands_eq {H : Hp} : ∀ {B : List (Int × LBx)} {bs : List (Int × Bx)}, Paired (fun e f => e.1 = f.1 ∧ BxS H e.2 f.2) B bs → (B.filter fun e => e.2.hand).map (·.1) = (bs.filter fun e => e.2.hand).map (·.1)
  | _, _, .nil => rfl
  | (n, b) :: B, (m, y) :: bs, .cons h r => by
    obtain ⟨e, _, h2, _⟩ := h
    have e : n = m := e
    subst e
    have h2 : b.hand = y.hand := h2
    rw [List.filter_cons, List.filter_cons]
    cases hb : y.hand with
    | true =>
      rw [if_pos (by show b.hand = true; rw [h2, hb]), if_pos rfl, List.map_cons, List.map_cons, hands_eq r]
    | false =>
      rw [if_neg (by show ¬ b.hand = true; rw [h2, hb]; simp), if_neg (by simp), hands_eq r]
def DRow (H : Hp) (kv : Key × V) (r : Int × Why) : Prop := kv.1 = Sum.inl r.1 ∧ ∃ w, kv.2 = .ref w ∧ WhyV H w r.2
theorem DRow.keep {H H' : Hp} (f : Tups H H') {kv : Key × V} {r : Int × Why} (h : DRow H kv r) : DRow H' kv r := by
  obtain ⟨e, w, e1, e2⟩ := h
  exact ⟨e, w, e1, e2.keep f⟩
theorem drow_keys {H : Hp} : ∀ {kvs : List (Key × V)} {R : List (Int × Why)}, Paired (DRow H) kvs R → kvs.map (·.1) = (keys R).map Sum.inl
  | _, _, .nil => rfl
  | (k, v) :: kvs, r :: R, .cons h q => by
    have e : k = Sum.inl r.1 := h.1
    show k :: kvs.map (·.1) = Sum.inl r.1 :: (keys R).map Sum.inl
    rw [e, drow_keys q]
theorem fold_len : ∀ (F R : List (Int × Why)), R.length ≤ (F.foldl addR R).length
  | [], R => Nat.le_refl _
  | r :: F, R => by
    refine Nat.le_trans ?_ (fold_len F (addR R r))
    unfold addR
    split
    · exact Nat.le_refl _
    · rw [List.length_append]; omega
theorem fold_grow {F R : List (Int × Why)} {r : Int × Why} (h : r.1 ∉ keys R) : R.length < ((r :: F).foldl addR R).length := by
  refine Nat.lt_of_lt_of_le ?_ (fold_len F (addR R r))
  unfold addR
  rw [if_neg h, List.length_append]
  show R.length < R.length + 1
  omega
theorem fold_in : ∀ (F R : List (Int × Why)) (x : Int), x ∈ keys R → x ∈ keys (F.foldl addR R)
  | [], _, _, h => h
  | r :: F, R, x, h => fold_in F (addR R r) x (addR_sub h)
theorem fold_all : ∀ (F R : List (Int × Why)) (r : Int × Why), r ∈ F → r.1 ∈ keys (F.foldl addR R)
  | q :: F, R, r, h => by
    rcases List.mem_cons.mp h with rfl | h
    · exact fold_in F _ _ addR_in
    · exact fold_all F _ r h
theorem fold_snoc {F R : List (Int × Why)} {i : Nat} {r : Int × Why} (h : F[i]? = some r) : (F.take (i + 1)).foldl addR R = addR ((F.take i).foldl addR R) r := by
  rw [take_snoc h, List.foldl_append]; rfl
/-- what is to be added -/
structure Fresh (S : Ch) (R F : List (Int × Why)) : Prop where
  ok : ∀ r ∈ F, RightWhy S (keys R) r.1 r.2 ∧ r.1 ∉ keys R
  st : (F = S.handR ∧ R = []) ∨ ((∀ b y, (b, y) ∈ S.bs → y.hand = true → b ∈ keys R) ∧ F = S.next R)
theorem fresh_hand (S : Ch) : Fresh S [] S.handR := by
  refine ⟨fun r m0 => ?_, .inl ⟨rfl, rfl⟩⟩
  obtain ⟨⟨b, y⟩, m, rfl⟩ := List.mem_map.mp m0
  obtain ⟨m1, m2⟩ := List.mem_filter.mp m
  exact ⟨⟨y, m1, m2⟩, fun z => nomatch z⟩
theorem fresh_next {S : Ch} {R F : List (Int × Why)} (h : Fresh S R F) : Fresh S (F.foldl addR R) (S.next (F.foldl addR R)) := by
  refine ⟨fun r m => ?_, .inr ⟨fun b y m hy => ?_, rfl⟩⟩
  · obtain ⟨m1, m2⟩ := List.mem_filter.mp m
    exact ⟨held_right m1, by simpa using m2⟩
  · rcases h.st with ⟨rfl, rfl⟩ | ⟨h1, _⟩
    · exact fold_all _ _ (b, .hand) (List.mem_map.mpr ⟨(b, y), List.mem_filter.mpr ⟨m, hy⟩, rfl⟩)
    · exact fold_in _ _ _ (h1 b y m hy)
theorem fresh_end {S : Ch} {R : List (Int × Why)} (h : Fresh S R []) : Closed S (keys R) := by
  rcases h.st with ⟨h1, rfl⟩ | ⟨h1, h2⟩
  · refine ⟨fun b y m hy => ?_, fun b s o m _ => (nomatch m), fun n x k v _ m _ => (nomatch m)⟩
    have : (b, Why.hand) ∈ S.handR := List.mem_map.mpr ⟨(b, y), List.mem_filter.mpr ⟨m, hy⟩, rfl⟩
    rw [← h1] at this; exact nomatch this
  · exact next_closed h2.symm h1
theorem g_while {c : TT} {tb : TS} {D : Ends} {σ : L2.St} {H : Hp} (h : ∃ W : Nat → L2.St → Hp → Prop, (∃ m, W m σ H) ∧ ∀ m σ H, W m σ H → c σ H fun b H1 => if b = true then ∃ N : L2.St → Hp → Prop, (∀ σ' H', N σ' H' → ∃ m', m' < m ∧ W m' σ' H') ∧ tb { D with nx := N, ct := N, bk := D.nx } σ H1 else D.nx σ H1) : tWhile c tb D σ H := h
def spComeTo (a : Ad) : Sp := fun vs H Q _ => ∃ (p : Addr) (S : Ch) (O : List Addr), vs = [.ref p] ∧ ChestAt a.Chest a.Box H p S O ∧ Good S ∧
  ∀ q H' us R, H q = none → Same H H' → H' q = some (.lst us) → Paired (RowW H') us R → RightR S R → Closed S (keys R) → us.length ≤ 60 → Q (.ref q) H'
theorem ok_come_to (T : Txt a K mg) : FnOk P w K mg base (CN P w) 4 a.f_come_to a.fd_come_to ["chest"] (spComeTo a) := by
  refine okN T.F_come_to sc_come_to (fun vs H Q E h => ?_) (fun cdv A outer s H vs Q E hr h => ?_)
  · obtain ⟨p, S, O, rfl, _⟩ := h; rfl
  · obtain ⟨p, S, O, rfl, hS, G, k⟩ := h
    have hu := hu_of hr
    obtain ⟨C, hC, hCS, eO⟩ := id hS
    have h1 := hC.ob
    have hr2 : Room 2 _ := hr.mono (by decide); have hr3 : Room 3 _ := hr.mono (by decide);
    refine ⟨_, (pss_cons (ps_set (i := 1) sc_come_to.nd rfl (Or.inr rfl) pe_dnewK)
      (pss_cons (ps_setLc (i := 2) (own := [("box", 3)]) (g := gName 3) (tt := tYes) (te := (tTup (tCons (tVar 3) (tCons (tTup (tCons (tC (.str "hand")) tNil)) tNil)))) (by rfl) sc_come_to.nd rfl rfl (sw_true rfl rfl rfl (by decide +kernel)) (pi_list (pe_meth0 (pv 0) T.cl_Chest T.m_Chest_hands (ok_Chest_hands T) hr2 T.b_Chest_hands .nil pass0N)) (blkOk_by (own := [("box", 3)]) (N := N_come_to) (sc := defScope s_come_to) (by decide +kernel)) (fun _ _ _ _ _ => (pg_name (i := 3) sc_come_to.nd rfl (Or.inl rfl))) (fun _ _ _ _ _ => pts_nil) (fun _ _ _ _ _ => (pe_tup (pa_cons (pv 3) (pa_cons (pe_tup (pa_cons pe_str pa_nil)) pa_nil)))))
      (pss_cons (ps_while PassesOwn.leaving (pt_truth (pv 2) (by intro _; rfl))
      (pss_cons (ps_for PassesOwn.leaving rfl (pi_list (pv 2)) (pg_tup (by rfl) (pgs_cons (pg_name (i := 3) sc_come_to.nd rfl (Or.inl rfl)) (pgs_cons (pg_name (i := 4) sc_come_to.nd rfl (Or.inl rfl)) pgs_nil)))
      (pss_one (ps_expr (pe_dsetd (pv 1) (pv 3) (pv 4) (by constructor <;> rfl)))))
      (pss_one (ps_setLc (i := 2) (own := [("box", 3), ("why", 4)]) (g := gTup K 2 (gCons (gName 3) (gCons (gName 4) gNil))) (tt := (tB (tDNotIn (tVar 3) (tVar 1)))) (te := (tTup (tCons (tVar 3) (tCons (tVar 4) tNil)))) (by rfl) sc_come_to.nd rfl rfl (sw_true rfl rfl rfl (by decide +kernel)) (pi_list (pe_call (ok_held_by T) hr3 rfl T.mg_held_by T.F_held_by.kp T.b_held_by .nil pass0N (pa_cons (pv 0) (pa_cons (pv 1) pa_nil)))) (blkOk_by (own := [("box", 3), ("why", 4)]) (N := N_come_to) (sc := defScope s_come_to) (by decide +kernel)) (fun _ _ _ _ _ => (pg_tup (by rfl) (pgs_cons (pg_name (i := 3) sc_come_to.nd rfl (Or.inl rfl)) (pgs_cons (pg_name (i := 4) sc_come_to.nd rfl (Or.inl rfl)) pgs_nil)))) (fun _ _ _ _ _ => pts_one (pt_cmp (pc_dnotin hu (pv 3) (pv 1)))) (fun _ _ _ _ _ => (pe_tup (pa_cons (pv 3) (pa_cons (pv 4) pa_nil))))))))
      (pss_one (ps_ret (LiI.pe_listItems rfl (pv 1) (by rfl) T.no_list (by rfl))))))), ?_⟩
    try dsimp only [cxOf]
    walk_at "go"
    intro r hr0
    have n0 := Same.new (o := HO.dK []) hr0
    walk_at "go"
    refine ⟨p, _, _, rfl, n0 _ _ h1, fChest_no (by decide +kernel) (by decide +kernel) (by decide +kernel) (by decide +kernel), ?_⟩
    walk_at "go"
    refine ⟨p, C, rfl, hC.same n0, fun hl H1 hhl s1 e1 => ?_⟩
    rw [hands_eq hCS.bs] at e1
    have s01 := n0.trans s1
    have er1 := s1 _ _ (upd_same (H := H) (a := r) (o := HO.dK []))
    refine ⟨hl, rfl, ⟨_, SqL.of e1⟩, fun D hD => lc_list (K := K) (a := hl) (xs := ((S.bs.filter fun e => e.2.hand).map (·.1)).map V.int)
      (fun i H2 => Same H1 H2 ∧ ∃ us, H2 D = some (.lst us) ∧ Paired (RowW H2) us (S.handR.take i)) ⟨Same.new hD, [], upd_same, .nil⟩ (fun i H2 _ h => SqL.of (h.1 _ _ e1)) ?_ ?_⟩
    · rintro i x H2 hx ⟨s2, us, e2, pu⟩
      rw [List.map_map, List.getElem?_map] at hx
      obtain ⟨⟨b, y⟩, hb, rfl⟩ := Option.map_eq_some_iff.mp hx
      have hh : S.handR[i]? = some (b, Why.hand) := by unfold Ch.handR; rw [List.getElem?_map, hb]; rfl
      have lu := pu.length
      have l60 : S.handR.length ≤ 60 := by
        unfold Ch.handR
        rw [List.length_map]
        exact Nat.le_trans (List.length_filter_le _ _) G.zb
      rw [List.length_take] at lu
      walk_at "go"
      refine ⟨rfl, ?_⟩
      walk_at "go"
      refine ⟨by show 1 ≤ sizeLine; decide, fun tw htw => ?_⟩
      have n1 := Same.new (o := HO.tup [.str "hand"]) htw
      walk_at "go"
      refine ⟨by show 2 ≤ sizeLine; decide, fun t2 ht2 => ?_⟩
      have n2 := Same.new (o := HO.tup [.int b, .ref tw]) ht2
      have e3 := n2 _ _ (n1 _ _ e2)
      refine ⟨us, e3, small1000 (by omega), fun c o e => ?_, us ++ [.ref t2], upd_same, ?_⟩
      · rw [upd_ne (ne_of_none e hD)]; exact n2 _ _ (n1 _ _ (s2 _ _ e))
      · rw [take_snoc hh]
        exact rows_snoc pu (n1.trans n2) e3 upd_same (n2 _ _ upd_same)
    rintro H2 ⟨s2, us, e2, pu⟩
    rw [List.length_map, List.length_map, show (S.bs.filter fun e => e.2.hand).length = S.handR.length by unfold Ch.handR; rw [List.length_map], List.take_length] at pu
    have s02 := s01.trans s2
    have l0 : us.length ≤ 2000 := by
      have := pu.length
      have : S.handR.length ≤ 60 := by
        unfold Ch.handR
        rw [List.length_map]
        exact Nat.le_trans (List.length_filter_le _ _) G.zb
      omega
    walk_at "go"
    refine g_while ⟨fun m σ H3 => ∃ (f : Addr) (fs : List V) (kvs : List (Key × V)) (R F : List (Int × Why)) (v3 v4 : Option V), σ = [some (.ref p), some (.ref r), some (.ref f), v3, v4] ∧ Same H H3 ∧ H3 r = some (.dK kvs) ∧ Paired (DRow H3) kvs R ∧ H3 f = some (.lst fs) ∧ Paired (RowW H3) fs F ∧ RightR S R ∧ Fresh S R F ∧ m = 61 - R.length ∧ fs.length ≤ 2000,
      ⟨61, D, us, [], [], S.handR, none, none, rfl, s02, s2 _ _ er1, .nil, e2, pu, .nil, fresh_hand S, rfl, l0⟩, ?_⟩
    rintro m σ H3 ⟨f, fs, kvs, R, F, v3, v4, rfl, s3, er, pk, ef, pf, hR, hF, rfl, lf⟩
    walk_at "go"
    refine ⟨!fs.isEmpty, .inl ⟨fs, SqL.of ef, rfl⟩, ?_⟩
    cases fs with
    | nil =>
      cases pf
      rw [show (!([] : List V).isEmpty) = false from rfl]
      walk_at "go"
      refine ⟨r, kvs, rfl, er, fun H4 q ts s4 hq hts _ e4 pt => ?_⟩
      have lk := pk.length
      have l60 := right_len G hR
      have pr : Paired (RowW H4) (ts.map V.ref) R := by
        have t34 : Tups H3 H4 := fun t xs e => s4 _ _ e
        clear e4 lk l60 hts
        have aux : ∀ {ts : List Addr} {kvs : List (Key × V)} {R : List (Int × Why)}, Paired (fun t q => H4 t = some (.tup [kV q.1, q.2])) ts kvs → Paired (DRow H3) kvs R → Paired (RowW H4) (ts.map V.ref) R := by
          intro ts kvs R h1
          induction h1 generalizing R with
          | nil => intro h2; cases h2; exact .nil
          | @cons t q ts kvs e h1 ih =>
            intro h2
            cases h2 with
            | cons d h2 =>
              obtain ⟨d1, w, d2, d3⟩ := d
              refine .cons ⟨t, w, rfl, ?_, d3.keep t34⟩ (ih h2)
              rw [e, d1, d2]; rfl
        exact aux pt pk
      exact k q H4 _ R (free_same s3 hq) (s3.trans s4) e4 pr hR (fresh_end hF) (by rw [List.length_map, pt.length]; omega)
    | cons f0 fs' =>
      rw [show (!(f0 :: fs').isEmpty) = true from rfl, if_pos rfl]
      refine ⟨fun σ' H' => ∃ m', m' < 61 - R.length ∧ ∃ (f : Addr) (fs : List V) (kvs : List (Key × V)) (R F : List (Int × Why)) (v3 v4 : Option V), σ' = [some (.ref p), some (.ref r), some (.ref f), v3, v4] ∧ Same H H' ∧ H' r = some (.dK kvs) ∧ Paired (DRow H') kvs R ∧ H' f = some (.lst fs) ∧ Paired (RowW H') fs F ∧ RightR S R ∧ Fresh S R F ∧ m' = 61 - R.length ∧ fs.length ≤ 2000, fun _ _ h => h, ?_⟩
      obtain ⟨F0, F', rfl⟩ : ∃ F0 F', F = F0 :: F' := by
        cases pf with
        | cons h q => exact ⟨_, _, rfl⟩
      have grow := fold_grow (F := F') (hF.ok F0 List.mem_cons_self).2
      walk_at "go"
      refine ⟨f, rfl, ⟨_, SqL.of ef⟩, for_list (K := K) (a := f) (xs := f0 :: fs') (fun i σ H4 => ∃ kvs v3 v4, σ = [some (.ref p), some (.ref r), some (.ref f), v3, v4] ∧ Fr [r] H3 H4 ∧ H4 r = some (.dK kvs) ∧ Paired (DRow H4) kvs (((F0 :: F').take i).foldl addR R) ∧ RightR S (((F0 :: F').take i).foldl addR R))
        ⟨kvs, _, _, rfl, Fr.refl _ _, er, pk, hR⟩ (fun i σ H4 _ h => by
          obtain ⟨_, _, _, _, g, _⟩ := h
          exact SqL.of (g _ _ ef fun z => by rw [List.mem_singleton.mp z, er] at ef; cases ef)) ?_ ?_⟩
      · rintro i x σ H4 hx ⟨kvs, v3, v4, rfl, g4, er4, pk4, hR4⟩
        obtain ⟨⟨b, why⟩, hf, t, tw, rfl, et, ew⟩ := paired_get pf hx
        have t34 : Tups H3 H4 := g4.tups fun b m => by rw [List.mem_singleton.mp m]; exact ⟨_, er, fun _ z => nomatch z⟩
        have et4 := t34 _ _ et
        have ew4 := ew.keep t34
        have hmem : (b, why) ∈ F0 :: F' := List.mem_of_getElem? hf
        have hrw : RightWhy S (keys (((F0 :: F').take i).foldl addR R)) b why := (hF.ok _ hmem).1.mono fun x h => fold_in _ _ _ h
        have hR5 := addR_right (r := (b, why)) hR4 hrw
        rw [fold_snoc hf]
        have lk := pk4.length
        have l60 := right_len G hR4
        refine g_gTup et4 rfl ?_
        walk_at "go"
        refine ⟨r, rfl, .inl ⟨_, .inl er4⟩, ?_⟩
        walk_at "go"
        refine ⟨kvs, Sum.inl b, er4, rfl, small1000 (by omega), fun v hv => ?_, fun hv => ?_⟩
        · walk_at "go"
          have hin : b ∈ keys (((F0 :: F').take i).foldl addR R) := by
            have := valV_keys (n := b) (drow_keys pk4)
            rw [hv] at this
            simpa using this
          have e : addR (((F0 :: F').take i).foldl addR R) (b, why) = ((F0 :: F').take i).foldl addR R := if_pos hin
          rw [e] at hR5 ⊢
          exact ⟨kvs, _, _, rfl, g4, er4, pk4, hR5⟩
        · walk_at "go"
          have hin : b ∉ keys (((F0 :: F').take i).foldl addR R) := by
            have := valV_keys (n := b) (drow_keys pk4)
            rw [hv] at this
            simpa using this
          have e : addR (((F0 :: F').take i).foldl addR R) (b, why) = ((F0 :: F').take i).foldl addR R ++ [(b, why)] := if_neg hin
          rw [e] at hR5 ⊢
          rw [putK_new _ hv]
          have tp : Tups H4 (upd H4 r (.dK (kvs ++ [((Sum.inl b : Key), V.ref tw)]))) := fun c xs z => by rw [upd_ne (fun y => by rw [y, er4] at z; cases z)]; exact z
          exact ⟨_, _, _, rfl, g4.trans (Fr.upd (List.mem_singleton.mpr rfl)), upd_same, Paired.snoc (L2.Paired.mapP pk4 fun _ _ h => h.keep tp) ⟨rfl, tw, rfl, ew4.keep tp⟩, hR5⟩
      · rintro σ H4 ⟨kvs, v3, v4, rfl, g4, er4, pk4, hR4⟩
        rw [show (f0 :: fs').length = (F0 :: F').length from pf.length, List.take_length] at pk4 hR4
        have s4 : Same H H4 := fun b o e => g4 _ _ (s3 _ _ e) fun z => by rw [List.mem_singleton.mp z, hr0] at e; cases e
        have l60 := right_len G hR4
        have hF5 := fresh_next hF
        generalize (F0 :: F').foldl addR R = R5 at *
        walk_at "go"
        refine ⟨p, r, S, O, kvs, keys R5, rfl, hS.same s4, er4, drow_keys pk4, fun hq H5 hs hhq s5 e5 p5 l5 => ?_⟩
        have er5 := s5 _ _ er4
        have lh := p5.length
        refine ⟨hq, rfl, ⟨_, SqL.of e5⟩, fun D hD => lc_list (K := K) (a := hq) (xs := hs)
          (fun i H6 => Same H5 H6 ∧ ∃ us, H6 D = some (.lst us) ∧ Paired (RowW H6) us (((S.held (keys R5)).take i).filter fun r => decide (r.1 ∉ keys R5)) ∧ us.length ≤ i) ⟨Same.new hD, [], upd_same, .nil, Nat.le_refl _⟩ (fun i H6 _ h => SqL.of (h.1 _ _ e5)) ?_ ?_⟩
        · rintro i x H6 hx ⟨s6, us, e6, pu, lu⟩
          obtain ⟨⟨b, why⟩, hf, t, tw, rfl, et, ew⟩ := paired_get p5 hx
          have i2000 := (List.getElem?_eq_some_iff.mp hx).1
          have t56 : Tups H5 H6 := fun t xs e => s6 _ _ e
          rw [take_snoc hf, List.filter_append]
          refine g_gTup (s6 _ _ et) rfl ?_
          walk_at "go"
          refine ⟨rfl, ?_⟩
          walk_at "go"
          refine ⟨_, _, rfl, DGet.k (k := Sum.inl b) (s6 _ _ er5), ?_⟩
          rw [valV_keys (drow_keys pk4)]
          walk_at "go"
          refine g_iteN (fun c => ?_) (fun c => ?_)
          · rw [show ([(b, why)].filter fun r => decide (r.1 ∉ keys R5)) = [(b, why)] by rw [List.filter_cons, if_pos (by simpa using c)]; rfl]
            walk_at "go"
            refine ⟨by show 2 ≤ sizeLine; decide, fun t2 ht2 => ?_⟩
            have n2 := Same.new (o := HO.tup [.int b, .ref tw]) ht2
            have e7 := n2 _ _ e6
            refine ⟨us, e7, Nat.lt_of_le_of_lt (by omega : us.length ≤ 2000) (by decide), fun c o e => ?_, us ++ [.ref t2], upd_same, ?_, by rw [List.length_append]; show us.length + 1 ≤ _; omega⟩
            · rw [upd_ne (ne_of_none e hD)]; exact n2 _ _ (s6 _ _ e)
            · exact rows_snoc pu n2 e7 upd_same ((ew.keep t56).keep fun t xs e => n2 _ _ e)
          · rw [show ([(b, why)].filter fun r => decide (r.1 ∉ keys R5)) = [] by rw [List.filter_cons, if_neg (by simpa using c)]; rfl, List.append_nil]
            walk_at "go"
            exact ⟨s6, us, e6, pu, by omega⟩
        · rintro H6 ⟨s6, us, e6, pu, lu⟩
          rw [lh, List.take_length] at pu
          walk_at "go"
          have t46 : Tups H4 H6 := fun t xs e => s6 _ _ (s5 _ _ e)
          exact ⟨_, by omega, D, us, kvs, R5, S.next R5, _, _, rfl, (s4.trans s5).trans s6, s6 _ _ er5, L2.Paired.mapP pk4 fun _ _ h => h.keep t46, e6, pu, hR4, hF5, rfl, by omega⟩
end
section
variable {P : Program} {w : World} {K : PySem.W.Frag} {mg : Str → Option Value} {base : Heap} {a : Ad}
/-! ### the law's own reckoning -/
def spWorld : Sp := fun vs H Q _ => vs = [] ∧ ∀ q O H', Same H H' → WorldAt H' q ⟨0, 0, [], []⟩ O → (∀ b, b ∈ O → H b = none) → Q (.ref q) H'
def noSlot (S : Ch) (b s : Int) : Str := match S.get b with
  | none => "box"
  | some x => if s < 0 ∨ (x.sl.length : Int) ≤ s then "slot" else ""
def spNoSlot : Sp := fun vs H Q _ => ∃ (q : Addr) (b s : Int) (S : Ch) (O : List Addr), vs = [.ref q, .int b, .int s] ∧ WorldAt H q S O ∧ Q (.str (noSlot S b s)) H
end
section
variable {P : Program} {w : World} {K : PySem.W.Frag} {mg : Str → Option Value} {base : Heap} {a : Ad}
/-- what the reckoning of a deed hands back -/
def WRes (H : Hp) (q : Addr) (S : Ch) (O : List Addr) (d : LD) (Q : VK) : Prop := ∀ u H' O', H u = none → Fr O H H' → Gr O O' H → WorldAt H' q (S.step d).2.2 O' → H' u = some (.tup [.str (S.step d).1, retV (S.step d).2.1]) → Q (.ref u) H'
theorem fr_upd {O : List Addr} {H H' : Hp} {b : Addr} {o : HO} (f : Fr O H H') (h : b ∈ O) : Fr O H (upd H' b o) := fun c u e n => by
  rw [upd_ne (fun z => n (by rw [z]; exact h))]; exact f c u e n
theorem fr_new {O : List Addr} {H H' : Hp} {b : Addr} {o : HO} (f : Fr O H H') (h : H b = none) : Fr O H (upd H' b o) := fun c u e n => by
  rw [upd_ne (ne_of_none e h)]; exact f c u e n
theorem lk_app {α : Type} {n : Int} : ∀ {l1 l2 : List (Int × α)}, (l1 ++ l2).lookup n = match l1.lookup n with | some x => some x | none => l2.lookup n
  | [], _ => rfl
  | (k, y) :: r, l2 => by
    show ((k, y) :: (r ++ l2)).lookup n = _
    by_cases e : n = k
    · subst e; rw [lk_pos, lk_pos]
    · rw [lk_neg (by simpa using e), lk_neg (by simpa using e), lk_app]
def spMadeW : Sp := fun vs H Q _ => ∃ (q : Addr) (n : Int) (S : Ch) (O : List Addr), vs = [.ref q, .int n] ∧ WorldAt H q S O ∧ WRes H q S O (.make n) Q
end
section
variable {P : Program} {w : World} {K : PySem.W.Frag} {mg : Str → Option Value} {base : Heap} {a : Ad}
/-! ### put and empty, reckoned -/
theorem noSlot_put {S : Ch} {b s o : Int} {g : Bool} : (noSlot S b s ≠ "" → S.step (.put b s o g) = (noSlot S b s, none, S)) ∧
    (noSlot S b s = "" → ∃ x, S.get b = some x ∧ 0 ≤ s ∧ s < (x.sl.length : Int) ∧ (S.get o = none → S.step (.put b s o g) = (("box" : Str), none, S)) ∧ (S.get o ≠ none → S.step (.put b s o g) = (("" : Str), none, S.box b { x with sl := x.sl.set s.toNat (some (o, g)) }))) := by
  unfold noSlot
  cases e : S.get b with
  | none => exact ⟨fun _ => st_put0 e, fun z => absurd (show ("box" : Str) = "" from z) (by decide +kernel)⟩
  | some x =>
    dsimp only
    by_cases c : s < 0 ∨ (x.sl.length : Int) ≤ s
    · rw [if_pos c]; exact ⟨fun _ => st_put1 e c, fun z => absurd (show ("slot" : Str) = "" from z) (by decide +kernel)⟩
    · rw [if_neg c]
      refine ⟨fun z => absurd rfl z, fun _ => ⟨x, rfl, by omega, by omega, fun eo => st_put2 e c eo, fun eo => ?_⟩⟩
      cases d : S.get o with
      | none => exact absurd d eo
      | some y => exact st_put3 e c d
theorem noSlot_empty {S : Ch} {b s : Int} : (noSlot S b s ≠ "" → S.step (.empty b s) = (noSlot S b s, none, S)) ∧
    (noSlot S b s = "" → ∃ x, S.get b = some x ∧ 0 ≤ s ∧ s < (x.sl.length : Int) ∧ S.step (.empty b s) = (("" : Str), none, S.box b { x with sl := x.sl.set s.toNat none })) := by
  unfold noSlot
  cases e : S.get b with
  | none => exact ⟨fun _ => st_empty0 e, fun z => absurd (show ("box" : Str) = "" from z) (by decide +kernel)⟩
  | some x =>
    dsimp only
    by_cases c : s < 0 ∨ (x.sl.length : Int) ≤ s
    · rw [if_pos c]; exact ⟨fun _ => st_empty1 e c, fun z => absurd (show ("slot" : Str) = "" from z) (by decide +kernel)⟩
    · rw [if_neg c]
      exact ⟨fun z => absurd rfl z, fun _ => ⟨x, rfl, by omega, by omega, st_empty2 e c⟩⟩
theorem wres_bad {H H1 : Hp} {q u : Addr} {S : Ch} {O : List Addr} {d : LD} {Q : VK} {wd : Str} (k : WRes H q S O d Q) (hW : WorldAt H q S O) (sm : Same H H1) (e : S.step d = (wd, none, S)) (hu : H1 u = none) : Q (.ref u) (upd H1 u (.tup [.str wd, .non])) := by
  unfold WRes at k
  rw [e] at k
  exact k u _ _ (sm.free hu) (Fr.same (sm.trans (Same.new hu))) (Gr.same rfl) (hW.same (sm.trans (Same.new hu))) upd_same
def spPutBy : Sp := fun vs H Q _ => ∃ (q t : Addr) (S : Ch) (O : List Addr) (d : LD), vs = [.ref q, .ref t] ∧ WorldAt H q S O ∧ LDAt H t d ∧ ((∃ b s o g, d = .put b s o g) ∨ ∃ b s, d = .empty b s) ∧ WRes H q S O d Q
end
section
variable {P : Program} {w : World} {K : PySem.W.Frag} {mg : Str → Option Value} {base : Heap} {a : Ad}
/-! ### take, drop, pairs and wills, reckoned -/
theorem hs_mem {H : Hp} {L : LWd} {S : Ch} (hS : WSem H L S) {n : Int} {x : Bx} (ex : S.get n = some x) : n ∈ L.h ↔ x.hand = true := by
  rw [hS.hs]
  exact ⟨fun ⟨y, e1, e2⟩ => by rw [ex] at e1; cases e1; exact e2, fun e => ⟨x, ex, e⟩⟩
theorem keyA {H : Hp} {L : LWd} {S : Ch} (hS : WSem H L S) {n : Int} {x : Bx} (ex : S.get n = some x) : n ∈ L.A.map (·.1) := by
  cases e : L.A.lookup n with
  | none => rw [(hS.lk n).1.mp e] at ex; cases ex
  | some l => exact List.mem_map.mpr ⟨_, lk_mem e, rfl⟩
def spHandBy : Sp := fun vs H Q _ => ∃ (q t : Addr) (S : Ch) (O : List Addr) (d : LD), vs = [.ref q, .ref t] ∧ WorldAt H q S O ∧ LDAt H t d ∧ ((∃ b, d = .take b) ∨ ∃ b, d = .drop b) ∧ WRes H q S O d Q
end
section
variable {P : Program} {w : World} {K : PySem.W.Frag} {mg : Str → Option Value} {base : Heap} {a : Ad}
/-! ### pairs and wills, reckoned -/
def spPairBy : Sp := fun vs H Q _ => ∃ (q t : Addr) (S : Ch) (O : List Addr) (d : LD), vs = [.ref q, .ref t] ∧ WorldAt H q S O ∧ LDAt H t d ∧ ((∃ h k o, d = .pair h k o) ∨ ∃ n, d = .unpair n) ∧ WRes H q S O d Q
end
section
variable {P : Program} {w : World} {K : PySem.W.Frag} {mg : Str → Option Value} {base : Heap} {a : Ad}
/-! ### wills, reckoned -/
theorem int_nodup_len : ∀ (l D : List Int), l.Nodup → (∀ x ∈ l, x ∈ D) → l.length ≤ D.length
  | [], _, _, _ => Nat.zero_le _
  | a :: l, D, h1, h2 => by
    obtain ⟨n1, n2⟩ := List.nodup_cons.mp h1
    have ma := h2 a List.mem_cons_self
    have ih := int_nodup_len l (D.erase a) n2 fun y hy => (List.mem_erase_of_ne (fun z => n1 (by rw [← z]; exact hy))).mpr (h2 y (List.mem_cons_of_mem _ hy))
    rw [List.length_erase_of_mem ma] at ih
    have := List.length_pos_of_mem ma
    simp only [List.length_cons]; omega
theorem lk_gone {α : Type} {n : Int} : ∀ {l : List (Int × α)}, (l.filter fun e => decide (e.1 ≠ n)).lookup n = none
  | [] => rfl
  | (k, y) :: r => by
    by_cases e : k = n
    · subst e; rw [List.filter_cons_of_neg (by simp)]; exact lk_gone
    · rw [List.filter_cons_of_pos (by simpa using e), lk_neg (fun z => e z.symm)]; exact lk_gone
theorem lk_kept {α : Type} {n m : Int} (h : m ≠ n) : ∀ {l : List (Int × α)}, (l.filter fun e => decide (e.1 ≠ n)).lookup m = l.lookup m
  | [] => rfl
  | (k, y) :: r => by
    by_cases e : k = n
    · subst e; rw [List.filter_cons_of_neg (by simp), lk_neg h]; exact lk_kept h
    · rw [List.filter_cons_of_pos (by simpa using e)]
      by_cases e2 : m = k
      · subst e2; rw [lk_pos, lk_pos]
      · rw [lk_neg e2, lk_neg e2]; exact lk_kept h
theorem all_neg : ∀ ds : List Deed, (ds.map fun d => !d.isNeg).all id = !(ds.any Deed.isNeg)
  | [] => rfl
  | d :: r => by
    show ((!d.isNeg) && (r.map fun d => !d.isNeg).all id) = !(d.isNeg || r.any Deed.isNeg)
    rw [all_neg r]
    cases d.isNeg <;> rfl
def spWillBy : Sp := fun vs H Q _ => ∃ (q t : Addr) (S : Ch) (O : List Addr) (b : Int) (ds : List Deed), vs = [.ref q, .ref t] ∧ WorldAt H q S O ∧ LDAt H t (.will b ds) ∧ WRes H q S O (.will b ds) Q
end
section
variable {P : Program} {w : World} {K : PySem.W.Frag} {mg : Str → Option Value} {base : Heap} {a : Ad}
/-! ### a deed, reckoned; told; both -/
theorem g_inL {K : PySem.W.Frag} {H : Hp} {Q : VK} {p : Addr} {x : V} {xs : List V} {b : Bool} (e : SqL K H p xs) (f1 : flatV x = true) (f2 : xs.all flatV = true) (hb : inV x xs = b) (h : Q (.bl b) H) : rIn K false x (.ref p) H Q :=
  ⟨p, xs, rfl, .inl e, f1, f2, by subst hb; exact h⟩
theorem g_notInL {K : PySem.W.Frag} {H : Hp} {Q : VK} {p : Addr} {x : V} {xs : List V} {b : Bool} (e : SqL K H p xs) (f1 : flatV x = true) (f2 : xs.all flatV = true) (hb : inV x xs = b) (h : Q (.bl (!b)) H) : rIn K true x (.ref p) H Q :=
  ⟨p, xs, rfl, .inl e, f1, f2, by subst hb; exact h⟩
theorem same_free {H H' : Hp} (f : Same H H') {b : Addr} (h : H' b = none) : H b = none := by
  cases e : H b with
  | none => rfl
  | some o => rw [f _ _ e] at h; cases h
theorem Gr.back {O O' : List Addr} {H H' : Hp} (f : Same H H') (g : Gr O O' H') : Gr O O' H := fun b hb => (g b hb).elim .inl fun h => .inr (same_free f h)
theorem WRes.same {H H' : Hp} {q : Addr} {S : Ch} {O : List Addr} {d : LD} {Q : VK} (f : Same H H') (k : WRes H q S O d Q) : WRes H' q S O d Q :=
  fun u H2 O' hu fr gr hw e => k u H2 O' (same_free f hu) ((Fr.same f).trans fr) (gr.back f) hw e
def spDone : Sp := fun vs H Q _ => ∃ (q t : Addr) (S : Ch) (O : List Addr) (d : LD), vs = [.ref q, .ref t] ∧ WorldAt H q S O ∧ LDAt H t d ∧ WRes H q S O d Q
theorem step_err {S : Ch} {d : LD} : (S.step d).1 ≠ "" → (S.step d).2.1 = none ∧ (S.step d).2.2 = S := by
  cases d <;> simp only [Ch.step] <;> (repeat' split) <;> first | exact fun _ => ⟨rfl, rfl⟩ | exact fun h => absurd rfl h
/-- what telling a deed hands back -/
def CRes (a : Ad) (H : Hp) (p : Addr) (S : Ch) (O : List Addr) (d : LD) (Q : VK) : Prop := ∀ u H' O', Fr O H H' → Gr O O' H → ChestAt a.Chest a.Box H' p (S.step d).2.2 O' → H' u = some (.tup [.str (S.step d).1, retV (S.step d).2.1]) → Q (.ref u) H'
def spWord (a : Ad) : Sp := fun vs H Q _ => ∃ (p t : Addr) (S : Ch) (O : List Addr) (d : LD), vs = [.ref p, .ref t] ∧ ChestAt a.Chest a.Box H p S O ∧ LDAt H t d ∧ CRes a H p S O d Q
/-- a chest and its reckoning -/
def Both (a : Ad) (H : Hp) (p q : Addr) (S : Ch) (O : List Addr) : Prop := ∃ Oc Ow, ChestAt a.Chest a.Box H p S Oc ∧ WorldAt H q S Ow ∧ (∀ b, b ∈ Oc → b ∉ Ow) ∧ O = Oc ++ Ow
theorem Both.dom {H : Hp} {p q : Addr} {S : Ch} {O : List Addr} (h : Both a H p q S O) {b : Addr} (m : b ∈ O) : ∃ o, H b = some o ∧ ∀ xs, o ≠ .tup xs := by
  obtain ⟨Oc, Ow, hC, hW, dj, rfl⟩ := h
  exact (List.mem_append.mp m).elim hC.dom hW.dom
theorem Both.keep {H H' : Hp} {p q : Addr} {S : Ch} {O O2 : List Addr} (h : Both a H p q S O) (f : Fr O2 H H') (t : Tups H H') (d : ∀ b, b ∈ O → b ∉ O2) : Both a H' p q S O := by
  obtain ⟨Oc, Ow, hC, hW, dj, rfl⟩ := h
  exact ⟨Oc, Ow, hC.keep f t fun b m => d b (List.mem_append_left _ m), hW.keep f t fun b m => d b (List.mem_append_right _ m), dj, rfl⟩
theorem Both.same {H H' : Hp} {p q : Addr} {S : Ch} {O : List Addr} (h : Both a H p q S O) (f : Same H H') : Both a H' p q S O :=
  h.keep (O2 := []) (fun b o e _ => f b o e) (fun t xs e => f t _ e) (fun b _ m => nomatch m)
/-- a deed that stands however O changes -/
def LDS (O : List Addr) (H : Hp) (t : Addr) (d : LD) : Prop := ∀ H', Fr O H H' → LDAt H' t d
def spStep (a : Ad) : Sp := fun vs H Q _ => ∃ (p q t : Addr) (S : Ch) (O : List Addr) (d : LD), vs = [.ref p, .ref q, .ref t] ∧ Both a H p q S O ∧ LDS O H t d ∧
  ∀ H' O', Fr O H H' → Gr O O' H → Both a H' p q (S.step d).2.2 O' → Q (.bl true) H'
end
section
variable {P : Program} {w : World} {K : PySem.W.Frag} {mg : Str → Option Value} {base : Heap} {a : Ad}
theorem at_in {xs : List V} {i : Int} (h0 : 0 ≤ i) (h1 : i < xs.length) : ∃ v, atI xs i = some v ∧ v ∈ xs := by
  have h : i.toNat < xs.length := by omega
  exact ⟨xs[i.toNat], at_of (j := i.toNat) (by omega) (List.getElem?_eq_getElem h), List.getElem_mem h⟩
theorem paired_setN {α β : Type} {R : α → β → Prop} {x : α} {y : β} {l : List α} {m : List β} (h : Paired R l m) (hx : R x y) : ∀ i : Nat, Paired R (l.set i x) (m.set i y) := by
  induction h with
  | nil => intro i; exact .nil
  | cons f r ih =>
    intro i
    cases i with
    | zero => exact .cons hx r
    | succ i => exact .cons f (ih i)
/-- a deed whose will's list is of M -/
def LDM (H : Hp) (M : Addr → Prop) (t : Addr) (d : LD) : Prop := LDAt H t d ∧ ∀ x b l, H t = some (.tup [x, b, .ref l]) → M l
theorem LDM.mono {H : Hp} {M M' : Addr → Prop} {t : Addr} {d : LD} (h : LDM H M t d) (k : ∀ l, M l → M' l) : LDM H M' t d := ⟨h.1, fun x b l e => k l (h.2 x b l e)⟩
theorem LDAt.tup {H : Hp} {t : Addr} {d : LD} (h : LDAt H t d) : ∃ xs, H t = some (.tup xs) := by
  cases d with
  | will b ds => obtain ⟨l, us, e, _⟩ := h; exact ⟨_, e⟩
  | _ => exact ⟨_, h⟩
theorem LDM.fr {H H' : Hp} {M : Addr → Prop} {O : List Addr} {t : Addr} {d : LD} (h : LDM H M t d) (f : Fr O H H') (tp : Tups H H') (n : ∀ l, M l → l ∉ O) : LDM H' M t d := by
  obtain ⟨xs, ex⟩ := h.1.tup
  refine ⟨?_, fun x b l e => h.2 x b l (by rw [tp _ _ ex] at e; rw [ex]; exact e)⟩
  cases d with
  | will b ds =>
    obtain ⟨l, us, e1, e2, e3, e4⟩ := h.1
    exact ⟨l, us, tp _ _ e1, f _ _ e2 (n l (h.2 _ _ _ e1)), e3, L2.Paired.mapP e4 fun _ _ g => g.keep tp⟩
  | _ => exact tp _ _ h.1
theorem LDM.same {H H' : Hp} {M : Addr → Prop} {t : Addr} {d : LD} (h : LDM H M t d) (s : Same H H') : LDM H' M t d := h.fr (O := []) (fun b o e _ => s b o e) (fun t xs e => s _ _ e) fun _ _ z => nomatch z
theorem LDM.lds {H : Hp} {M : Addr → Prop} {O : List Addr} {t : Addr} {d : LD} (h : LDM H M t d) (n : ∀ l, M l → l ∉ O) (dm : ∀ b, b ∈ O → ∃ o, H b = some o ∧ ∀ xs, o ≠ .tup xs) : LDS O H t d := fun H' f => (h.fr f (f.tups dm) n).1
/-- a cell: a number, or a deed -/
def CellV (H : Hp) (M : Addr → Prop) (v : V) : Prop := (∃ i, v = .int i) ∨ ∃ t d, v = .ref t ∧ LDM H M t d
end
section
/-! ### the keys -/
theorem ckeys {H : Hp} {C : LCh} {S : Ch} (h : CS H C S) : C.B.map (·.1) = S.bs.map (·.1) := keys_eq (fun _ _ k => k.1) h.bs
theorem wkeys {H : Hp} {L : LWd} {S : Ch} (h : WSem H L S) : L.A.map (·.1) = S.bs.map (·.1) := keys_eq (fun _ _ k => k.1) h.bs
theorem cpairs {H : Hp} {C : LCh} {S : Ch} (h : CS H C S) : C.R.map (·.1) = S.ps.map (·.1) := keys_eq (fun _ _ k => k.1) h.ps
theorem wpairs {H : Hp} {L : LWd} {S : Ch} (h : WSem H L S) : L.R.map (·.1) = S.ps.map (·.1) := keys_eq (fun _ _ k => k.1) h.ps
end
section
variable {P : Program} {w : World} {K : PySem.W.Frag} {mg : Str → Option Value} {base : Heap} {a : Ad}
/-! ### wills and deeds that can be given and done -/
theorem any_snoc {ds : List Deed} {d : Deed} (h : ds.any Deed.isNeg = false) (g : d.isNeg = false) : (ds ++ [d]).any Deed.isNeg = false := by
  rw [List.any_append, h]; simp [g]
def spWillOk : Sp := fun vs H Q _ => ∃ (l : Addr) (ns : List Int) (c m : Int), vs = [.ref l, .int c, .int m] ∧ H l = some (.lst (ns.map V.int)) ∧ 0 < ns.length ∧ (∀ n ∈ ns, 0 ≤ n) ∧ 0 ≤ m ∧
  ∀ r us ds H', H r = none → Same H H' → H' r = some (.lst us) → us.length ≤ 9 → Paired (DeedV H') us ds → ds.any Deed.isNeg = false → Q (.ref r) H'
theorem ok_law_will_of (T : Txt a K mg) : FnOk P w K mg base (CN P w) 2 a.f_law_will_of a.fd_law_will_of ["_law_boxes", "_law_cell", "_law_coming"] spWillOk := by
  refine okN T.F_law_will_of sc_law_will_of (fun vs H Q E h => ?_) (fun cdv A outer s H vs Q E hr h => ?_)
  · obtain ⟨l, ns, c, m, rfl, _⟩ := h; rfl
  · obtain ⟨l, ns, c, m, rfl, hl, hn, hp, hm0, k⟩ := h
    have hr1 : Room 1 _ := hr.mono (by decide);
    refine ⟨_, (pss_cons (ps_set (i := 3) sc_law_will_of.nd rfl (Or.inl rfl) (pe_lst pa_nil))
      (pss_cons (ps_for PassesOwn.leaving rfl (pi_range1 (by rfl) T.no_range (pa_cons (pe_ix ix_list (pe_lst (pa_cons pe_int (pa_cons pe_int (pa_cons pe_int (pa_cons pe_int (pa_cons pe_int (pa_cons pe_int (pa_cons pe_int pa_nil)))))))) (pe_call (ok_law_mixed T) hr1 rfl T.mg_law_mixed T.F_law_mixed.kp T.b_law_mixed .nil pass0N (pa_cons (pv 1) (pa_cons pe_int (pa_cons pe_int pa_nil)))) (fun _ _ => rfl)) pa_nil)) (pg_name (i := 4) sc_law_will_of.nd rfl (Or.inl rfl))
      (pss_cons (ps_set (i := 5) sc_law_will_of.nd rfl (Or.inl rfl) (pe_ix ix_list (pv 0) (pe_call (ok_law_mixed T) hr1 rfl T.mg_law_mixed T.F_law_mixed.kp T.b_law_mixed .nil pass0N (pa_cons (pe_op op_add (pv 1) (pv 4)) (pa_cons pe_int (pa_cons (pe_callB call_lenS (by rfl) T.no_len (by decide +kernel) (pa_cons (pv 0) pa_nil)) pa_nil)))) (fun _ _ => rfl)))
      (pss_cons (ps_if (pt_cmpR op_eq (pe_call (ok_law_mixed T) hr1 rfl T.mg_law_mixed T.F_law_mixed.kp T.b_law_mixed .nil pass0N (pa_cons (pe_op op_add (pv 1) (pv 4)) (pa_cons pe_int (pa_cons pe_int pa_nil)))) pe_int (nomark _)) (pss_one (ps_set (i := 5) sc_law_will_of.nd rfl (Or.inl rfl) (pe_ix ix_list (pe_lst (pa_cons (pv 2) (pa_cons (pe_op op_add (pv 2) pe_int) (pa_cons pe_int pa_nil)))) (pe_call (ok_law_mixed T) hr1 rfl T.mg_law_mixed T.F_law_mixed.kp T.b_law_mixed .nil pass0N (pa_cons (pe_op op_add (pv 1) (pv 4)) (pa_cons pe_int (pa_cons pe_int pa_nil)))) (fun _ _ => rfl)))) pss_nil)
      (pss_cons (ps_set (i := 6) sc_law_will_of.nd rfl (Or.inl rfl) (pe_call (ok_law_mixed T) hr1 rfl T.mg_law_mixed T.F_law_mixed.kp T.b_law_mixed .nil pass0N (pa_cons (pe_op op_add (pv 1) (pv 4)) (pa_cons pe_int (pa_cons pe_int pa_nil)))))
      (pss_one (ps_if (pt_cmpR op_lt (pv 6) pe_int (nomark _)) (pss_one (ps_expr (pe_bm PySem.F.plainAttrs_list PySem.F.slot_list_append PySem.F.type_list_append mt_append (pv 3) (pa_cons (pe_tup (pa_cons pe_str pa_nil)) pa_nil)))) (pss_one (ps_if (pt_cmpR op_lt (pv 6) pe_int (nomark _)) (pss_one (ps_expr (pe_bm PySem.F.plainAttrs_list PySem.F.slot_list_append PySem.F.type_list_append mt_append (pv 3) (pa_cons (pe_tup (pa_cons pe_str (pa_cons (pv 5) pa_nil))) pa_nil)))) (pss_one (ps_expr (pe_bm PySem.F.plainAttrs_list PySem.F.slot_list_append PySem.F.type_list_append mt_append (pv 3) (pa_cons (pe_tup (pa_cons pe_str (pa_cons (pv 5) (pa_cons (pe_call (ok_law_mixed T) hr1 rfl T.mg_law_mixed T.F_law_mixed.kp T.b_law_mixed .nil pass0N (pa_cons (pe_op op_add (pv 1) (pv 4)) (pa_cons pe_int (pa_cons pe_int pa_nil)))) (pa_cons (pe_cmpR op_lt (pv 6) pe_int (nomark _)) pa_nil))))) pa_nil))))))))))))
      (pss_one (ps_ret (pv 3))))), ?_⟩
    try dsimp only [cxOf]
    walk_at "gos"
    refine ⟨by decide, fun r hr0 => ?_⟩
    walk_at "gos"
    refine ⟨by show 7 ≤ sizeLine; decide, fun u hu => ?_⟩
    walk_at "gos"
    refine ⟨c, 1, 7, rfl, by decide, fun H1 s1 => ?_⟩
    obtain ⟨v, e, hv⟩ := at_in (xs := [V.int 1, .int 1, .int 2, .int 3, .int 9, .int 2, .int 1]) (mixF_in (c := c) (k := 1) (m := 7) (by decide)).1 (mixF_in (c := c) (k := 1) (m := 7) (by decide)).2
    refine g_ixL (SqL.of (s1 _ _ upd_same)) e ?_
    have hv : ∃ n : Int, v = .int n ∧ 0 ≤ n ∧ n ≤ 9 := by
      simp only [List.mem_cons, List.not_mem_nil, or_false] at hv
      rcases hv with rfl | rfl | rfl | rfl | rfl | rfl | rfl <;> exact ⟨_, rfl, by decide, by decide⟩
    obtain ⟨n, rfl, n0, n10⟩ := hv
    have s0 : Same H H1 := ((Same.new hr0).trans (Same.new hu)).trans s1
    have hr1 : H1 r = some (.lst []) := s1 _ _ ((Same.new hu) _ _ upd_same)
    have hl1 := s0 _ _ hl
    have rl : l ≠ r := ne_of_none hl hr0
    walk_at "gos"
    refine ⟨_, rfl, by omega, by omega, for_range (lo := 0) (n := n.toNat) (fun i σ H2 => ∃ v4 v5 v6 us ds, σ = [some (.ref l), some (.int c), some (.int m), some (.ref r), v4, v5, v6] ∧ Fr [r] H1 H2 ∧ H2 r = some (.lst us) ∧ us.length = i ∧ Paired (DeedV H2) us ds ∧ ds.any Deed.isNeg = false)
      ⟨_, _, _, [], [], rfl, Fr.refl _ _, hr1, rfl, .nil, rfl⟩ ?_ ?_⟩
    · rintro i σ H2 hi ⟨v4, v5, v6, us, ds, rfl, f2, e2, lu, pu, ng⟩
      have add : ∀ (H3 : Hp) (t : Addr) (xs : List V) (d : Deed), Same H2 H3 → H3 t = none → (∀ H', H' t = some (.tup xs) → DeedV H' (.ref t) d) → d.isNeg = false → ∃ us' ds', Fr [r] H1 (upd (upd H3 t (.tup xs)) r (.lst (us ++ [.ref t]))) ∧ upd (upd H3 t (.tup xs)) r (.lst (us ++ [.ref t])) r = some (.lst us') ∧ us'.length = i + 1 ∧ Paired (DeedV (upd (upd H3 t (.tup xs)) r (.lst (us ++ [.ref t])))) us' ds' ∧ ds'.any Deed.isNeg = false := by
        intro H3 t xs d s3 ht hd hg
        have rt : r ≠ t := ne_of_none (s3 _ _ e2) ht
        have tp : Tups H2 (upd (upd H3 t (.tup xs)) r (.lst (us ++ [.ref t]))) := fun b ys z => by
          rw [upd_ne (fun c => by rw [c, e2] at z; cases z)]; exact (Same.new ht) _ _ (s3 _ _ z)
        exact ⟨us ++ [.ref t], ds ++ [d], f2.trans ((Fr.same (s3.trans (Same.new ht))).trans (Fr.upd (List.mem_singleton.mpr rfl))), upd_same, by rw [List.length_append, lu]; rfl,
          Paired.snoc (L2.Paired.mapP pu fun _ _ h => h.keep tp) (hd _ (by rw [upd_ne rt.symm]; exact upd_same)), any_snoc ng hg⟩
      have hl2 := f2 _ _ hl1 fun z => rl (List.mem_singleton.mp z)
      walk_at "gos"
      refine g_lenL (SqL.of hl2) ?_
      rw [List.length_map]
      refine ⟨_, 2, _, rfl, by omega, fun H3 s3 => ?_⟩
      obtain ⟨x, e, hx⟩ := at_in (xs := ns.map V.int) (mixF_in (c := c + (0 + (i : Int))) (k := 2) (m := ns.length) (by omega)).1 (by rw [List.length_map]; exact (mixF_in (c := c + (0 + (i : Int))) (k := 2) (m := ns.length) (by omega)).2)
      obtain ⟨o1, ho1, rfl⟩ := List.mem_map.mp hx
      refine g_ixL (SqL.of (s3 _ _ hl2)) e ?_
      have o10 := hp _ ho1
      walk_at "go1"
      with_reducible refine g_seqcut (fun σ H' => ∃ (o : Int), 0 ≤ o ∧ σ = [some (.ref l), some (.int c), some (.int m), some (.ref r), some (.int (0 + (i : Int))), some (.int o), v6] ∧ Same H2 H') ?_ ?_
      · intro D' hrt hk
        walk_at "gos"
        refine ⟨_, 3, 9, rfl, by decide, fun H4 s4 => ?_⟩
        walk_at "gos"
        refine g_ite (fun c1 => ?_) (fun c1 => ?_)
        · walk_at "gos"
          refine ⟨by show 3 ≤ sizeLine; decide, fun pl hpl => ?_⟩
          walk_at "gos"
          refine ⟨_, 4, 3, rfl, by decide, fun H5 s5 => ?_⟩
          obtain ⟨y, e5, hy⟩ := at_in (xs := [V.int m, .int (m + 7), .int 999999]) (mixF_in (c := c + (0 + (i : Int))) (k := 4) (m := 3) (by decide)).1 (mixF_in (c := c + (0 + (i : Int))) (k := 4) (m := 3) (by decide)).2
          refine g_ixL (SqL.of (s5 _ _ upd_same)) e5 ?_
          have hy : ∃ z : Int, y = .int z ∧ 0 ≤ z := by
            simp only [List.mem_cons, List.not_mem_nil, or_false] at hy
            rcases hy with rfl | rfl | rfl
            · exact ⟨_, rfl, hm0⟩
            · exact ⟨_, rfl, by omega⟩
            · exact ⟨_, rfl, by decide⟩
          obtain ⟨z, rfl, z0⟩ := hy
          walk_at "gos"
          exact hk _ _ ⟨z, z0, rfl, ((s3.trans s4).trans (Same.new hpl)).trans s5⟩
        · walk_at "gos"
          exact hk _ _ ⟨o1, o10, rfl, s3.trans s4⟩
      rintro σ H4 ⟨o, o0, rfl, s24⟩
      walk_at "gos"
      refine ⟨_, 5, 10, rfl, by decide, fun H5 s5 => ?_⟩
      generalize mixF (c + (0 + (i : Int))) 5 10 = way
      have s25 := s24.trans s5
      have e4 := s25 _ _ e2
      walk_at "gos"
      refine g_ite (fun c3 => ?_) (fun c3 => ?_)
      · walk_at "gos"
        refine ⟨.inl ⟨rfl, _, SqL.of e4⟩, ?_⟩
        walk_at "gos"
        refine ⟨by show 1 ≤ sizeLine; decide, fun t ht => ?_⟩
        walk_at "gos"
        refine g_append ((Same.new ht) _ _ e4) (by omega) ?_
        obtain ⟨us', ds', z⟩ := add H5 t _ .up s25 ht (fun H' e => .up e) rfl
        walk_at "gos"
        exact ⟨_, _, _, us', ds', rfl, z⟩
      · walk_at "gos"
        refine g_ite (fun c5 => ?_) (fun c5 => ?_)
        · walk_at "gos"
          refine ⟨.inl ⟨rfl, _, SqL.of e4⟩, ?_⟩
          walk_at "gos"
          refine ⟨by show 2 ≤ sizeLine; decide, fun t ht => ?_⟩
          walk_at "gos"
          refine g_append ((Same.new ht) _ _ e4) (by omega) ?_
          obtain ⟨us', ds', z⟩ := add H5 t _ (.down o) s25 ht (fun H' e => .down e) (by show decide (o < 0) = false; exact decide_eq_false (by omega))
          walk_at "gos"
          exact ⟨_, _, _, us', ds', rfl, z⟩
        · walk_at "gos"
          refine ⟨.inl ⟨rfl, _, SqL.of e4⟩, ?_⟩
          walk_at "gos"
          refine ⟨_, 6, 4, rfl, by decide, fun H6 s6 => ?_⟩
          have h6 := mixF_in (c := c + (0 + (i : Int))) (k := 6) (m := 4) (by decide)
          walk_at "gos"
          refine ⟨by show 4 ≤ sizeLine; decide, fun t ht => ?_⟩
          walk_at "gos"
          refine g_append ((Same.new ht) _ _ (s6 _ _ e4)) (by omega) ?_
          obtain ⟨us', ds', z⟩ := add H6 t _ (.hang o (mixF (c + (0 + (i : Int))) 6 4) (decide (way < 8))) (s25.trans s6) ht (fun H' e => .hang e) (by show (decide (o < 0) || decide (mixF (c + (0 + (i : Int))) 6 4 < 0)) = false; rw [decide_eq_false (by omega), decide_eq_false (by omega)]; rfl)
          walk_at "gos"
          exact ⟨_, _, _, us', ds', rfl, z⟩
    · rintro σ H2 ⟨v4, v5, v6, us, ds, rfl, f2, e2, lu, pu, ng⟩
      have s2 : Same H H2 := fun b o eb => f2 _ _ (s0 _ _ eb) fun z => by rw [List.mem_singleton.mp z, hr0] at eb; cases eb
      walk_at "gos"
      exact k r us ds H2 hr0 s2 e2 (by omega) pu ng
end
section
variable {P : Program} {w : World} {K : PySem.W.Frag} {mg : Str → Option Value} {base : Heap} {a : Ad}
theorem wkeys5 {H : Hp} {L : LWd} {S : Ch} (h : WSem H L S) : L.A.map (·.1) = S.bs.map (·.1) := keys_eq (fun _ _ k => k.1) h.bs
theorem wpairs5 {H : Hp} {L : LWd} {S : Ch} (h : WSem H L S) : L.R.map (·.1) = S.ps.map (·.1) := keys_eq (fun _ _ k => k.1) h.ps
def CellOk (H : Hp) (M : Addr → Prop) (S : Ch) (v : V) : Option LD → Prop
  | none => ∃ i, v = .int i
  | some d => ∃ t, v = .ref t ∧ LDM H M t d ∧ (S.step d).1 = ""
def spDeedOk : Sp := fun vs H Q _ => ∃ (v : V) (q : Addr) (S : Ch) (O : List Addr) (M : Addr → Prop) (D : Option LD), vs = [v, .ref q] ∧ World5 H q S O ∧ Good S ∧ CellOk H M S v D ∧
  ∀ t d H', Same H H' → LDM H' (fun b => M b ∨ H b = none) t d → (S.step d).1 = "" → (∀ d0, D = some d0 → d = d0) → Q (.ref t) H'
theorem ok_law_deed_by (T : Txt a K mg) : FnOk P w K mg base (CN P w) 3 a.f_law_deed_by a.fd_law_deed_by ["_law_cell", "_law_world_here"] spDeedOk := by
  refine okN T.F_law_deed_by sc_law_deed_by (fun vs H Q E h => ?_) (fun cdv A outer s H vs Q E hr h => ?_)
  · obtain ⟨v, q, S, O, M, D, rfl, _⟩ := h; rfl
  · obtain ⟨v, q, S, O, M, DD, rfl, ⟨L, hW, hS, rfl, htl, x4, ho4⟩, G, hv, k⟩ := h
    have hu := hu_of hr
    have hr1 : Room 1 _ := hr.mono (by decide); have hr2 : Room 2 _ := hr.mono (by decide);
    refine ⟨_, (pss_cons (ps_if (pt_val (pe_callB call_isi (by rfl) T.no_isinstance (by decide +kernel) (pa_cons (pv 0) (pa_cons (pe_bltn (v := .ty "tuple") (by rfl) T.no_tuple (by decide +kernel) rfl) pa_nil)))) (pss_one (ps_ret (pv 0))) pss_nil)
      (pss_cons (ps_set (i := 2) sc_law_deed_by.nd rfl (Or.inl rfl) (pe_callB (call_sortedDI' rfl) (by rfl) T.no_sorted (by decide +kernel) (pa_cons (pe_ix ix_list (pv 1) pe_int (fun _ _ => rfl)) pa_nil)))
      (pss_cons (ps_set (i := 3) sc_law_deed_by.nd rfl (Or.inl rfl) (pe_callB (call_sortedDI' rfl) (by rfl) T.no_sorted (by decide +kernel) (pa_cons (pe_ix ix_list (pv 1) pe_int (fun _ _ => rfl)) pa_nil)))
      (pss_cons (ps_set (i := 4) sc_law_deed_by.nd rfl (Or.inl rfl) (pe_callB (call_sortedDI' rfl) (by rfl) T.no_sorted (by decide +kernel) (pa_cons (pe_ix ix_list (pv 1) pe_int (fun _ _ => rfl)) pa_nil)))
      (pss_cons (ps_set (i := 5) sc_law_deed_by.nd rfl (Or.inl rfl) (pe_call (ok_law_mixed T) hr1 rfl T.mg_law_mixed T.F_law_mixed.kp T.b_law_mixed .nil pass0N (pa_cons (pv 0) (pa_cons pe_int (pa_cons pe_int pa_nil)))))
      (pss_cons (ps_if (PW.pt (pw_or (pt_cmpR op_lt (pe_callB call_lenS (by rfl) T.no_len (by decide +kernel) (pa_cons (pv 2) pa_nil)) pe_int (nomark _)) (pw_or1 (PW.pt (pw_and (pt_cmpR op_lt (pv 5) pe_int (nomark _)) (pw_and1 (pt_cmpR op_lt (pe_callB call_lenS (by rfl) T.no_len (by decide +kernel) (pa_cons (pv 2) pa_nil)) pe_int (nomark _)))))))) (pss_one (ps_ret (pe_tup (pa_cons pe_str (pa_cons (pe_ix ix_list (pe_lst (pa_cons pe_int (pa_cons pe_int (pa_cons pe_int (pa_cons pe_int (pa_cons pe_int (pa_cons pe_int (pa_cons pe_int (pa_cons pe_int pa_nil))))))))) (pe_call (ok_law_mixed T) hr1 rfl T.mg_law_mixed T.F_law_mixed.kp T.b_law_mixed .nil pass0N (pa_cons (pv 0) (pa_cons pe_int (pa_cons pe_int pa_nil)))) (fun _ _ => rfl)) pa_nil))))) pss_nil)
      (pss_cons (ps_set (i := 6) sc_law_deed_by.nd rfl (Or.inl rfl) (pe_ix ix_list (pv 2) (pe_call (ok_law_mixed T) hr1 rfl T.mg_law_mixed T.F_law_mixed.kp T.b_law_mixed .nil pass0N (pa_cons (pv 0) (pa_cons pe_int (pa_cons (pe_callB call_lenS (by rfl) T.no_len (by decide +kernel) (pa_cons (pv 2) pa_nil)) pa_nil)))) (fun _ _ => rfl)))
      (pss_cons (ps_set (i := 7) sc_law_deed_by.nd rfl (Or.inl rfl) (pe_ix ix_list (pv 2) (pe_call (ok_law_mixed T) hr1 rfl T.mg_law_mixed T.F_law_mixed.kp T.b_law_mixed .nil pass0N (pa_cons (pv 0) (pa_cons pe_int (pa_cons (pe_callB call_lenS (by rfl) T.no_len (by decide +kernel) (pa_cons (pv 2) pa_nil)) pa_nil)))) (fun _ _ => rfl)))
      (pss_cons (ps_set (i := 8) sc_law_deed_by.nd rfl (Or.inl rfl) (pe_callB call_lenS (by rfl) T.no_len (by decide +kernel) (pa_cons (pe_dget hu (pe_ix ix_list (pv 1) pe_int (fun _ _ => rfl)) (pv 6) (fun _ _ => rfl)) pa_nil)))
      (pss_cons (ps_if (PW.pt (pw_and (pt_cmpR op_lt (pv 5) pe_int (nomark _)) (pw_and1 (pt_cmpR op_gt (pv 8) pe_int (nomark _))))) (pss_one (ps_ret (pe_tup (pa_cons pe_str (pa_cons (pv 6) (pa_cons (pe_call (ok_law_mixed T) hr1 rfl T.mg_law_mixed T.F_law_mixed.kp T.b_law_mixed .nil pass0N (pa_cons (pv 0) (pa_cons pe_int (pa_cons (pv 8) pa_nil)))) (pa_cons (pv 7) (pa_cons (pe_cmpR op_lt (pv 5) pe_int (nomark _)) pa_nil)))))))) pss_nil)
      (pss_cons (ps_if (PW.pt (pw_and (pt_cmpR op_eq (pv 5) pe_int (nomark _)) (pw_and1 (pt_cmpR op_gt (pv 8) pe_int (nomark _))))) (pss_one (ps_ret (pe_tup (pa_cons pe_str (pa_cons (pv 6) (pa_cons (pe_call (ok_law_mixed T) hr1 rfl T.mg_law_mixed T.F_law_mixed.kp T.b_law_mixed .nil pass0N (pa_cons (pv 0) (pa_cons pe_int (pa_cons (pv 8) pa_nil)))) pa_nil)))))) pss_nil)
      (pss_cons (ps_if (pt_cmpR op_eq (pv 5) pe_int (nomark _)) (pss_one (ps_ret (pe_tup (pa_cons pe_str (pa_cons (pv 6) pa_nil))))) pss_nil)
      (pss_cons (ps_if (PW.pt (pw_and (pt_cmpR op_lt (pv 5) pe_int (nomark _)) (pw_and1 (pt_cmpR op_gt (pe_callB call_lenS (by rfl) T.no_len (by decide +kernel) (pa_cons (pv 3) pa_nil)) pe_int (nomark _))))) (pss_one (ps_ret (pe_tup (pa_cons pe_str (pa_cons (pe_ix ix_list (pv 3) (pe_call (ok_law_mixed T) hr1 rfl T.mg_law_mixed T.F_law_mixed.kp T.b_law_mixed .nil pass0N (pa_cons (pv 0) (pa_cons pe_int (pa_cons (pe_callB call_lenS (by rfl) T.no_len (by decide +kernel) (pa_cons (pv 3) pa_nil)) pa_nil)))) (fun _ _ => rfl)) pa_nil))))) pss_nil)
      (pss_cons (ps_if (PW.pt (pw_and (pt_cmpR op_lt (pv 5) pe_int (nomark _)) (pw_and1 (pt_cmpR op_lt (pe_callB call_lenS (by rfl) T.no_len (by decide +kernel) (pa_cons (pv 4) pa_nil)) pe_int (nomark _))))) (pss_one (ps_ret (pe_tup (pa_cons pe_str (pa_cons (pv 6) (pa_cons (pv 7) (pa_cons (pe_ix ix_list (pv 2) (pe_call (ok_law_mixed T) hr1 rfl T.mg_law_mixed T.F_law_mixed.kp T.b_law_mixed .nil pass0N (pa_cons (pv 0) (pa_cons pe_int (pa_cons (pe_callB call_lenS (by rfl) T.no_len (by decide +kernel) (pa_cons (pv 2) pa_nil)) pa_nil)))) (fun _ _ => rfl)) pa_nil))))))) pss_nil)
      (pss_cons (ps_if (PW.pt (pw_and (pt_cmpR op_eq (pv 5) pe_int (nomark _)) (pw_and1 (pt_cmpR op_gt (pe_callB call_lenS (by rfl) T.no_len (by decide +kernel) (pa_cons (pv 4) pa_nil)) pe_int (nomark _))))) (pss_one (ps_ret (pe_tup (pa_cons pe_str (pa_cons (pe_ix ix_list (pv 4) (pe_call (ok_law_mixed T) hr1 rfl T.mg_law_mixed T.F_law_mixed.kp T.b_law_mixed .nil pass0N (pa_cons (pv 0) (pa_cons pe_int (pa_cons (pe_callB call_lenS (by rfl) T.no_len (by decide +kernel) (pa_cons (pv 4) pa_nil)) pa_nil)))) (fun _ _ => rfl)) pa_nil))))) pss_nil)
      (pss_cons (ps_if (pt_cmpR op_eq (pv 5) pe_int (nomark _)) (pss_one (ps_ret (pe_tup (pa_cons pe_str (pa_cons (pv 6) (pa_cons (pe_lst pa_nil) pa_nil)))))) pss_nil)
      (pss_one (ps_ret (pe_tup (pa_cons pe_str (pa_cons (pv 6) (pa_cons (pe_call (ok_law_will_of T) hr2 rfl T.mg_law_will_of T.F_law_will_of.kp T.b_law_will_of .nil pass0N (pa_cons (pv 2) (pa_cons (pv 0) (pa_cons (pe_ix ix_list (pe_ix ix_list (pv 1) pe_int (fun _ _ => rfl)) pe_int (fun _ _ => rfl)) pa_nil)))) pa_nil)))))))))))))))))))))), ?_⟩
    try dsimp only [cxOf]
    cases DD with
    | none =>
      obtain ⟨c, rfl⟩ := hv
      have hq := hW.ob
      rw [htl] at hq
      have h0 := hW.e0
      have h1 := hW.e1
      have h2 := hW.e2
      have h4 := hW.e4
      rw [ho4] at h4
      have eA := wkeys5 hS
      have eR := wpairs5 hS
      walk_at "gos"
      refine g_isiI (TyOf.int c) (kit_ty (r := false) (by decide +kernel)) ?_
      walk_at "gos"
      refine ⟨_, _, L.A.map (·.1), rfl, .inl h0, kvA_keys _, (by rw [List.length_map]; have := hW.zA.1; omega), fun ys1 r1 pm1 srt1 hr1 => ?_⟩
      rw [perm_sorted pm1 srt1 hW.kA, eA]
      have n1 := Same.new (o := HO.lst ((S.bs.map (·.1)).map V.int)) hr1
      have hlen : L.h.length ≤ 60 := by
        have := nodup_len hW.kh hW.hA
        rw [List.length_map] at this
        exact Nat.le_trans this hW.zA.1
      walk_at "gos"
      refine ⟨_, _, L.h, rfl, .inl (n1 _ _ h1), kvH_keys _, by omega, fun hs r2 pm2 srt2 hr2 => ?_⟩
      have n2 := Same.new (o := HO.lst (hs.map V.int)) hr2
      walk_at "gos"
      refine ⟨_, _, L.R.map (·.1), rfl, .inl (n2 _ _ (n1 _ _ h2)), kvR_keys _, (by rw [List.length_map]; have := hW.zR; omega), fun ys3 r3 pm3 srt3 hr3 => ?_⟩
      rw [perm_sorted pm3 srt3 hW.kR, eR]
      have n3 := Same.new (o := HO.lst ((S.ps.map (·.1)).map V.int)) hr3
      have s3 := (n1.trans n2).trans n3
      have eb := (n2.trans n3) _ _ (upd_same (H := H) (a := r1) (o := HO.lst ((S.bs.map (·.1)).map V.int)))
      have eh := n3 _ _ (upd_same (H := upd H r1 (.lst ((S.bs.map (·.1)).map V.int))) (a := r2) (o := HO.lst (hs.map V.int)))
      have ep := upd_same (H := upd (upd H r1 (.lst ((S.bs.map (·.1)).map V.int))) r2 (.lst (hs.map V.int))) (a := r3) (o := HO.lst ((S.ps.map (·.1)).map V.int))
      obtain ⟨H3, e3⟩ : ∃ H3, upd (upd (upd H r1 (.lst ((S.bs.map (·.1)).map V.int))) r2 (.lst (hs.map V.int))) r3 (.lst ((S.ps.map (·.1)).map V.int)) = H3 := ⟨_, rfl⟩
      rw [e3] at s3 eb eh ep ⊢
      clear e3 n1 n2 n3 hr1 hr2 hr3
      walk_at "gos"
      refine ⟨c, 9, 25, rfl, by decide, fun H4 s4 => ?_⟩
      generalize mixF c 9 25 = way
      have eb := s4 _ _ eb
      have eh := s4 _ _ eh
      have ep := s4 _ _ ep
      have s4 := s3.trans s4
      clear s3
      have hq4 := s4 _ _ hq
      have h04 := s4 _ _ h0
      have h44 := s4 _ _ h4
      have one : ∀ (H6 : Hp) (t : Addr) (d : LD) (xs : List V), Same H H6 → H6 t = none → (∀ H', H' t = some (.tup xs) → LDAt H' t d) → (∀ x b l, xs ≠ [x, b, .ref l]) → (S.step d).1 = "" → Q (.ref t) (upd H6 t (.tup xs)) := by
        intro H6 t d xs s6 ht hd hx hok
        refine k t d _ (s6.trans (Same.new ht)) ⟨hd _ upd_same, fun x b l e => ?_⟩ hok (fun _ e => nomatch e)
        rw [upd_same] at e
        exact absurd (HO.tup.inj (Option.some.inj e)) (hx x b l)
      -- a number of the list of boxes
      have pick : ∀ (H6 : Hp) (j : Int) (D : VK), Same H4 H6 → 0 ≤ j ∧ j < S.bs.length → (∀ n x, S.get n = some x → D (.int n) H6) → rIxL K (.ref r1) (.int j) H6 D := by
        intro H6 j D s6 hj kd
        obtain ⟨v, e, hv⟩ := at_in (xs := (S.bs.map (·.1)).map V.int) hj.1 (by rw [List.length_map, List.length_map]; exact hj.2)
        obtain ⟨n, hn, rfl⟩ := List.mem_map.mp hv
        obtain ⟨⟨n', x⟩, hx, rfl⟩ := List.mem_map.mp hn
        exact g_ixL (SqL.of (s6 _ _ eb)) e (kd _ x (G.get hx))
      have makes : S.bs.length < 60 → ∀ (H6 : Hp) (pl : Addr) (i : Int) (D : VK), H6 pl = some (.lst [.int 1, .int 2, .int 3, .int 2, .int 1, .int 9, .int 0, .int 4]) → 0 ≤ i ∧ i < 8 → (∀ z, (S.step (.make z)).1 = "" → D (.int z) H6) → rIxL K (.ref pl) (.int i) H6 D := by
        intro l60 H6 pl i D e6 hi kd
        obtain ⟨v, e, hv⟩ := at_in (xs := [V.int 1, .int 2, .int 3, .int 2, .int 1, .int 9, .int 0, .int 4]) hi.1 hi.2
        refine g_ixL (SqL.of e6) e ?_
        simp only [List.mem_cons, List.not_mem_nil, or_false] at hv
        rcases hv with rfl | rfl | rfl | rfl | rfl | rfl | rfl | rfl <;> exact kd _ (ok_make (by decide) (by decide) l60)
      walk_at "go1"
      with_reducible refine g_seqcut (fun σ H' => σ = [some (.int c), some (.ref q), some (.ref r1), some (.ref r2), some (.ref r3), some (.int way), none, none, none] ∧ H4 = H' ∧ 2 ≤ S.bs.length) ?_ ?_
      · intro D' hrt hk
        have mk : S.bs.length < 60 → ∀ (H6 : Hp) (pl : Addr), Same H4 H6 → H6 pl = some (.lst [.int 1, .int 2, .int 3, .int 2, .int 1, .int 9, .int 0, .int 4]) → rIxL K (.ref pl) (.int (mixF c 4 8)) H6 fun x H7 => ([V.str "make", x].length ≤ sizeLine ∧ ∀ p, H7 p = none → D'.rt (.ref p) (upd H7 p (.tup [.str "make", x]))) := by
          intro l60 H6 pl s6 e6
          refine makes l60 H6 pl _ _ e6 (mixF_in (by decide)) fun z hz => ⟨by show 2 ≤ sizeLine; decide, fun t ht => ?_⟩
          rw [hrt]
          exact one H6 t (.make z) _ (s4.trans s6) ht (fun _ e => e) (fun _ _ _ e => nomatch e) hz
        walk_at "gos"
        refine g_lenL (SqL.of eb) ?_
        rw [List.length_map, List.length_map]
        walk_at "gos"
        refine g_ite (fun c1 => ?_) (fun c1 => ?_)
        · walk_at "gos"
          refine ⟨by show 8 ≤ sizeLine; decide, fun pl hpl => ?_⟩
          walk_at "gos"
          refine ⟨c, 4, 8, rfl, by decide, fun H6 s6 => ?_⟩
          exact mk (by omega) H6 pl ((Same.new hpl).trans s6) (s6 _ _ upd_same)
        walk_at "gos"
        refine g_ite (fun c2 => ?_) (fun c2 => ?_)
        · walk_at "gos"
          refine g_lenL (SqL.of eb) ?_
          rw [List.length_map, List.length_map]
          walk_at "gos"
          refine g_ite (fun c3 => ?_) (fun c3 => ?_)
          · walk_at "gos"
            refine ⟨by show 8 ≤ sizeLine; decide, fun pl hpl => ?_⟩
            walk_at "gos"
            refine ⟨c, 4, 8, rfl, by decide, fun H6 s6 => ?_⟩
            exact mk (by omega) H6 pl ((Same.new hpl).trans s6) (s6 _ _ upd_same)
          · walk_at "gos"
            exact hk _ _ ⟨rfl, rfl, by omega⟩
        · walk_at "gos"
          exact hk _ _ ⟨rfl, rfl, by omega⟩
      rintro σ H5 ⟨rfl, rfl, l2⟩
      walk_at "gos"
      refine g_lenL (SqL.of eb) ?_
      rw [List.length_map, List.length_map]
      refine ⟨c, 0, _, rfl, by omega, fun H5 s5 => ?_⟩
      refine pick H5 _ _ s5 (mixF_in (by omega)) fun box y ey => ?_
      walk_at "gos"
      refine g_lenL (SqL.of (s5 _ _ eb)) ?_
      rw [List.length_map, List.length_map]
      refine ⟨c, 1, _, rfl, by omega, fun H6 s6 => ?_⟩
      have s56 := s5.trans s6
      refine pick H6 _ _ s56 (mixF_in (by omega)) fun other yo eyo => ?_
      have neo : S.get other ≠ none := by rw [eyo]; exact fun z => nomatch z
      have neb : S.get box ≠ none := by rw [ey]; exact fun z => nomatch z
      have hq6 := s56 _ _ hq4
      have h06 := s56 _ _ h04
      have eb := s56 _ _ eb
      have eh := s56 _ _ eh
      have ep := s56 _ _ ep
      have h46 := s56 _ _ h44
      have s06 := s4.trans s56
      have pick : ∀ (H7 : Hp) (j : Int) (D : VK), Same H6 H7 → 0 ≤ j ∧ j < S.bs.length → (∀ n x, S.get n = some x → D (.int n) H7) → rIxL K (.ref r1) (.int j) H7 D := fun H7 j D s7 => pick H7 j D (s56.trans s7)
      clear s4 s5 s6 s56 hq4 h04 h44
      cases el : L.A.lookup box with
      | none => rw [(hS.lk box).1.mp el] at ey; cases ey
      | some lv =>
        obtain ⟨l, vs⟩ := lv
        obtain ⟨y2, ey2, py⟩ := (hS.lk box).2 _ el
        rw [ey] at ey2; cases ey2
        have len : (vs.length : Int) = y.sl.length := by rw [py.length]
        have hl6 := s06 _ _ (hW.sA _ (lk_mem el))
        try dsimp only at hl6
        walk_at "gos"
        refine ⟨_, _, rfl, by rw [← kvA_some el]; exact DGet.k (k := Sum.inl box) h06, ?_⟩
        walk_at "gos"
        refine g_lenL (SqL.of hl6) ?_
        rw [len]
        walk_at "go1"
        with_reducible refine g_seqcut (fun σ H' => σ = [some (.int c), some (.ref q), some (.ref r1), some (.ref r2), some (.ref r3), some (.int way), some (.int box), some (.int other), some (.int (y.sl.length : Int))] ∧ H6 = H') ?_ ?_
        · intro D' hrt hk
          walk_at "gos"
          refine g_ite (fun c1 => ?_) (fun c1 => ?_)
          · walk_at "gos"
            refine g_ite (fun c2 => ?_) (fun c2 => ?_)
            · walk_at "gos"
              refine ⟨c, 10, _, rfl, by omega, fun H7 s7 => ?_⟩
              have hm := mixF_in (c := c) (k := 10) (m := (y.sl.length : Int)) (by omega)
              walk_at "gos"
              refine ⟨by show 5 ≤ sizeLine; decide, fun t ht => ?_⟩
              rw [hrt]
              exact one H7 t (.put box (mixF c 10 (y.sl.length : Int)) other (decide (way < 10))) _ (s06.trans s7) ht (fun _ e => e) (fun _ _ _ e => nomatch e) (ok_put ey hm.1 hm.2 neo)
            · walk_at "gos"
              exact hk _ _ ⟨rfl, rfl⟩
          · walk_at "gos"
            exact hk _ _ ⟨rfl, rfl⟩
        rintro σ H7 ⟨rfl, rfl⟩
        with_reducible refine g_seqcut (fun σ H' => σ = [some (.int c), some (.ref q), some (.ref r1), some (.ref r2), some (.ref r3), some (.int way), some (.int box), some (.int other), some (.int (y.sl.length : Int))] ∧ H6 = H') ?_ ?_
        · intro D' hrt hk
          walk_at "gos"
          refine g_ite (fun c1 => ?_) (fun c1 => ?_)
          · walk_at "gos"
            refine g_ite (fun c2 => ?_) (fun c2 => ?_)
            · walk_at "gos"
              refine ⟨c, 10, _, rfl, by omega, fun H7 s7 => ?_⟩
              have hm := mixF_in (c := c) (k := 10) (m := (y.sl.length : Int)) (by omega)
              walk_at "gos"
              refine ⟨by show 3 ≤ sizeLine; decide, fun t ht => ?_⟩
              rw [hrt]
              exact one H7 t (.empty box (mixF c 10 (y.sl.length : Int))) _ (s06.trans s7) ht (fun _ e => e) (fun _ _ _ e => nomatch e) (ok_empty ey hm.1 hm.2)
            · walk_at "gos"
              exact hk _ _ ⟨rfl, rfl⟩
          · walk_at "gos"
            exact hk _ _ ⟨rfl, rfl⟩
        rintro σ H7 ⟨rfl, rfl⟩
        with_reducible refine g_seqcut (fun σ H' => σ = [some (.int c), some (.ref q), some (.ref r1), some (.ref r2), some (.ref r3), some (.int way), some (.int box), some (.int other), some (.int (y.sl.length : Int))] ∧ H6 = H') ?_ ?_
        · intro D' hrt hk
          walk_at "gos"
          refine g_ite (fun c1 => ?_) (fun c1 => ?_)
          · walk_at "gos"
            refine ⟨by show 2 ≤ sizeLine; decide, fun t ht => ?_⟩
            rw [hrt]
            exact one H6 t (.take box) _ s06 ht (fun _ e => e) (fun _ _ _ e => nomatch e) (ok_take neb)
          · walk_at "gos"
            exact hk _ _ ⟨rfl, rfl⟩
        rintro σ H7 ⟨rfl, rfl⟩
        with_reducible refine g_seqcut (fun σ H' => σ = [some (.int c), some (.ref q), some (.ref r1), some (.ref r2), some (.ref r3), some (.int way), some (.int box), some (.int other), some (.int (y.sl.length : Int))] ∧ H6 = H') ?_ ?_
        · intro D' hrt hk
          walk_at "gos"
          refine g_ite (fun c1 => ?_) (fun c1 => ?_)
          · walk_at "gos"
            refine g_lenL (SqL.of eh) ?_
            rw [List.length_map]
            walk_at "gos"
            refine g_ite (fun c2 => ?_) (fun c2 => ?_)
            · walk_at "gos"
              refine g_lenL (SqL.of eh) ?_
              rw [List.length_map]
              refine ⟨c, 2, _, rfl, by omega, fun H7 s7 => ?_⟩
              obtain ⟨v, e, hv⟩ := at_in (xs := hs.map V.int) (mixF_in (c := c) (k := 2) (m := (hs.length : Int)) (by omega)).1 (by rw [List.length_map]; exact (mixF_in (c := c) (k := 2) (m := (hs.length : Int)) (by omega)).2)
              obtain ⟨n, hn, rfl⟩ := List.mem_map.mp hv
              refine g_ixL (SqL.of (s7 _ _ eh)) e ?_
              obtain ⟨yh, eyh, hyh⟩ := (hS.hs n).mp (pm2.mem_iff.mp hn)
              walk_at "gos"
              refine ⟨by show 2 ≤ sizeLine; decide, fun t ht => ?_⟩
              rw [hrt]
              exact one H7 t (.drop n) _ (s06.trans s7) ht (fun _ e => e) (fun _ _ _ e => nomatch e) (ok_drop eyh hyh)
            · walk_at "gos"
              exact hk _ _ ⟨rfl, rfl⟩
          · walk_at "gos"
            exact hk _ _ ⟨rfl, rfl⟩
        rintro σ H7 ⟨rfl, rfl⟩
        with_reducible refine g_seqcut (fun σ H' => σ = [some (.int c), some (.ref q), some (.ref r1), some (.ref r2), some (.ref r3), some (.int way), some (.int box), some (.int other), some (.int (y.sl.length : Int))] ∧ H6 = H') ?_ ?_
        · intro D' hrt hk
          walk_at "gos"
          refine g_ite (fun c1 => ?_) (fun c1 => ?_)
          · walk_at "gos"
            refine g_lenL (SqL.of ep) ?_
            rw [List.length_map, List.length_map]
            walk_at "gos"
            refine g_ite (fun c2 => ?_) (fun c2 => ?_)
            · walk_at "gos"
              refine g_lenL (SqL.of eb) ?_
              rw [List.length_map, List.length_map]
              refine ⟨c, 3, _, rfl, by omega, fun H7 s7 => ?_⟩
              refine pick H7 _ _ s7 (mixF_in (by omega)) fun third y3 ey3 => ?_
              walk_at "gos"
              refine ⟨by show 4 ≤ sizeLine; decide, fun t ht => ?_⟩
              rw [hrt]
              exact one H7 t (.pair box other third) _ (s06.trans s7) ht (fun _ e => e) (fun _ _ _ e => nomatch e) (ok_pair neb neo (by rw [ey3]; exact fun z => nomatch z) (by omega))
            · walk_at "gos"
              exact hk _ _ ⟨rfl, rfl⟩
          · walk_at "gos"
            exact hk _ _ ⟨rfl, rfl⟩
        rintro σ H7 ⟨rfl, rfl⟩
        with_reducible refine g_seqcut (fun σ H' => σ = [some (.int c), some (.ref q), some (.ref r1), some (.ref r2), some (.ref r3), some (.int way), some (.int box), some (.int other), some (.int (y.sl.length : Int))] ∧ H6 = H') ?_ ?_
        · intro D' hrt hk
          walk_at "gos"
          refine g_ite (fun c1 => ?_) (fun c1 => ?_)
          · walk_at "gos"
            refine g_lenL (SqL.of ep) ?_
            rw [List.length_map, List.length_map]
            walk_at "gos"
            refine g_ite (fun c2 => ?_) (fun c2 => ?_)
            · walk_at "gos"
              refine g_lenL (SqL.of ep) ?_
              rw [List.length_map, List.length_map]
              refine ⟨c, 5, _, rfl, by omega, fun H7 s7 => ?_⟩
              obtain ⟨v, e, hv⟩ := at_in (xs := (S.ps.map (·.1)).map V.int) (mixF_in (c := c) (k := 5) (m := (S.ps.length : Int)) (by omega)).1 (by rw [List.length_map, List.length_map]; exact (mixF_in (c := c) (k := 5) (m := (S.ps.length : Int)) (by omega)).2)
              obtain ⟨n, hn, rfl⟩ := List.mem_map.mp hv
              obtain ⟨⟨n', x⟩, hx, rfl⟩ := List.mem_map.mp hn
              refine g_ixL (SqL.of (s7 _ _ ep)) e ?_
              walk_at "gos"
              refine ⟨by show 2 ≤ sizeLine; decide, fun t ht => ?_⟩
              rw [hrt]
              exact one H7 t (.unpair n') _ (s06.trans s7) ht (fun _ e => e) (fun _ _ _ e => nomatch e) (ok_unpair (by rw [lk_of_mem G.kp hx]; exact fun z => nomatch z))
            · walk_at "gos"
              exact hk _ _ ⟨rfl, rfl⟩
          · walk_at "gos"
            exact hk _ _ ⟨rfl, rfl⟩
        rintro σ H7 ⟨rfl, rfl⟩
        with_reducible refine g_seqcut (fun σ H' => σ = [some (.int c), some (.ref q), some (.ref r1), some (.ref r2), some (.ref r3), some (.int way), some (.int box), some (.int other), some (.int (y.sl.length : Int))] ∧ H6 = H') ?_ ?_
        · intro D' hrt hk
          walk_at "gos"
          refine g_ite (fun c1 => ?_) (fun c1 => ?_)
          · walk_at "gos"
            refine ⟨by decide, fun r hr0 => ?_⟩
            have nr := Same.new (o := HO.lst []) hr0
            walk_at "gos"
            refine ⟨by show 3 ≤ sizeLine; decide, fun t ht => ?_⟩
            have nt := Same.new (o := HO.tup [.str "bequeath", .int box, .ref r]) ht
            rw [hrt]
            refine k t (.will box []) _ ((s06.trans nr).trans nt) ⟨⟨r, [], upd_same, nt _ _ upd_same, by show 0 ≤ 1000; decide, .nil⟩, fun x b l3 e => ?_⟩ (ok_will neb (Nat.zero_le _) rfl) (fun _ e => nomatch e)
            rw [upd_same] at e
            cases e
            exact .inr (same_free s06 hr0)
          · walk_at "gos"
            exact hk _ _ ⟨rfl, rfl⟩
        rintro σ H7 ⟨rfl, rfl⟩
        walk_at "gos"
        refine ⟨r1, S.bs.map (·.1), c, L.nb, rfl, eb, by rw [List.length_map]; omega, fun n hn => ?_, hW.nn.1, fun r us ds H7 hr7 s7 er lu pu ng => ?_⟩
        · obtain ⟨e, he, rfl⟩ := List.mem_map.mp hn
          exact (G.lb e he).1
        walk_at "gos"
        refine ⟨by show 3 ≤ sizeLine; decide, fun t ht => ?_⟩
        have nt := Same.new (o := HO.tup [.str "bequeath", .int box, .ref r]) ht
        refine k t (.will box ds) _ ((s06.trans s7).trans nt) ⟨⟨r, us, upd_same, nt _ _ er, by omega, L2.Paired.mapP pu fun _ _ h => h.keep fun t xs e => nt _ _ e⟩, fun x b l3 e => ?_⟩ (ok_will neb (by rw [← pu.length]; omega) ng) (fun _ e => nomatch e)
        rw [upd_same] at e
        cases e
        exact .inr (same_free s06 hr7)
    | some d =>
      obtain ⟨t, rfl, hd, hok⟩ := hv
      obtain ⟨xs, ex⟩ := hd.1.tup
      walk_at "gos"
      refine g_isiI (TyOf.tup ex) (kit_ty (r := true) (by decide +kernel)) ?_
      walk_at "gos"
      exact k t d H (Same.refl _) (hd.mono fun l h => .inl h) hok (fun _ e => Option.some.inj e)
end
section
variable {P : Program} {w : World} {K : PySem.W.Frag} {mg : Str → Option Value} {base : Heap} {a : Ad}
/-! ### the deeds that are laid -/
def willL (many b way : Int) : List Deed := if way % 3 = 0 then [.hang ((b + 2).fmod many) 0 (decide (way > 1))] else if way % 3 = 1 then [.up] else [.down 0]
def boxL (far many step b : Int) : List LD :=
  (if mixF far b 5 = 1 then .pair (mixF far (b + 1) 2 * (many - 1)) b ((b + step).fmod many) else .put b (mixF far (b + 2) 3) ((b + step).fmod many) (decide (mixF far b 5 > 0))) ::
  (if mixF far (b + 3) 2 = 1 then [.will b (willL many b (mixF far b 5))] else [])
def dropL (far b : Int) : List LD := if mixF far (b + 4) 6 > 0 then [.drop b] else []
def manyL (far : Int) : Int := if far / 9 % 6 = 1 then 50 + far / 54 % 11 else 3 + far % 9
def stepL (far : Int) : Int := if far / 54 % 4 = 0 then 1 else if far / 54 % 4 = 1 then -1 else if far / 54 % 4 = 2 then 2 else manyL far - 1
def tailL (far many : Int) : List LD := if far / 9 % 6 = 2 then [.make 1, .make 2, .make 1, .pair many (many + 1) (many + 2), .will (many + 1) [.up, .down many], .drop (many + 1), .drop (many + 2), .put (many + 1) 0 many (decide (far / 54 % 2 = 1))] else []
def rngL (n : Nat) : List Int := (List.range n).map fun i => ((i : Nat) : Int)
def laidF (far : Int) : List LD := List.replicate (manyL far).toNat (.make 3) ++ (rngL (manyL far).toNat).flatMap (boxL far (manyL far) (stepL far)) ++ (rngL (manyL far).toNat).flatMap (dropL far) ++ tailL far (manyL far)
theorem rngL_succ (n : Nat) : rngL (n + 1) = rngL n ++ [(n : Int)] := by unfold rngL; rw [List.range_succ, List.map_append]; rfl
/-- a deed in a list -/
def LDV (M : Addr → Prop) (H : Hp) (v : V) (d : LD) : Prop := ∃ t, v = .ref t ∧ LDM H M t d
theorem LDV.same {H H' : Hp} {M : Addr → Prop} {v : V} {d : LD} (s : Same H H') (h : LDV M H v d) : LDV M H' v d := by
  obtain ⟨t, e, h⟩ := h
  exact ⟨t, e, h.same s⟩
theorem ldv_snoc {H1 H2 : Hp} {D t : Addr} {M : Addr → Prop} {us : List V} {ds : List LD} (pu : Paired (LDV M H1) us ds) (s : Same H1 H2) (e2 : H2 D = some (.lst us)) (nD : ¬ M D) (d : LD) (hd : LDAt H2 t d) (hM : ∀ x b l, H2 t = some (.tup [x, b, .ref l]) → M l) :
    Paired (LDV M (upd H2 D (.lst (us ++ [.ref t])))) (us ++ [.ref t]) (ds ++ [d]) := by
  have tp : Tups H2 (upd H2 D (.lst (us ++ [.ref t]))) := fun b xs z => by rw [upd_ne (fun c => by rw [c, e2] at z; cases z)]; exact z
  have fr : Fr [D] H2 (upd H2 D (.lst (us ++ [.ref t]))) := Fr.upd (List.mem_singleton.mpr rfl)
  have n : ∀ l, M l → l ∉ [D] := fun l m z => nD (List.mem_singleton.mp z ▸ m)
  refine Paired.snoc (L2.Paired.mapP pu ?_) ⟨t, rfl, LDM.fr ⟨hd, hM⟩ fr tp n⟩
  rintro v d ⟨t2, rfl, h⟩
  exact ⟨t2, rfl, (h.same s).fr fr tp n⟩
theorem wills_at {H6 : Hp} {t1 l1 t2 l2 t3 l3 pl : Addr} {x1 x2 x3 : List V} (ht1 : H6 t1 = none) (hl1 : upd H6 t1 (.tup x1) l1 = none) (ht2 : upd (upd H6 t1 (.tup x1)) l1 (.lst [.ref t1]) t2 = none)
    (hl2 : upd (upd (upd H6 t1 (.tup x1)) l1 (.lst [.ref t1])) t2 (.tup x2) l2 = none) (ht3 : upd (upd (upd (upd H6 t1 (.tup x1)) l1 (.lst [.ref t1])) t2 (.tup x2)) l2 (.lst [.ref t2]) t3 = none)
    (hl3 : upd (upd (upd (upd (upd H6 t1 (.tup x1)) l1 (.lst [.ref t1])) t2 (.tup x2)) l2 (.lst [.ref t2])) t3 (.tup x3) l3 = none) (hpl : upd (upd (upd (upd (upd (upd H6 t1 (.tup x1)) l1 (.lst [.ref t1])) t2 (.tup x2)) l2 (.lst [.ref t2])) t3 (.tup x3)) l3 (.lst [.ref t3]) pl = none) :
    ∃ H7, upd (upd (upd (upd (upd (upd (upd H6 t1 (.tup x1)) l1 (.lst [.ref t1])) t2 (.tup x2)) l2 (.lst [.ref t2])) t3 (.tup x3)) l3 (.lst [.ref t3])) pl (.lst [.ref l1, .ref l2, .ref l3]) = H7 ∧ Same H6 H7 ∧ H7 t1 = some (.tup x1) ∧ H7 l1 = some (.lst [.ref t1]) ∧
      H7 t2 = some (.tup x2) ∧ H7 l2 = some (.lst [.ref t2]) ∧ H7 t3 = some (.tup x3) ∧ H7 l3 = some (.lst [.ref t3]) ∧ H7 pl = some (.lst [.ref l1, .ref l2, .ref l3]) ∧ H6 l1 = none ∧ H6 l2 = none ∧ H6 l3 = none := by
  have u1 := none_upd hl1
  have u2 := none_upd ht2
  have u3 := none_upd hl2
  have u4 := none_upd ht3
  have u5 := none_upd hl3
  have u6 := none_upd hpl
  have v3 := none_upd u3.2
  have v5 := none_upd u5.2
  refine ⟨_, rfl, ((((((Same.new ht1).trans (Same.new hl1)).trans (Same.new ht2)).trans (Same.new hl2)).trans (Same.new ht3)).trans (Same.new hl3)).trans (Same.new hpl), by walk_at "hl", by walk_at "hl", by walk_at "hl", by walk_at "hl", by walk_at "hl", by walk_at "hl", upd_same, u1.2, (none_upd v3.2).2, (none_upd (none_upd (none_upd v5.2).2).2).2⟩
theorem g_append1 {H : Hp} {Q : VK} {v : V} {l : Addr} {xs : List V} (e : H l = some (.lst xs)) (z : xs.length ≤ 1001) (h : Q .non (upd H l (.lst (xs ++ [v])))) : rAppend (.ref l) [v] H Q := ⟨l, xs, v, rfl, rfl, e, Nat.lt_of_le_of_lt z (by decide), h⟩
theorem len_flat {f : Int → List LD} {c : Nat} (h : ∀ x, (f x).length ≤ c) : ∀ l : List Int, (l.flatMap f).length ≤ c * l.length
  | [] => Nat.zero_le _
  | x :: l => by
    rw [List.flatMap_cons, List.length_append, List.length_cons, Nat.mul_add, Nat.mul_one]
    have := h x
    have := len_flat h l
    omega
theorem boxL_len (far many step b : Int) : (boxL far many step b).length ≤ 2 := by
  unfold boxL
  split <;> split <;> simp
theorem dropL_len (far b : Int) : (dropL far b).length ≤ 1 := by
  unfold dropL
  split <;> simp
theorem rngL_len (n : Nat) : (rngL n).length = n := by unfold rngL; simp
theorem ldv_new {H : Hp} {t : Addr} {M : Addr → Prop} {d : LD} {xs : List V} (hd : ∀ H' : Hp, H' t = some (.tup xs) → LDAt H' t d) (hx : ∀ x b l, xs ≠ [x, b, .ref l]) : LDV M (upd H t (.tup xs)) (.ref t) d :=
  ⟨t, rfl, hd _ upd_same, fun x b l e => by rw [upd_same] at e; exact absurd (HO.tup.inj (Option.some.inj e)) (hx x b l)⟩
theorem paired_app {α β : Type} {R : α → β → Prop} : ∀ {l1 : List α} {m1 : List β} {l2 : List α} {m2 : List β}, Paired R l1 m1 → Paired R l2 m2 → Paired R (l1 ++ l2) (m1 ++ m2)
  | _, _, _, _, .nil, h => h
  | _, _, _, _, .cons f r, h => .cons f (paired_app r h)
def spLaid : Sp := fun vs H Q _ => ∃ far : Int, vs = [.int far] ∧ ∀ r us H', H r = none → Same H H' → H' r = some (.lst us) → Paired (LDV (fun b => H b = none) H') us (laidF far) → Q (.ref r) H'
theorem ok_law_laid (T : Txt a K mg) : FnOk P w K mg base (CN P w) 2 a.f_law_laid a.fd_law_laid ["_law_far"] spLaid := by
  refine okN T.F_law_laid sc_law_laid (fun vs H Q E h => ?_) (fun cdv A outer s H vs Q E hr h => ?_)
  · obtain ⟨far, rfl, _⟩ := h; rfl
  · obtain ⟨far, rfl, k⟩ := h
    have hr1 : Room 1 _ := hr.mono (by decide);
    refine ⟨_, (pss_cons (ps_set (i := 1) sc_law_laid.nd rfl (Or.inl rfl) (pe_op op_add pe_int (pe_op op_mod (pv 0) pe_int)))
      (pss_cons (ps_if (pt_cmpR op_eq (pe_op op_mod (pe_op op_fdiv (pv 0) pe_int) pe_int) pe_int (nomark _)) (pss_one (ps_set (i := 1) sc_law_laid.nd rfl (Or.inl rfl) (pe_op op_add pe_int (pe_op op_mod (pe_op op_fdiv (pv 0) pe_int) pe_int)))) pss_nil)
      (pss_cons (ps_setLc (i := 2) (own := [("_law_box", 4)]) (g := gName 4) (tt := tYes) (te := (tTup (tCons (tC (.str "make")) (tCons (tC (.int 3)) tNil)))) (by rfl) sc_law_laid.nd rfl rfl (sw_true rfl rfl rfl (by decide +kernel)) (pi_range1 (by rfl) T.no_range (pa_cons (pv 1) pa_nil)) (blkOk_by (own := [("_law_box", 4)]) (N := N_law_laid) (sc := defScope s_law_laid) (by decide +kernel)) (fun _ _ _ _ _ => (pg_name (i := 4) sc_law_laid.nd rfl (Or.inl rfl))) (fun _ _ _ _ _ => pts_nil) (fun _ _ _ _ _ => (pe_tup (pa_cons pe_str (pa_cons pe_int pa_nil)))))
      (pss_cons (ps_set (i := 3) sc_law_laid.nd rfl (Or.inl rfl) (pe_ix ix_list (pe_lst (pa_cons pe_int (pa_cons (pe_un un_neg pe_int) (pa_cons pe_int (pa_cons (pe_op op_sub (pv 1) pe_int) pa_nil))))) (pe_op op_mod (pe_op op_fdiv (pv 0) pe_int) pe_int) (fun _ _ => rfl)))
      (pss_cons (ps_for PassesOwn.leaving rfl (pi_range1 (by rfl) T.no_range (pa_cons (pv 1) pa_nil)) (pg_name (i := 4) sc_law_laid.nd rfl (Or.inl rfl))
      (pss_cons (ps_set (i := 5) sc_law_laid.nd rfl (Or.inl rfl) (pe_op op_modN (pe_op op_add (pv 4) (pv 3)) (pv 1)))
      (pss_cons (ps_set (i := 6) sc_law_laid.nd rfl (Or.inl rfl) (pe_call (ok_law_mixed T) hr1 rfl T.mg_law_mixed T.F_law_mixed.kp T.b_law_mixed .nil pass0N (pa_cons (pv 0) (pa_cons (pv 4) (pa_cons pe_int pa_nil)))))
      (pss_cons (ps_if (pt_cmpR op_eq (pv 6) pe_int (nomark _)) (pss_one (ps_expr (pe_bm PySem.F.plainAttrs_list PySem.F.slot_list_append PySem.F.type_list_append mt_append (pv 2) (pa_cons (pe_tup (pa_cons pe_str (pa_cons (pe_op op_mul (pe_call (ok_law_mixed T) hr1 rfl T.mg_law_mixed T.F_law_mixed.kp T.b_law_mixed .nil pass0N (pa_cons (pv 0) (pa_cons (pe_op op_add (pv 4) pe_int) (pa_cons pe_int pa_nil)))) (pe_op op_sub (pv 1) pe_int)) (pa_cons (pv 4) (pa_cons (pv 5) pa_nil))))) pa_nil)))) (pss_one (ps_expr (pe_bm PySem.F.plainAttrs_list PySem.F.slot_list_append PySem.F.type_list_append mt_append (pv 2) (pa_cons (pe_tup (pa_cons pe_str (pa_cons (pv 4) (pa_cons (pe_call (ok_law_mixed T) hr1 rfl T.mg_law_mixed T.F_law_mixed.kp T.b_law_mixed .nil pass0N (pa_cons (pv 0) (pa_cons (pe_op op_add (pv 4) pe_int) (pa_cons pe_int pa_nil)))) (pa_cons (pv 5) (pa_cons (pe_cmpR op_gt (pv 6) pe_int (nomark _)) pa_nil)))))) pa_nil)))))
      (pss_one (ps_if (pt_cmpR op_eq (pe_call (ok_law_mixed T) hr1 rfl T.mg_law_mixed T.F_law_mixed.kp T.b_law_mixed .nil pass0N (pa_cons (pv 0) (pa_cons (pe_op op_add (pv 4) pe_int) (pa_cons pe_int pa_nil)))) pe_int (nomark _)) (pss_cons (ps_set (i := 7) sc_law_laid.nd rfl (Or.inl rfl) (pe_ix ix_list (pe_lst (pa_cons (pe_lst (pa_cons (pe_tup (pa_cons pe_str (pa_cons (pe_op op_modN (pe_op op_add (pv 4) pe_int) (pv 1)) (pa_cons pe_int (pa_cons (pe_cmpR op_gt (pv 6) pe_int (nomark _)) pa_nil))))) pa_nil)) (pa_cons (pe_lst (pa_cons (pe_tup (pa_cons pe_str pa_nil)) pa_nil)) (pa_cons (pe_lst (pa_cons (pe_tup (pa_cons pe_str (pa_cons pe_int pa_nil))) pa_nil)) pa_nil)))) (pe_op op_mod (pv 6) pe_int) (fun _ _ => rfl)))
      (pss_one (ps_expr (pe_bm PySem.F.plainAttrs_list PySem.F.slot_list_append PySem.F.type_list_append mt_append (pv 2) (pa_cons (pe_tup (pa_cons pe_str (pa_cons (pv 4) (pa_cons (pv 7) pa_nil)))) pa_nil))))) pss_nil))))))
      (pss_cons (ps_for PassesOwn.leaving rfl (pi_range1 (by rfl) T.no_range (pa_cons (pv 1) pa_nil)) (pg_name (i := 4) sc_law_laid.nd rfl (Or.inl rfl))
      (pss_one (ps_if (pt_cmpR op_gt (pe_call (ok_law_mixed T) hr1 rfl T.mg_law_mixed T.F_law_mixed.kp T.b_law_mixed .nil pass0N (pa_cons (pv 0) (pa_cons (pe_op op_add (pv 4) pe_int) (pa_cons pe_int pa_nil)))) pe_int (nomark _)) (pss_one (ps_expr (pe_bm PySem.F.plainAttrs_list PySem.F.slot_list_append PySem.F.type_list_append mt_append (pv 2) (pa_cons (pe_tup (pa_cons pe_str (pa_cons (pv 4) pa_nil))) pa_nil)))) pss_nil)))
      (pss_cons (ps_if (pt_cmpR op_eq (pe_op op_mod (pe_op op_fdiv (pv 0) pe_int) pe_int) pe_int (nomark _)) (pss_cons (ps_set (i := 2) sc_law_laid.nd rfl (Or.inl rfl) (pe_op op_cat (pv 2) (pe_lst (pa_cons (pe_tup (pa_cons pe_str (pa_cons pe_int pa_nil))) (pa_cons (pe_tup (pa_cons pe_str (pa_cons pe_int pa_nil))) (pa_cons (pe_tup (pa_cons pe_str (pa_cons pe_int pa_nil))) (pa_cons (pe_tup (pa_cons pe_str (pa_cons (pv 1) (pa_cons (pe_op op_add (pv 1) pe_int) (pa_cons (pe_op op_add (pv 1) pe_int) pa_nil))))) pa_nil)))))))
      (pss_cons (ps_set (i := 2) sc_law_laid.nd rfl (Or.inl rfl) (pe_op op_cat (pv 2) (pe_lst (pa_cons (pe_tup (pa_cons pe_str (pa_cons (pe_op op_add (pv 1) pe_int) (pa_cons (pe_lst (pa_cons (pe_tup (pa_cons pe_str pa_nil)) (pa_cons (pe_tup (pa_cons pe_str (pa_cons (pv 1) pa_nil))) pa_nil))) pa_nil)))) (pa_cons (pe_tup (pa_cons pe_str (pa_cons (pe_op op_add (pv 1) pe_int) pa_nil))) (pa_cons (pe_tup (pa_cons pe_str (pa_cons (pe_op op_add (pv 1) pe_int) pa_nil))) pa_nil))))))
      (pss_one (ps_set (i := 2) sc_law_laid.nd rfl (Or.inl rfl) (pe_op op_cat (pv 2) (pe_lst (pa_cons (pe_tup (pa_cons pe_str (pa_cons (pe_op op_add (pv 1) pe_int) (pa_cons pe_int (pa_cons (pv 1) (pa_cons (pe_cmpR op_eq (pe_op op_mod (pe_op op_fdiv (pv 0) pe_int) pe_int) pe_int (nomark _)) pa_nil)))))) pa_nil))))))) pss_nil)
      (pss_one (ps_ret (pv 2)))))))))), ?_⟩
    try dsimp only [cxOf]
    walk_at "gos"
    refine g_rI (by decide) ?_
    walk_at "go1"
    walk_at "go1"
    walk_at "go1"
    refine g_cut (fun σ H' => σ = [some (.int far), some (.int (manyL far)), none, none, none, none, none, none] ∧ H = H') (fun D' hrt hk => ?_) ?_
    · walk_at "gos"
      refine g_rI (by exact ⟨by decide, by decide⟩) ?_
      walk_at "gos"
      refine g_rI (by decide) ?_
      walk_at "gos"
      refine g_ite (fun c => ?_) (fun c => ?_)
      · walk_at "gos"
        refine g_rI (by exact ⟨by decide, by decide⟩) ?_
        walk_at "gos"
        refine g_rI (by decide) ?_
        walk_at "gos"
        refine hk _ _ ⟨?_, rfl⟩
        unfold manyL; rw [if_pos c]; rfl
      · walk_at "gos"
        refine hk _ _ ⟨?_, rfl⟩
        unfold manyL; rw [if_neg c]; rfl
    rintro σ H' ⟨rfl, rfl⟩
    have hmany : 3 ≤ manyL far ∧ manyL far ≤ 60 := by
      unfold manyL
      split <;> omega
    unfold laidF at k
    have hstep : stepL far = stepL far := rfl
    generalize hM : manyL far = many at *
    have hM' : many.toNat = many.toNat := rfl
    walk_at "gos"
    refine ⟨_, rfl, by omega, by omega, fun D hD => lc_range (lo := 0) (n := many.toNat) (fun i H1 => Same H H1 ∧ ∃ us, H1 D = some (.lst us) ∧ Paired (LDV (fun b => H b = none ∧ b ≠ D) H1) us (List.replicate i (.make 3))) ⟨Same.new hD, [], upd_same, .nil⟩ ?_ ?_⟩
    · rintro i H1 hi ⟨sm, us, e1, pu⟩
      walk_at "go"
      refine ⟨rfl, ?_⟩
      walk_at "gos"
      refine ⟨by show 2 ≤ sizeLine; decide, fun t ht => ?_⟩
      have Dt : D ≠ t := ne_of_none e1 ht
      have lu := pu.length
      rw [List.length_replicate] at lu
      refine ⟨us, by rw [upd_ne Dt]; exact e1, small1000 (by omega), fun b o eb => ?_, us ++ [.ref t], upd_same, ?_⟩
      · rw [upd_ne (ne_of_none eb hD)]; exact (Same.new ht) _ _ (sm _ _ eb)
      · rw [List.replicate_succ']
        exact ldv_snoc pu (Same.new ht) (by rw [upd_ne Dt]; exact e1) (fun z => z.2 rfl) (.make 3) upd_same (fun x b l e => by rw [upd_same] at e; cases e)
    · rintro H1 ⟨sm, us, e1, pu⟩
      have hDn : H D = none := hD
      have hst : atI [V.int 1, .int (-1), .int 2, .int (many - 1)] (far / 54 % 4) = some (.int (stepL far)) := by
        unfold stepL
        rw [hM]
        rcases (by omega : far / 54 % 4 = 0 ∨ far / 54 % 4 = 1 ∨ far / 54 % 4 = 2 ∨ far / 54 % 4 = 3) with e | e | e | e <;> rw [e] <;> rfl
      have hDm : ∀ b, H b = none ∧ b ≠ D → H b = none := fun _ h => h.1
      generalize stepL far = step at *
      walk_at "gos"
      refine ⟨by show 4 ≤ sizeLine; decide, fun pl hpl => ?_⟩
      walk_at "gos"
      refine g_rI (by exact ⟨by decide, by decide⟩) ?_
      walk_at "gos"
      refine g_rI (by decide) ?_
      refine g_ixL (SqL.of upd_same) hst ?_
      have sm := sm.trans (Same.new (o := HO.lst [V.int 1, .int (-1), .int 2, .int (many - 1)]) hpl)
      have pu : Paired (LDV (fun b => H b = none ∧ b ≠ D) (upd H1 pl (.lst [V.int 1, .int (-1), .int 2, .int (many - 1)]))) us (List.replicate many.toNat (.make 3)) := L2.Paired.mapP pu fun _ _ => LDV.same (Same.new hpl)
      have e1 := (Same.new (o := HO.lst [V.int 1, .int (-1), .int 2, .int (many - 1)]) hpl) _ _ e1
      obtain ⟨H2, e0⟩ : ∃ H2, upd H1 pl (.lst [V.int 1, .int (-1), .int 2, .int (many - 1)]) = H2 := ⟨_, rfl⟩
      rw [e0] at sm pu e1
      rw [e0]
      clear hpl e0 hst
      walk_at "gos"
      refine ⟨_, rfl, by omega, by omega, for_range (lo := 0) (n := many.toNat) (fun i σ H3 => ∃ v4 v5 v6 v7 us, σ = [some (.int far), some (.int many), some (.ref D), some (.int step), v4, v5, v6, v7] ∧ Same H H3 ∧ H3 D = some (.lst us) ∧
        Paired (LDV (fun b => H b = none ∧ b ≠ D) H3) us (List.replicate many.toNat (.make 3) ++ (rngL i).flatMap (boxL far many step))) ⟨_, _, _, _, us, rfl, sm, e1, by unfold rngL; simpa using pu⟩ ?_ ?_⟩
      · rintro i σ H3 hi ⟨v4, v5, v6, v7, us, rfl, sm, e1, pu⟩
        rw [rngL_succ, List.flatMap_append, List.flatMap_singleton, ← List.append_assoc]
        have lu : us.length ≤ 1000 := by
          have h1 := pu.length
          have h2 := len_flat (f := boxL far many step) (c := 2) (fun x => boxL_len _ _ _ _) (rngL i)
          rw [List.length_append, List.length_replicate] at h1
          rw [rngL_len] at h2
          omega
        generalize List.replicate many.toNat (LD.make 3) ++ (rngL i).flatMap (boxL far many step) = ds at *
        have hz : (0 + (i : Int)) = i := Int.zero_add _
        rw [hz]
        generalize (i : Int) = b at *
        walk_at "gos"
        refine g_rI (by omega) ?_
        walk_at "gos"
        refine ⟨far, b, 5, rfl, by decide, fun H4 s4 => ?_⟩
        have hway := mixF_in (c := far) (k := b) (m := 5) (by decide)
        have hox : boxL far many step b = (if mixF far b 5 = 1 then .pair (mixF far (b + 1) 2 * (many - 1)) b ((b + step).fmod many) else .put b (mixF far (b + 2) 3) ((b + step).fmod many) (decide (mixF far b 5 > 0))) ::
          (if mixF far (b + 3) 2 = 1 then [.will b (willL many b (mixF far b 5))] else []) := rfl
        rw [hox]
        clear hox
        rw [show ∀ (d1 : LD) (tl : List LD), ds ++ d1 :: tl = (ds ++ [d1]) ++ tl from fun _ _ => by simp]
        generalize mixF far b 5 = way at *
        walk_at "go1"
        walk_at "go1"
        have e4 := s4 _ _ e1
        refine g_cut (fun σ H5 => σ = [some (.int far), some (.int many), some (.ref D), some (.int step), some (.int b), some (.int ((b + step).fmod many)), some (.int way), v7] ∧ Same H H5 ∧ ∃ us', H5 D = some (.lst us') ∧ us'.length ≤ 1001 ∧
          Paired (LDV (fun b => H b = none ∧ b ≠ D) H5) us' (ds ++ [if way = 1 then .pair (mixF far (b + 1) 2 * (many - 1)) b ((b + step).fmod many) else .put b (mixF far (b + 2) 3) ((b + step).fmod many) (decide (way > 0))])) (fun D' hrt hk => ?_) ?_
        · walk_at "gos"
          refine g_ite (fun c1 => ?_) (fun c1 => ?_)
          · walk_at "gos"
            refine ⟨.inl ⟨rfl, _, SqL.of e4⟩, ?_⟩
            walk_at "gos"
            refine ⟨far, b + 1, 2, rfl, by decide, fun H5 s5 => ?_⟩
            have hm2 := mixF_in (c := far) (k := b + 1) (m := 2) (by decide)
            walk_at "gos"
            refine g_rI (.inl ⟨by omega, by omega⟩) ?_
            walk_at "gos"
            refine ⟨by show 4 ≤ sizeLine; decide, fun t ht => ?_⟩
            have e5 := (Same.new ht (o := .tup [.str "pair", .int (mixF far (b + 1) 2 * (many - 1)), .int b, .int ((b + step).fmod many)])) _ _ (s5 _ _ e4)
            walk_at "gos"
            refine g_append e5 lu ?_
            walk_at "gos"
            refine hk _ _ ⟨rfl, ?_, _, upd_same, by rw [List.length_append]; show us.length + 1 ≤ 1001; omega, ?_⟩
            · exact fun x o ex => by rw [upd_ne (ne_of_none ex hDn)]; exact (Same.new ht) _ _ (s5 _ _ (s4 _ _ (sm _ _ ex)))
            · rw [if_pos c1]
              exact ldv_snoc pu ((s4.trans s5).trans (Same.new ht)) e5 (fun z => z.2 rfl) (.pair _ _ _) upd_same (fun x b l e => by rw [upd_same] at e; cases e)
          · walk_at "gos"
            refine ⟨.inl ⟨rfl, _, SqL.of e4⟩, ?_⟩
            walk_at "gos"
            refine ⟨far, b + 2, 3, rfl, by decide, fun H5 s5 => ?_⟩
            walk_at "gos"
            refine ⟨by show 5 ≤ sizeLine; decide, fun t ht => ?_⟩
            have e5 := (Same.new ht (o := .tup [.str "put", .int b, .int (mixF far (b + 2) 3), .int ((b + step).fmod many), .bl (decide (way > 0))])) _ _ (s5 _ _ e4)
            walk_at "gos"
            refine g_append e5 lu ?_
            walk_at "gos"
            refine hk _ _ ⟨rfl, ?_, _, upd_same, by rw [List.length_append]; show us.length + 1 ≤ 1001; omega, ?_⟩
            · exact fun x o ex => by rw [upd_ne (ne_of_none ex hDn)]; exact (Same.new ht) _ _ (s5 _ _ (s4 _ _ (sm _ _ ex)))
            · rw [if_neg c1]
              exact ldv_snoc pu ((s4.trans s5).trans (Same.new ht)) e5 (fun z => z.2 rfl) (.put _ _ _ _) upd_same (fun x b l e => by rw [upd_same] at e; cases e)
        generalize (ds ++ [if way = 1 then LD.pair (mixF far (b + 1) 2 * (many - 1)) b ((b + step).fmod many) else LD.put b (mixF far (b + 2) 3) ((b + step).fmod many) (decide (way > 0))]) = ds2
        rintro σ H5 ⟨rfl, sm, us, e1, lu, pu⟩
        walk_at "gos"
        refine ⟨far, b + 3, 2, rfl, by decide, fun H6 s6 => ?_⟩
        walk_at "gos"
        refine g_ite (fun c1 => ?_) (fun c1 => ?_)
        · rw [if_pos c1]
          walk_at "gos"
          refine g_rI (by omega) ?_
          walk_at "gos"
          refine ⟨by show 4 ≤ sizeLine; decide, fun t1 ht1 => ?_⟩
          walk_at "gos"
          refine ⟨by show 1 ≤ sizeLine; decide, fun l1 hl1 => ?_⟩
          walk_at "gos"
          refine ⟨by show 1 ≤ sizeLine; decide, fun t2 ht2 => ?_⟩
          walk_at "gos"
          refine ⟨by show 1 ≤ sizeLine; decide, fun l2 hl2 => ?_⟩
          walk_at "gos"
          refine ⟨by show 2 ≤ sizeLine; decide, fun t3 ht3 => ?_⟩
          walk_at "gos"
          refine ⟨by show 1 ≤ sizeLine; decide, fun l3 hl3 => ?_⟩
          walk_at "gos"
          refine ⟨by show 3 ≤ sizeLine; decide, fun pl hpl => ?_⟩
          obtain ⟨H7, e7, s7, a1, b1, a2, b2, a3, b3, c7, n1, n2, n3⟩ := wills_at ht1 hl1 ht2 hl2 ht3 hl3 hpl
          rw [e7]
          have hw : ∃ lw usw, atI [V.ref l1, .ref l2, .ref l3] (way % 3) = some (.ref lw) ∧ H7 lw = some (.lst usw) ∧ usw.length ≤ 1000 ∧ Paired (DeedV H7) usw (willL many b way) ∧ H6 lw = none := by
            unfold willL
            rcases (by omega : way % 3 = 0 ∨ way % 3 = 1 ∨ way % 3 = 2) with e | e | e
            · refine ⟨l1, _, by rw [e]; rfl, b1, by show 1 ≤ 1000; decide, ?_, n1⟩
              rw [if_pos e]; exact .cons (.hang a1) .nil
            · refine ⟨l2, _, by rw [e]; rfl, b2, by show 1 ≤ 1000; decide, ?_, n2⟩
              rw [if_neg (by omega), if_pos e]; exact .cons (.up a2) .nil
            · refine ⟨l3, _, by rw [e]; rfl, b3, by show 1 ≤ 1000; decide, ?_, n3⟩
              rw [if_neg (by omega), if_neg (by omega)]; exact .cons (.down a3) .nil
          obtain ⟨lw, usw, ew1, ew2, ew3, ew4, ew5⟩ := hw
          walk_at "gos"
          refine g_rI (by decide) ?_
          refine g_ixL (SqL.of c7) ew1 ?_
          have e7D := s7 _ _ (s6 _ _ e1)
          walk_at "gos"
          refine ⟨.inl ⟨rfl, _, SqL.of e7D⟩, ?_⟩
          walk_at "gos"
          refine ⟨by show 3 ≤ sizeLine; decide, fun t ht => ?_⟩
          have st := Same.new ht (o := .tup [.str "bequeath", .int b, .ref lw])
          have e5 := st _ _ e7D
          walk_at "gos"
          refine g_append1 e5 lu ?_
          walk_at "gos"
          refine ⟨_, _, _, _, _, rfl, fun x o ex => ?_, upd_same, ?_⟩
          · rw [upd_ne (ne_of_none ex hDn)]; exact st _ _ (s7 _ _ (s6 _ _ (sm _ _ ex)))
          · refine ldv_snoc pu ((s6.trans s7).trans st) e5 (fun z => z.2 rfl) (.will b (willL many b way)) ⟨lw, usw, upd_same, st _ _ ew2, ew3, L2.Paired.mapP ew4 fun _ _ h => h.keep fun t xs e => st _ _ e⟩ (fun x b l e => ?_)
            rw [upd_same] at e; cases e
            exact ⟨free_same (sm.trans s6) ew5, fun z => by rw [z, s6 _ _ e1] at ew5; cases ew5⟩
        · rw [if_neg c1, List.append_nil]
          walk_at "gos"
          exact ⟨_, _, _, _, us, rfl, sm.trans s6, s6 _ _ e1, L2.Paired.mapP pu fun _ _ => LDV.same s6⟩
      · rintro σ H3 ⟨v4, v5, v6, v7, us, rfl, sm, e1, pu⟩
        have lu0 : (List.replicate many.toNat (LD.make 3) ++ (rngL many.toNat).flatMap (boxL far many step)).length ≤ 500 := by
          have h2 := len_flat (f := boxL far many step) (c := 2) (fun x => boxL_len _ _ _ _) (rngL many.toNat)
          rw [List.length_append, List.length_replicate]
          rw [rngL_len] at h2
          omega
        generalize List.replicate many.toNat (LD.make 3) ++ (rngL many.toNat).flatMap (boxL far many step) = ds at *
        walk_at "gos"
        refine ⟨_, rfl, by omega, by omega, for_range (lo := 0) (n := many.toNat) (fun i σ H3 => ∃ v4 v5 v6 v7 us, σ = [some (.int far), some (.int many), some (.ref D), some (.int step), v4, v5, v6, v7] ∧ Same H H3 ∧ H3 D = some (.lst us) ∧
          Paired (LDV (fun b => H b = none ∧ b ≠ D) H3) us (ds ++ (rngL i).flatMap (dropL far))) ⟨_, _, _, _, us, rfl, sm, e1, by unfold rngL; simpa using pu⟩ ?_ ?_⟩
        · rintro i σ H3 hi ⟨v4, v5, v6, v7, us, rfl, sm, e1, pu⟩
          rw [rngL_succ, List.flatMap_append, List.flatMap_singleton, ← List.append_assoc]
          have lu : us.length ≤ 1000 := by
            have h1 := pu.length
            have h2 := len_flat (f := dropL far) (c := 1) (fun x => dropL_len _ _) (rngL i)
            rw [List.length_append] at h1
            rw [rngL_len] at h2
            omega
          generalize ds ++ (rngL i).flatMap (dropL far) = ds3 at *
          have hz : (0 + (i : Int)) = i := Int.zero_add _
          rw [hz]
          generalize (i : Int) = b at *
          walk_at "gos"
          refine ⟨far, b + 4, 6, rfl, by decide, fun H4 s4 => ?_⟩
          have hox : dropL far b = if mixF far (b + 4) 6 > 0 then [.drop b] else [] := rfl
          rw [hox]
          walk_at "gos"
          refine g_ite (fun c1 => ?_) (fun c1 => ?_)
          · rw [if_pos c1]
            have e4 := s4 _ _ e1
            walk_at "gos"
            refine ⟨.inl ⟨rfl, _, SqL.of e4⟩, ?_⟩
            walk_at "gos"
            refine ⟨by show 2 ≤ sizeLine; decide, fun t ht => ?_⟩
            have st := Same.new ht (o := .tup [.str "drop", .int b])
            have e5 := st _ _ e4
            walk_at "gos"
            refine g_append e5 lu ?_
            walk_at "gos"
            refine ⟨_, _, _, _, _, rfl, fun x o ex => ?_, upd_same, ?_⟩
            · rw [upd_ne (ne_of_none ex hDn)]; exact st _ _ (s4 _ _ (sm _ _ ex))
            · exact ldv_snoc pu (s4.trans st) e5 (fun z => z.2 rfl) (.drop b) upd_same (fun x b l e => by rw [upd_same] at e; cases e)
          · rw [if_neg c1, List.append_nil]
            walk_at "gos"
            exact ⟨_, _, _, _, us, rfl, sm.trans s4, s4 _ _ e1, L2.Paired.mapP pu fun _ _ => LDV.same s4⟩
        · rintro σ H3 ⟨v4, v5, v6, v7, us, rfl, sm, e1, pu⟩
          have lu : us.length ≤ 1000 := by
            have h1 := pu.length
            have h2 := len_flat (f := dropL far) (c := 1) (fun x => dropL_len _ _) (rngL many.toNat)
            rw [List.length_append] at h1
            rw [rngL_len] at h2
            omega
          generalize ds ++ (rngL many.toNat).flatMap (dropL far) = ds3 at *
          walk_at "gos"
          refine g_rI (by exact ⟨by decide, by decide⟩) ?_
          walk_at "gos"
          refine g_rI (by decide) ?_
          walk_at "gos"
          have hox : tailL far many = if far / 9 % 6 = 2 then [.make 1, .make 2, .make 1, .pair many (many + 1) (many + 2), .will (many + 1) [.up, .down many], .drop (many + 1), .drop (many + 2), .put (many + 1) 0 many (decide (far / 54 % 2 = 1))] else [] := rfl
          rw [hox] at k
          have pu2 : Paired (LDV (fun b => H b = none) H3) us ds3 := L2.Paired.mapP pu fun v d h => by
            obtain ⟨t, e, h⟩ := h
            exact ⟨t, e, h.mono fun _ z => z.1⟩
          refine g_ite (fun c1 => ?_) (fun c1 => ?_)
          · rw [if_pos c1] at k
            walk_at "gos"
            refine ⟨by show 2 ≤ sizeLine; decide, fun t1 ht1 => ?_⟩
            walk_at "gos"
            refine ⟨by show 2 ≤ sizeLine; decide, fun t2 ht2 => ?_⟩
            walk_at "gos"
            refine ⟨by show 2 ≤ sizeLine; decide, fun t3 ht3 => ?_⟩
            walk_at "gos"
            refine ⟨by show 4 ≤ sizeLine; decide, fun t4 ht4 => ?_⟩
            walk_at "gos"
            refine ⟨by show 4 ≤ sizeLine; decide, fun pl hpl => ?_⟩
            have n1 := Same.new (o := HO.tup [.str "make", .int 1]) ht1
            have n2 := Same.new (o := HO.tup [.str "make", .int 2]) ht2
            have n3 := Same.new (o := HO.tup [.str "make", .int 1]) ht3
            have n4 := Same.new (o := HO.tup [.str "pair", .int many, .int (many + 1), .int (many + 2)]) ht4
            have n5 := Same.new (o := HO.lst [.ref t1, .ref t2, .ref t3, .ref t4]) hpl
            refine ⟨D, pl, us, _, rfl, rfl, n5 _ _ (n4 _ _ (n3 _ _ (n2 _ _ (n1 _ _ e1)))), upd_same, by show us.length + 4 ≤ sizeLine; exact Nat.le_trans (by omega : us.length + 4 ≤ 1004) (by decide), fun D2 hD2 => ?_⟩
            have n6 := Same.new (o := HO.lst (us ++ [.ref t1, .ref t2, .ref t3, .ref t4])) hD2
            have q1 := (((((ldv_new (M := fun b => H b = none) (H := H3) (t := t1) (d := .make 1) (xs := [.str "make", .int 1]) (fun _ e => e) (fun _ _ _ e => nomatch e)).same n2).same n3).same n4).same n5).same n6
            have q2 := ((((ldv_new (M := fun b => H b = none) (H := upd H3 t1 (.tup [.str "make", .int 1])) (t := t2) (d := .make 2) (xs := [.str "make", .int 2]) (fun _ e => e) (fun _ _ _ e => nomatch e)).same n3).same n4).same n5).same n6
            have q3 := (((ldv_new (M := fun b => H b = none) (H := upd (upd H3 t1 (.tup [.str "make", .int 1])) t2 (.tup [.str "make", .int 2])) (t := t3) (d := .make 1) (xs := [.str "make", .int 1]) (fun _ e => e) (fun _ _ _ e => nomatch e)).same n4).same n5).same n6
            have q4 := ((ldv_new (M := fun b => H b = none) (H := upd (upd (upd H3 t1 (.tup [.str "make", .int 1])) t2 (.tup [.str "make", .int 2])) t3 (.tup [.str "make", .int 1])) (t := t4) (d := .pair many (many + 1) (many + 2)) (xs := [.str "pair", .int many, .int (many + 1), .int (many + 2)]) (fun _ e => e) (fun _ _ _ e => nomatch e)).same n5).same n6
            have sA : Same H3 _ := ((((n1.trans n2).trans n3).trans n4).trans n5).trans n6
            have puA := paired_app (L2.Paired.mapP pu2 fun _ _ => LDV.same sA) (Paired.cons q1 (.cons q2 (.cons q3 (.cons q4 .nil))))
            have eA := upd_same (H := (upd (upd (upd (upd (upd H3 t1 (.tup [.str "make", .int 1])) t2 (.tup [.str "make", .int 2])) t3 (.tup [.str "make", .int 1])) t4 (.tup [.str "pair", .int many, .int (many + 1), .int (many + 2)])) pl (.lst [.ref t1, .ref t2, .ref t3, .ref t4]))) (a := D2) (o := HO.lst (us ++ [.ref t1, .ref t2, .ref t3, .ref t4]))
            obtain ⟨HA, hHA⟩ : ∃ HA, upd (upd (upd (upd (upd (upd H3 t1 (.tup [.str "make", .int 1])) t2 (.tup [.str "make", .int 2])) t3 (.tup [.str "make", .int 1])) t4 (.tup [.str "pair", .int many, .int (many + 1), .int (many + 2)])) pl (.lst [.ref t1, .ref t2, .ref t3, .ref t4])) D2 (.lst (us ++ [.ref t1, .ref t2, .ref t3, .ref t4])) = HA := ⟨_, rfl⟩
            rw [hHA] at sA puA eA
            rw [hHA]
            clear hHA q1 q2 q3 q4 n1 n2 n3 n4 n5 n6 ht1 ht2 ht3 ht4 hpl hD2
            have lA : (us ++ [V.ref t1, .ref t2, .ref t3, .ref t4]).length ≤ 1004 := by rw [List.length_append]; show us.length + 4 ≤ 1004; omega
            generalize us ++ [V.ref t1, .ref t2, .ref t3, .ref t4] = usA at *
            have smA := sm.trans sA
            walk_at "gos"
            refine ⟨by show 1 ≤ sizeLine; decide, fun tu htu => ?_⟩
            walk_at "gos"
            refine ⟨by show 2 ≤ sizeLine; decide, fun td htd => ?_⟩
            walk_at "gos"
            refine ⟨by show 2 ≤ sizeLine; decide, fun wl hwl => ?_⟩
            walk_at "gos"
            refine ⟨by show 3 ≤ sizeLine; decide, fun t1 ht1 => ?_⟩
            walk_at "gos"
            refine ⟨by show 2 ≤ sizeLine; decide, fun t2 ht2 => ?_⟩
            walk_at "gos"
            refine ⟨by show 2 ≤ sizeLine; decide, fun t3 ht3 => ?_⟩
            walk_at "gos"
            refine ⟨by show 3 ≤ sizeLine; decide, fun pl hpl => ?_⟩
            have n1 := Same.new (o := HO.tup [.str "up"]) htu
            have n2 := Same.new (o := HO.tup [.str "down", .int many]) htd
            have n3 := Same.new (o := HO.lst [.ref tu, .ref td]) hwl
            have n4 := Same.new (o := HO.tup [.str "bequeath", .int (many + 1), .ref wl]) ht1
            have n5 := Same.new (o := HO.tup [.str "drop", .int (many + 1)]) ht2
            have n6 := Same.new (o := HO.tup [.str "drop", .int (many + 2)]) ht3
            have n7 := Same.new (o := HO.lst [.ref t1, .ref t2, .ref t3]) hpl
            refine ⟨D2, pl, usA, _, rfl, rfl, n7 _ _ (n6 _ _ (n5 _ _ (n4 _ _ (n3 _ _ (n2 _ _ (n1 _ _ eA)))))), upd_same, by show usA.length + 3 ≤ sizeLine; exact Nat.le_trans (by omega : usA.length + 3 ≤ 1007) (by decide), fun D3 hD3 => ?_⟩
            have n8 := Same.new (o := HO.lst (usA ++ [.ref t1, .ref t2, .ref t3])) hD3
            have nwl : H wl = none := free_same smA (none_upd (none_upd hwl).2).2
            have q1 : LDV (fun b => H b = none) (upd (upd (upd (upd HA tu (.tup [.str "up"])) td (.tup [.str "down", .int many])) wl (.lst [.ref tu, .ref td])) t1 (.tup [.str "bequeath", .int (many + 1), .ref wl])) (.ref t1) (.will (many + 1) [.up, .down many]) := by
              refine ⟨t1, rfl, ⟨wl, _, upd_same, n4 _ _ upd_same, by show 2 ≤ 1000; decide, .cons (.up (n4 _ _ (n3 _ _ (n2 _ _ upd_same)))) (.cons (.down (n4 _ _ (n3 _ _ upd_same))) .nil)⟩, fun x b l e => ?_⟩
              rw [upd_same] at e; cases e; exact nwl
            have q1 := (((q1.same n5).same n6).same n7).same n8
            have q2 := (((ldv_new (M := fun b => H b = none) (H := (upd (upd (upd (upd HA tu (.tup [.str "up"])) td (.tup [.str "down", .int many])) wl (.lst [.ref tu, .ref td])) t1 (.tup [.str "bequeath", .int (many + 1), .ref wl]))) (t := t2) (d := .drop (many + 1)) (xs := [.str "drop", .int (many + 1)]) (fun _ e => e) (fun _ _ _ e => nomatch e)).same n6).same n7).same n8
            have q3 := ((ldv_new (M := fun b => H b = none) (H := upd (upd (upd (upd (upd HA tu (.tup [.str "up"])) td (.tup [.str "down", .int many])) wl (.lst [.ref tu, .ref td])) t1 (.tup [.str "bequeath", .int (many + 1), .ref wl])) t2 (.tup [.str "drop", .int (many + 1)])) (t := t3) (d := .drop (many + 2)) (xs := [.str "drop", .int (many + 2)]) (fun _ e => e) (fun _ _ _ e => nomatch e)).same n7).same n8
            have sB : Same HA _ := ((((((n1.trans n2).trans n3).trans n4).trans n5).trans n6).trans n7).trans n8
            have puB := paired_app (L2.Paired.mapP puA fun _ _ => LDV.same sB) (Paired.cons q1 (.cons q2 (.cons q3 .nil)))
            have eB := upd_same (H := upd (upd (upd (upd (upd (upd (upd HA tu (.tup [.str "up"])) td (.tup [.str "down", .int many])) wl (.lst [.ref tu, .ref td])) t1 (.tup [.str "bequeath", .int (many + 1), .ref wl])) t2 (.tup [.str "drop", .int (many + 1)])) t3 (.tup [.str "drop", .int (many + 2)])) pl (.lst [.ref t1, .ref t2, .ref t3])) (a := D3) (o := HO.lst (usA ++ [.ref t1, .ref t2, .ref t3]))
            obtain ⟨HB, hHB⟩ : ∃ HB, upd (upd (upd (upd (upd (upd (upd (upd HA tu (.tup [.str "up"])) td (.tup [.str "down", .int many])) wl (.lst [.ref tu, .ref td])) t1 (.tup [.str "bequeath", .int (many + 1), .ref wl])) t2 (.tup [.str "drop", .int (many + 1)])) t3 (.tup [.str "drop", .int (many + 2)])) pl (.lst [.ref t1, .ref t2, .ref t3])) D3 (.lst (usA ++ [.ref t1, .ref t2, .ref t3])) = HB := ⟨_, rfl⟩
            rw [hHB] at sB puB eB
            rw [hHB]
            clear hHB q1 q2 q3 n1 n2 n3 n4 n5 n6 n7 n8 htu htd hwl ht1 ht2 ht3 hpl hD3
            have lB : (usA ++ [V.ref t1, .ref t2, .ref t3]).length ≤ 1007 := by rw [List.length_append]; show usA.length + 3 ≤ 1007; omega
            generalize usA ++ [V.ref t1, .ref t2, .ref t3] = usB at *
            have smB := smA.trans sB
            walk_at "gos"
            refine g_rI (by exact ⟨by decide, by decide⟩) ?_
            walk_at "gos"
            refine g_rI (by decide) ?_
            walk_at "gos"
            refine ⟨by show 5 ≤ sizeLine; decide, fun t1 ht1 => ?_⟩
            walk_at "gos"
            refine ⟨by show 1 ≤ sizeLine; decide, fun pl hpl => ?_⟩
            have n1 := Same.new (o := HO.tup [.str "put", .int (many + 1), .int 0, .int many, .bl (decide (far / 54 % 2 = 1))]) ht1
            have n2 := Same.new (o := HO.lst [.ref t1]) hpl
            refine ⟨D3, pl, usB, _, rfl, rfl, n2 _ _ (n1 _ _ eB), upd_same, by show usB.length + 1 ≤ sizeLine; exact Nat.le_trans (by omega : usB.length + 1 ≤ 1008) (by decide), fun D4 hD4 => ?_⟩
            have n3 := Same.new (o := HO.lst (usB ++ [.ref t1])) hD4
            have q1 := ((ldv_new (M := fun b => H b = none) (H := HB) (t := t1) (d := .put (many + 1) 0 many (decide (far / 54 % 2 = 1))) (xs := [.str "put", .int (many + 1), .int 0, .int many, .bl (decide (far / 54 % 2 = 1))]) (fun _ e => e) (fun _ _ _ e => nomatch e)).same n2).same n3
            have sC := (n1.trans n2).trans n3
            have puC := paired_app (L2.Paired.mapP puB fun _ _ => LDV.same sC) (Paired.cons q1 .nil)
            walk_at "gos"
            refine k D4 _ _ (free_same smB (none_upd (none_upd hD4).2).2) (smB.trans sC) upd_same ?_
            simpa only [List.append_assoc, List.cons_append, List.nil_append] using puC
          · rw [if_neg c1, List.append_nil] at k
            walk_at "gos"
            exact k D us H3 hDn sm e1 pu2
end
section
/-! ### the deeds that are laid can be done, one behind the other -/
def runOk : Ch → List LD → Prop
  | _, [] => True
  | S, d :: ds => (S.step d).1 = "" ∧ runOk (S.step d).2.2 ds
def run : Ch → List LD → Ch
  | S, [] => S
  | S, d :: ds => run (S.step d).2.2 ds
theorem runOk_app : ∀ {ds1 ds2 : List LD} {S : Ch}, runOk S ds1 → runOk (run S ds1) ds2 → runOk S (ds1 ++ ds2)
  | [], _, _, _, h => h
  | d :: ds, _, _, h, g => ⟨h.1, runOk_app (ds1 := ds) h.2 g⟩
theorem run_app : ∀ {ds1 ds2 : List LD} {S : Ch}, run S (ds1 ++ ds2) = run (run S ds1) ds2
  | [], _, _ => rfl
  | d :: ds, _, _ => run_app (ds1 := ds)
/-- m boxes of three slots, those from j on in the hands; at most c pairs -/
structure Ph (S : Ch) (m : Nat) (j : Int) (c : Nat) : Prop where
  G : Good S
  nb : S.nb = (m : Int)
  len : S.bs.length = m
  bx : ∀ i : Int, 0 ≤ i → i < m → ∃ y, S.get i = some y ∧ y.sl.length = 3 ∧ (j ≤ i → y.hand = true)
  ps : S.ps.length ≤ c
theorem Ph.ne {S : Ch} {m c : Nat} {j : Int} (h : Ph S m j c) {i : Int} (h0 : 0 ≤ i) (h1 : i < m) : S.get i ≠ none := by
  obtain ⟨y, e, _⟩ := h.bx i h0 h1
  rw [e]; exact fun z => nomatch z
theorem Good.nb_none {S : Ch} (G : Good S) {i : Int} (h : S.nb ≤ i) : S.get i = none := by
  cases e : S.get i with
  | none => rfl
  | some y => have := (G.lb _ (lk_mem e)).2; omega
theorem get_made {S : Ch} (G : Good S) (n i : Int) : (S.made n).get i = if i = S.nb then some ⟨List.replicate n.toNat none, true, []⟩ else S.get i := by
  unfold Ch.made Ch.get
  show (S.bs ++ [(S.nb, _)]).lookup i = _
  rw [lk_app]
  by_cases c : i = S.nb
  · rw [if_pos c]; subst c
    have : S.bs.lookup S.nb = none := G.nb_none (Int.le_refl _)
    rw [this, lk_pos]
  · rw [if_neg c, lk_neg c]; cases S.bs.lookup i <;> rfl
theorem step_make {S : Ch} {n : Int} (z0 : 0 ≤ n) (z9 : n ≤ 9) (h : S.bs.length < 60) : (S.step (.make n)).2.2 = S.made n := by rw [st_make, if_neg (by omega), if_neg (by omega)]
theorem Ph.make {S : Ch} {m : Nat} (h : Ph S m 0 0) (l : m < 60) : (S.step (.make 3)).1 = "" ∧ Ph (S.step (.make 3)).2.2 (m + 1) 0 0 := by
  have ok := ok_make (S := S) (n := 3) (by decide) (by decide) (by rw [h.len]; exact l)
  refine ⟨ok, ?_⟩
  have G' := h.G.step ok
  rw [step_make (by decide) (by decide) (by rw [h.len]; exact l)] at G' ⊢
  refine ⟨G', by show S.nb + 1 = _; rw [h.nb]; rfl, by show (S.bs ++ [_]).length = _; rw [List.length_append, h.len]; rfl, fun i i0 i1 => ?_, h.ps⟩
  rw [get_made h.G]
  by_cases c : i = S.nb
  · rw [if_pos c]; exact ⟨_, rfl, rfl, fun _ => rfl⟩
  · rw [if_neg c]; exact h.bx i i0 (by rw [h.nb] at c; omega)
theorem Ph.makes : ∀ (k : Nat) {S : Ch} {m : Nat}, Ph S m 0 0 → m + k ≤ 60 → runOk S (List.replicate k (.make 3)) ∧ Ph (run S (List.replicate k (.make 3))) (m + k) 0 0
  | 0, S, m, h, _ => ⟨trivial, h⟩
  | k + 1, S, m, h, l => by
    obtain ⟨ok, h2⟩ := h.make (by omega)
    obtain ⟨h3, h4⟩ := Ph.makes k h2 (by omega)
    rw [List.replicate_succ]
    exact ⟨⟨ok, h3⟩, by rw [show m + (k + 1) = m + 1 + k by omega]; exact h4⟩
theorem Ph.box {S : Ch} {m c : Nat} {j : Int} (h : Ph S m j c) {b : Int} {x y : Bx} (e : S.get b = some x) (G' : Good (S.box b y)) (l : y.sl.length = 3) (g : y.hand = x.hand) : Ph (S.box b y) m j c := by
  refine ⟨G', h.nb, by show (setB S.bs b fun _ => y).length = m; rw [setB_len]; exact h.len, fun i i0 i1 => ?_, h.ps⟩
  rw [sget_box e]
  by_cases c : i = b
  · rw [if_pos c]
    obtain ⟨z, ez, _, hz⟩ := h.bx i i0 i1
    rw [c, e] at ez; cases ez
    exact ⟨y, rfl, l, fun q => by rw [g]; exact hz q⟩
  · rw [if_neg c]; exact h.bx i i0 i1
theorem Ph.put {S : Ch} {m c : Nat} {j b s o : Int} {g : Bool} (h : Ph S m j c) (b0 : 0 ≤ b) (b1 : b < m) (s0 : 0 ≤ s) (s1 : s < 3) (o0 : 0 ≤ o) (o1 : o < m) : (S.step (.put b s o g)).1 = "" ∧ Ph (S.step (.put b s o g)).2.2 m j c := by
  obtain ⟨x, e, lx, _⟩ := h.bx b b0 b1
  have ok := ok_put (g := g) e s0 (by rw [lx]; exact s1) (h.ne o0 o1)
  refine ⟨ok, ?_⟩
  have G' := h.G.step ok
  obtain ⟨y, ey, _⟩ := h.bx o o0 o1
  rw [st_put3 e (by rw [lx]; omega) ey] at G' ⊢
  exact h.box e G' (by rw [List.length_set]; exact lx) rfl
theorem Ph.pair {S : Ch} {m c : Nat} {j x k o : Int} (h : Ph S m j c) (l : c < 60) (x0 : 0 ≤ x) (x1 : x < m) (k0 : 0 ≤ k) (k1 : k < m) (o0 : 0 ≤ o) (o1 : o < m) : (S.step (.pair x k o)).1 = "" ∧ Ph (S.step (.pair x k o)).2.2 m j (c + 1) := by
  have lp := h.ps
  have ok := ok_pair (h.ne x0 x1) (h.ne k0 k1) (h.ne o0 o1) (by omega)
  refine ⟨ok, ?_⟩
  have G' := h.G.step ok
  have e : S.step (.pair x k o) = (("" : Str), some S.np, S.tied x k o) := by
    rw [st_pair, if_neg (fun z => z.elim (h.ne x0 x1) fun z => z.elim (h.ne k0 k1) (h.ne o0 o1)), if_neg (by omega)]
  rw [e] at G' ⊢
  exact ⟨G', h.nb, h.len, h.bx, by show (S.ps ++ [_]).length ≤ c + 1; rw [List.length_append, List.length_singleton]; omega⟩
theorem Ph.will {S : Ch} {m c : Nat} {j b : Int} {ds : List Deed} (h : Ph S m j c) (b0 : 0 ≤ b) (b1 : b < m) (l : ds.length ≤ 9) (g : ds.any Deed.isNeg = false) : (S.step (.will b ds)).1 = "" ∧ Ph (S.step (.will b ds)).2.2 m j c := by
  obtain ⟨x, e, lx, _⟩ := h.bx b b0 b1
  have ok := ok_will (h.ne b0 b1) l g
  refine ⟨ok, ?_⟩
  have G' := h.G.step ok
  rw [st_will2 e (fun z => z.elim (fun z => by omega) fun z => by rw [g] at z; cases z)] at G' ⊢
  exact h.box e G' lx rfl
theorem Ph.mono {S : Ch} {m c c' : Nat} {j : Int} (h : Ph S m j c) (l : c ≤ c') : Ph S m j c' := ⟨h.G, h.nb, h.len, h.bx, Nat.le_trans h.ps l⟩
theorem fmod_in {x m : Int} (h : 0 < m) : 0 ≤ x.fmod m ∧ x.fmod m < m := by
  rw [Int.fmod_eq_emod_of_nonneg _ (by omega)]
  exact ⟨Int.emod_nonneg _ (by omega), Int.emod_lt_of_pos _ h⟩
theorem willL_ok {many b way : Int} (h : 0 < many) : (willL many b way).length ≤ 9 ∧ (willL many b way).any Deed.isNeg = false := by
  unfold willL
  have := fmod_in (x := b + 2) h
  split
  · refine ⟨by show 1 ≤ 9; decide, ?_⟩
    show ((decide ((b + 2).fmod many < 0) || decide ((0 : Int) < 0)) || false) = false
    rw [decide_eq_false (by omega), decide_eq_false (by omega)]; rfl
  · split
    · exact ⟨by show 1 ≤ 9; decide, rfl⟩
    · exact ⟨by show 1 ≤ 9; decide, rfl⟩
theorem Ph.boxL {S : Ch} {m c : Nat} {far step b : Int} (h : Ph S m 0 c) (m0 : 0 < m) (l : c < 60) (b0 : 0 ≤ b) (b1 : b < m) : runOk S (boxL far m step b) ∧ Ph (run S (boxL far m step b)) m 0 (c + 1) := by
  have ho := fmod_in (x := b + step) (m := (m : Int)) (by omega)
  have first : ∀ d ds, ((S.step d).1 = "" ∧ Ph (S.step d).2.2 m 0 (c + 1)) → ds = (if mixF far (b + 3) 2 = 1 then [LD.will b (willL m b (mixF far b 5))] else []) → runOk S (d :: ds) ∧ Ph (run S (d :: ds)) m 0 (c + 1) := by
    rintro d ds ⟨ok, h2⟩ rfl
    by_cases c1 : mixF far (b + 3) 2 = 1
    · rw [if_pos c1]
      have hw := willL_ok (many := m) (b := b) (way := mixF far b 5) (by omega)
      obtain ⟨ok2, h3⟩ := h2.will b0 b1 hw.1 hw.2
      exact ⟨⟨ok, ok2, trivial⟩, h3⟩
    · rw [if_neg c1]; exact ⟨⟨ok, trivial⟩, h2⟩
  unfold LW.boxL
  refine first _ _ ?_ rfl
  by_cases c1 : mixF far b 5 = 1
  · rw [if_pos c1]
    have h2 := mixF_in (c := far) (k := b + 1) (m := 2) (by decide)
    rcases (by omega : mixF far (b + 1) 2 = 0 ∨ mixF far (b + 1) 2 = 1) with e | e
    · rw [e, Int.zero_mul]; exact h.pair l (by omega) (by omega) b0 b1 ho.1 ho.2
    · rw [e, Int.one_mul]; exact h.pair l (by omega) (by omega) b0 b1 ho.1 ho.2
  · rw [if_neg c1]
    have h3 := mixF_in (c := far) (k := b + 2) (m := 3) (by decide)
    obtain ⟨ok, h4⟩ := h.put (g := decide (mixF far b 5 > 0)) b0 b1 h3.1 h3.2 ho.1 ho.2
    exact ⟨ok, h4.mono (by omega)⟩
theorem Ph.boxes {m : Nat} {far step : Int} (m0 : 0 < m) (m60 : m ≤ 60) : ∀ (k : Nat) {S : Ch}, Ph S m 0 0 → k ≤ m → runOk S ((rngL k).flatMap (LW.boxL far m step)) ∧ Ph (run S ((rngL k).flatMap (LW.boxL far m step))) m 0 k
  | 0, S, h, _ => ⟨trivial, h⟩
  | k + 1, S, h, l => by
    obtain ⟨h1, h2⟩ := Ph.boxes m0 m60 (far := far) (step := step) k h (by omega)
    rw [rngL_succ, List.flatMap_append, List.flatMap_singleton, run_app]
    obtain ⟨h3, h4⟩ := h2.boxL (far := far) (step := step) (b := (k : Int)) m0 (by omega) (by omega) (by omega)
    exact ⟨runOk_app h1 h3, h4⟩
theorem Ph.dropL {S : Ch} {m c : Nat} {far : Int} {b : Int} (h : Ph S m b c) (b0 : 0 ≤ b) (b1 : b < m) : runOk S (dropL far b) ∧ Ph (run S (dropL far b)) m (b + 1) c := by
  unfold LW.dropL
  by_cases c1 : mixF far (b + 4) 6 > 0
  · rw [if_pos c1]
    obtain ⟨x, e, lx, hx⟩ := h.bx b b0 b1
    have ok := ok_drop e (hx (Int.le_refl _))
    refine ⟨⟨ok, trivial⟩, ?_⟩
    have G' := h.G.step ok
    show Ph (S.step (.drop b)).2.2 m (b + 1) c
    rw [st_drop2 e (by rw [hx (Int.le_refl _)]; decide)] at G' ⊢
    refine ⟨G', h.nb, by show (setB S.bs b fun _ => _).length = m; rw [setB_len]; exact h.len, fun i i0 i1 => ?_, h.ps⟩
    rw [sget_box e]
    by_cases c : i = b
    · rw [if_pos c]; exact ⟨_, rfl, lx, fun q => by omega⟩
    · rw [if_neg c]
      obtain ⟨y, e1, e2, e3⟩ := h.bx i i0 i1
      exact ⟨y, e1, e2, fun q => e3 (by omega)⟩
  · rw [if_neg c1]
    refine ⟨trivial, h.G, h.nb, h.len, fun i i0 i1 => ?_, h.ps⟩
    obtain ⟨y, e1, e2, e3⟩ := h.bx i i0 i1
    exact ⟨y, e1, e2, fun q => e3 (by omega)⟩
theorem Ph.drops {m c : Nat} {far : Int} : ∀ (k : Nat) {S : Ch}, Ph S m 0 c → k ≤ m → runOk S ((rngL k).flatMap (LW.dropL far)) ∧ Ph (run S ((rngL k).flatMap (LW.dropL far))) m k c
  | 0, S, h, _ => ⟨trivial, h⟩
  | k + 1, S, h, l => by
    obtain ⟨h1, h2⟩ := Ph.drops (far := far) k h (by omega)
    rw [rngL_succ, List.flatMap_append, List.flatMap_singleton, run_app]
    obtain ⟨h3, h4⟩ := h2.dropL (far := far) (by omega) (by omega)
    exact ⟨runOk_app h1 h3, h4⟩
theorem Ph.tail {S : Ch} {m c : Nat} {j far : Int} (h : Ph S m j c) (hm : far / 9 % 6 = 2 → m + 3 ≤ 60 ∧ c < 60) : runOk S (tailL far m) := by
  unfold tailL
  by_cases c1 : far / 9 % 6 = 2
  · rw [if_pos c1]
    obtain ⟨m57, c60⟩ := hm c1
    have G0 := h.G
    have nb0 := h.nb
    have l0 := h.len
    have p0 := h.ps
    have k1 := ok_make (S := S) (n := 1) (by decide) (by decide) (by omega)
    have G1 := G0.step k1
    have e1 := step_make (S := S) (n := 1) (by decide) (by decide) (by omega)
    refine ⟨k1, ?_⟩
    rw [e1] at G1 ⊢
    have g1 := get_made G0 1
    have l1 : (S.made 1).bs.length = m + 1 := by show (S.bs ++ [_]).length = _; rw [List.length_append, l0]; rfl
    have nb1 : (S.made 1).nb = (m : Int) + 1 := by show S.nb + 1 = _; rw [nb0]
    have p1 : (S.made 1).ps.length ≤ c := p0
    generalize S.made 1 = S1 at *
    have k2 := ok_make (S := S1) (n := 2) (by decide) (by decide) (by omega)
    have G2 := G1.step k2
    have e2 := step_make (S := S1) (n := 2) (by decide) (by decide) (by omega)
    refine ⟨k2, ?_⟩
    rw [e2] at G2 ⊢
    have g2 := get_made G1 2
    have l2 : (S1.made 2).bs.length = m + 2 := by show (S1.bs ++ [_]).length = _; rw [List.length_append, l1]; rfl
    have nb2 : (S1.made 2).nb = (m : Int) + 2 := by show S1.nb + 1 = _; rw [nb1]; omega
    have p2 : (S1.made 2).ps.length ≤ c := p1
    generalize S1.made 2 = S2 at *
    have k3 := ok_make (S := S2) (n := 1) (by decide) (by decide) (by omega)
    have G3 := G2.step k3
    have e3 := step_make (S := S2) (n := 1) (by decide) (by decide) (by omega)
    refine ⟨k3, ?_⟩
    rw [e3] at G3 ⊢
    have g3 := get_made G2 1
    have p3 : (S2.made 1).ps.length ≤ c := p2
    generalize S2.made 1 = S3 at *
    have q0 : S3.get (m : Int) = some ⟨List.replicate 1 none, true, []⟩ := by
      rw [g3, if_neg (by omega), g2, if_neg (by omega), g1, if_pos (by omega)]; rfl
    have q1 : S3.get ((m : Int) + 1) = some ⟨List.replicate 2 none, true, []⟩ := by
      rw [g3, if_neg (by omega), g2, if_pos (by omega)]; rfl
    have q2 : S3.get ((m : Int) + 2) = some ⟨List.replicate 1 none, true, []⟩ := by
      rw [g3, if_pos (by omega)]; rfl
    have ne : ∀ {S : Ch} {b : Int} {x : Bx}, S.get b = some x → S.get b ≠ none := fun e => by rw [e]; exact fun z => nomatch z
    have k4 := ok_pair (ne q0) (ne q1) (ne q2) (by omega)
    refine ⟨k4, ?_⟩
    have e4 : S3.step (.pair (m : Int) (m + 1) (m + 2)) = (("" : Str), some S3.np, S3.tied m (m + 1) (m + 2)) := by
      rw [st_pair, if_neg (fun z => z.elim (ne q0) fun z => z.elim (ne q1) (ne q2)), if_neg (by omega)]
    rw [e4]
    have r0 : (S3.tied m (m + 1) (m + 2)).get (m : Int) = some ⟨List.replicate 1 none, true, []⟩ := q0
    have r1 : (S3.tied m (m + 1) (m + 2)).get ((m : Int) + 1) = some ⟨List.replicate 2 none, true, []⟩ := q1
    have r2 : (S3.tied m (m + 1) (m + 2)).get ((m : Int) + 2) = some ⟨List.replicate 1 none, true, []⟩ := q2
    generalize S3.tied m (m + 1) (m + 2) = S4 at *
    have gw : ([Deed.up, .down (m : Int)] : List Deed).any Deed.isNeg = false := by
      show (false || (decide ((m : Int) < 0) || false)) = false
      rw [decide_eq_false (by omega)]; rfl
    have k5 := ok_will (ne r1) (by show 2 ≤ 9; decide) gw
    refine ⟨k5, ?_⟩
    rw [st_will2 r1 (fun z => z.elim (fun z => absurd z (by show ¬ (9 < 2); decide)) fun z => by rw [gw] at z; cases z)]
    have t0 := sget_box (m := (m : Int)) (y := (⟨List.replicate 2 none, true, [.up, .down (m : Int)]⟩ : Bx)) r1
    have t1 := sget_box (m := (m : Int) + 1) (y := (⟨List.replicate 2 none, true, [.up, .down (m : Int)]⟩ : Bx)) r1
    have t2 := sget_box (m := (m : Int) + 2) (y := (⟨List.replicate 2 none, true, [.up, .down (m : Int)]⟩ : Bx)) r1
    rw [if_neg (by omega), r0] at t0
    rw [if_pos rfl] at t1
    rw [if_neg (by omega), r2] at t2
    generalize (S4.box ((m : Int) + 1) ⟨List.replicate 2 none, true, [.up, .down (m : Int)]⟩) = S5 at *
    refine ⟨ok_drop t1 rfl, ?_⟩
    rw [st_drop2 t1 (by show ¬ (true = false); decide)]
    have u0 := sget_box (m := (m : Int)) (y := (⟨List.replicate 2 none, false, [.up, .down (m : Int)]⟩ : Bx)) t1
    have u1 := sget_box (m := (m : Int) + 1) (y := (⟨List.replicate 2 none, false, [.up, .down (m : Int)]⟩ : Bx)) t1
    have u2 := sget_box (m := (m : Int) + 2) (y := (⟨List.replicate 2 none, false, [.up, .down (m : Int)]⟩ : Bx)) t1
    rw [if_neg (by omega), t0] at u0
    rw [if_pos rfl] at u1
    rw [if_neg (by omega), t2] at u2
    generalize (S5.box ((m : Int) + 1) ⟨List.replicate 2 none, false, [.up, .down (m : Int)]⟩) = S6 at *
    refine ⟨ok_drop u2 rfl, ?_⟩
    rw [st_drop2 u2 (by decide)]
    have v0 := sget_box (m := (m : Int)) (y := (⟨List.replicate 1 none, false, []⟩ : Bx)) u2
    have v1 := sget_box (m := (m : Int) + 1) (y := (⟨List.replicate 1 none, false, []⟩ : Bx)) u2
    rw [if_neg (by omega), u0] at v0
    rw [if_neg (by omega), u1] at v1
    generalize (S6.box ((m : Int) + 2) ⟨List.replicate 1 none, false, []⟩) = S7 at *
    exact ⟨ok_put v1 (by decide) (by show (0 : Int) < 2; decide) (ne v0), trivial⟩
  · rw [if_neg c1]; trivial
theorem laid_ok (far : Int) : runOk ⟨0, 0, [], []⟩ (laidF far) := by
  unfold laidF
  have hm : 3 ≤ manyL far ∧ manyL far ≤ 60 ∧ (far / 9 % 6 = 2 → manyL far ≤ 11) := by
    unfold manyL
    split <;> omega
  have h0 : Ph ⟨0, 0, [], []⟩ 0 0 0 := ⟨Good.empty, rfl, rfl, fun i i0 i1 => by omega, Nat.le_refl _⟩
  obtain ⟨m, em⟩ : ∃ m : Nat, manyL far = (m : Int) := ⟨(manyL far).toNat, by omega⟩
  rw [em] at hm ⊢
  rw [Int.toNat_natCast]
  obtain ⟨h1, h2⟩ := Ph.makes m h0 (by omega)
  rw [Nat.zero_add] at h2
  obtain ⟨h3, h4⟩ := Ph.boxes (m := m) (far := far) (step := stepL far) (by omega) (by omega) m h2 (Nat.le_refl _)
  obtain ⟨h5, h6⟩ := Ph.drops (far := far) m h4 (Nat.le_refl _)
  have h7 := h6.tail (far := far) (fun c => ⟨by have := hm.2.2 c; omega, by have := hm.2.2 c; omega⟩)
  exact runOk_app (runOk_app (runOk_app h1 h3) (by rw [run_app]; exact h5)) (by rw [run_app, run_app]; exact h7)
end
section
variable {P : Program} {w : World} {K : PySem.W.Frag} {mg : Str → Option Value} {base : Heap} {a : Ad}
theorem cut_ints (ns : List Int) (lo hi : Option Int) : ∃ zs : List Int, cutV (ns.map V.int) lo hi = zs.map V.int ∧ zs.length ≤ ns.length :=
  ⟨(ns.drop (HT.sIx (ns.map V.int).length 0 lo)).take (HT.sIx (ns.map V.int).length (ns.map V.int).length hi - HT.sIx (ns.map V.int).length 0 lo), by unfold cutV; rw [List.map_take, List.map_drop], by rw [List.length_take, List.length_drop]; omega⟩
theorem sql_fr {K : PySem.W.Frag} {H H' : Hp} {p : Addr} {xs : List V} (h : SqL K H p xs) (f : ∀ o, H p = some o → H' p = some o) : SqL K H' p xs := by
  rcases h with (h | ⟨o, h⟩) | h
  · exact .inl (.inl (f _ h))
  · exact .inl (.inr ⟨o, f _ h⟩)
  · exact .inr h
/-- the cells: deeds that are laid, or none, and numbers -/
def spCells (K : PySem.W.Frag) : Sp := fun vs H Q _ => ∃ (s : Addr) (ns : List Int), vs = [.ref s] ∧ SqL K H s (ns.map V.int) ∧ ns.length ≤ 63 ∧
  ∀ (r : Addr) (us : List V) (zs : List Int) (ds : List LD) (H' : Hp), H r = none → Same H H' → H' r = some (.lst (us ++ zs.map V.int)) → Paired (LDV (fun b => H b = none) H') us ds → (ds = [] ∨ ∃ far, ds = laidF far) → (us ++ zs.map V.int).length ≤ 400 → Q (.ref r) H'
theorem laidF_len (far : Int) : (laidF far).length ≤ 300 := by
  unfold laidF
  have h1 : (manyL far).toNat ≤ 60 := by
    unfold manyL
    split <;> omega
  have h2 := len_flat (f := boxL far (manyL far) (stepL far)) (c := 2) (fun x => boxL_len _ _ _ _) (rngL (manyL far).toNat)
  have h3 := len_flat (f := dropL far) (c := 1) (fun x => dropL_len _ _) (rngL (manyL far).toNat)
  have h4 : (tailL far (manyL far)).length ≤ 8 := by
    unfold tailL
    split <;> simp
  rw [rngL_len] at h2 h3
  simp only [List.length_append, List.length_replicate]
  omega
theorem ok_law_cells (T : Txt a K mg) : FnOk P w K mg base (CN P w) 3 a.f_law_cells a.fd_law_cells ["_law_script"] (spCells K) := by
  refine okN T.F_law_cells sc_law_cells (fun vs H Q E h => ?_) (fun cdv A outer s H vs Q E hr h => ?_)
  · obtain ⟨s, ns, rfl, _⟩ := h; rfl
  · obtain ⟨s0, ns, rfl, hs, hn, k⟩ := h
    have hr1 : Room 1 _ := hr.mono (by decide); have hr2 : Room 2 _ := hr.mono (by decide);
    refine ⟨_, (pss_cons (ps_set (i := 1) sc_law_cells.nd rfl (Or.inr rfl) (pe_call (ok_law_cell_at T) hr1 rfl T.mg_law_cell_at T.F_law_cell_at.kp T.b_law_cell_at .nil pass0N (pa_cons (pv 0) (pa_cons pe_int pa_nil))))
      (pss_cons (ps_if (pt_cmpR op_eq (pe_op op_mod (pv 1) pe_int) pe_int (nomark _)) (pss_one (ps_ret (pe_op op_cat (pe_call (ok_law_laid T) hr2 rfl T.mg_law_laid T.F_law_laid.kp T.b_law_laid .nil pass0N (pa_cons (pe_op op_fdiv (pv 1) pe_int) pa_nil)) (pe_slice sl_list (pv 0) (po_some pe_int) (po_some pe_int))))) pss_nil)
      (pss_cons (ps_if (pt_cmpR op_eq (pe_op op_mod (pv 1) pe_int) pe_int (nomark _)) (pss_one (ps_ret (pe_op op_cat (pe_lc (own := [("_law_k", 2)]) (g := gName 2) (tt := tYes) (te := (tOp (rI0 fun i j => .int (i + j)) (tOp _ (tVar 1) (tC (.int 12))) (tOp (rI CMul fun i j => .int (i * j)) (tC (.int 17)) (tVar 2)))) (by rfl) sc_law_cells.nd (pi_range1 (by rfl) T.no_range (pa_cons (pe_op op_add pe_int (pe_op op_mod (pe_op op_fdiv (pv 1) pe_int) pe_int)) pa_nil)) (blkOk_by (own := [("_law_k", 2)]) (N := N_law_cells) (sc := defScope s_law_cells) (by decide +kernel)) (fun _ _ _ _ _ => (pg_name (i := 2) sc_law_cells.nd rfl (Or.inl rfl))) (fun _ _ _ _ _ => pts_nil) (fun _ _ _ _ _ => (pe_op op_add (pe_op op_fdiv (pv 1) pe_int) (pe_op op_mul pe_int (pv 2))))) (pe_slice sl_list (pv 0) (po_some pe_int) (po_some pe_int))))) pss_nil)
      (pss_one (ps_ret (pe_slice sl_list (pv 0) (po_some pe_int) (po_some pe_int))))))), ?_⟩
    try dsimp only [cxOf]
    walk_at "gos"
    refine ⟨s0, ns, 0, rfl, hs, by decide, ?_⟩
    generalize cellAt ns 0 = far
    walk_at "gos"
    refine g_rI (by decide) ?_
    walk_at "gos"
    refine g_ite (fun c1 => ?_) (fun c1 => ?_)
    · walk_at "gos"
      refine g_rI (by exact ⟨by decide, by decide⟩) ?_
      walk_at "gos"
      refine ⟨_, rfl, fun r us H1 hr1 s1 e1 pu => ?_⟩
      walk_at "gos"
      refine ⟨1, rfl, ?_⟩
      walk_at "gos"
      refine ⟨_, rfl, ?_⟩
      refine ⟨s0, _, rfl, sql_fr hs (s1 _), fun p hp => ?_⟩
      obtain ⟨zs, ez, lz⟩ := cut_ints ns (some 1) (some 30)
      rw [ez] at *
      have n1 := Same.new (o := HO.lst (zs.map V.int)) hp
      have lu := pu.length
      have lf := laidF_len (far / 3)
      refine ⟨r, p, us, _, rfl, rfl, n1 _ _ e1, upd_same, ?_, fun r2 hr2 => ?_⟩
      · rw [List.length_map]
        exact Nat.le_trans (by omega : us.length + zs.length ≤ 1000) (by decide)
      · have n2 := Same.new (o := HO.lst (us ++ zs.map V.int)) hr2
        refine k r2 us zs (laidF (far / 3)) _ (free_same s1 (none_upd hr2).2) ((s1.trans n1).trans n2) upd_same (L2.Paired.mapP pu fun _ _ h => (h.same n1).same n2) (.inr ⟨_, rfl⟩) ?_
        rw [List.length_append, List.length_map]; omega
    · walk_at "gos"
      refine g_rI (by decide) ?_
      walk_at "gos"
      refine g_ite (fun c2 => ?_) (fun c2 => ?_)
      · walk_at "gos"
        refine g_rI (by exact ⟨by decide, by decide⟩) ?_
        walk_at "gos"
        refine g_rI (by decide) ?_
        have hb : 0 ≤ far / 12 % 60 ∧ far / 12 % 60 < 60 := by omega
        walk_at "gos"
        refine ⟨_, rfl, by omega, by omega, fun D hD => lc_range (lo := 0) (n := (60 + far / 12 % 60).toNat) (fun i H1 => Same H H1 ∧ ∃ zs : List Int, H1 D = some (.lst (zs.map V.int)) ∧ zs.length = i) ⟨Same.new hD, [], upd_same, rfl⟩ ?_ ?_⟩
        · rintro i H1 hi ⟨s1, zs, e1, lz⟩
          walk_at "go"
          refine ⟨rfl, ?_⟩
          walk_at "gos"
          refine g_rI (by exact ⟨by decide, by decide⟩) ?_
          walk_at "gos"
          refine g_rI (.inl ⟨by decide, by decide⟩) ?_
          walk_at "gos"
          refine ⟨_, e1, small1000 (by rw [List.length_map]; omega), fun b o eb => ?_, zs ++ [_], by rw [upd_same, List.map_append]; rfl, by rw [List.length_append, lz]; rfl⟩
          rw [upd_ne (ne_of_none eb hD)]; exact s1 _ _ eb
        · rintro H1 ⟨s1, zs, e1, lz⟩
          walk_at "gos"
          refine ⟨1, rfl, ?_⟩
          walk_at "gos"
          refine ⟨_, rfl, ?_⟩
          refine ⟨s0, _, rfl, sql_fr hs (s1 _), fun p hp => ?_⟩
          obtain ⟨zs2, ez, lz2⟩ := cut_ints ns (some 1) (some 20)
          rw [ez] at *
          have n1 := Same.new (o := HO.lst (zs2.map V.int)) hp
          refine ⟨D, p, _, _, rfl, rfl, n1 _ _ e1, upd_same, ?_, fun r2 hr2 => ?_⟩
          · rw [List.length_map, List.length_map]
            exact Nat.le_trans (by omega : zs.length + zs2.length ≤ 1000) (by decide)
          · have n2 := Same.new (o := HO.lst (zs.map V.int ++ zs2.map V.int)) hr2
            refine k r2 [] (zs ++ zs2) [] _ (free_same s1 (none_upd hr2).2) ((s1.trans n1).trans n2) (by rw [upd_same, List.nil_append, List.map_append]) .nil (.inl rfl) ?_
            rw [List.nil_append, List.length_map, List.length_append]; omega
      · walk_at "gos"
        refine ⟨1, rfl, ?_⟩
        walk_at "gos"
        refine ⟨_, rfl, ?_⟩
        refine ⟨s0, _, rfl, hs, fun p hp => ?_⟩
        obtain ⟨zs2, ez, lz2⟩ := cut_ints ns (some 1) (some 80)
        rw [ez] at *
        exact k p [] zs2 [] _ hp (Same.new hp) upd_same .nil (.inl rfl) (by rw [List.nil_append, List.length_map]; omega)
end
section
variable {P : Program} {w : World} {K : PySem.W.Frag} {mg : Str → Option Value} {base : Heap} {a : Ad}
/-! ### where a box, a pair stands in the reckoning -/
theorem wslot {H : Hp} {q : Addr} {L : LWd} {S : Ch} (hW : WdAt H q L) (hS : WSem H L S) (G : Good S) {o : Int} {y : Bx} (m : (o, y) ∈ S.bs) : ∃ l vs, L.A.lookup o = some (l, vs) ∧ H l = some (.lst vs) ∧ Paired (SlotV H) vs y.sl := by
  have e := G.get m
  cases el : L.A.lookup o with
  | none => rw [(hS.lk o).1.mp el] at e; cases e
  | some lv =>
    obtain ⟨l, vs⟩ := lv
    obtain ⟨y2, ey2, py⟩ := (hS.lk o).2 _ el
    rw [e] at ey2; cases ey2
    exact ⟨l, vs, rfl, hW.sA _ (lk_mem el), py⟩
theorem wpair {H : Hp} {q : Addr} {L : LWd} {S : Ch} (hW : WdAt H q L) (hS : WSem H L S) (G : Good S) {n x k v : Int} (m : (n, (x, k, v)) ∈ S.ps) : ∃ t, L.R.lookup n = some t ∧ H t = some (.tup [.int x, .int k, .int v]) := by
  have e := lk_of_mem G.kp m
  cases el : L.R.lookup n with
  | none => rw [(hS.plk n).1.mp el] at e; cases e
  | some t =>
    obtain ⟨y2, ey2, py⟩ := (hS.plk n).2 _ el
    rw [e] at ey2; cases ey2
    exact ⟨t, rfl, py⟩
end
section
variable {P : Program} {w : World} {K : PySem.W.Frag} {mg : Str → Option Value} {base : Heap} {a : Ad}
/-! ### what is lost -/
open Classical in
noncomputable def Ch.lostL (S : Ch) : List Int := (S.bs.map (·.1)).filter fun b => decide (¬ Come S b)
theorem valV_app : ∀ {a b : List (Key × V)} {k : Key}, valV a k = none → valV (a ++ b) k = valV b k
  | [], _, _, _ => rfl
  | (k', v) :: a, b, k, h => by
    by_cases e : k' = k
    · subst e; rw [valV_pos rfl] at h; cases h
    · rw [List.cons_append, valV_neg e, valV_app (by rw [valV_neg e] at h; exact h)]
theorem mergeK_new : ∀ {kvs acc : List (Key × V)}, (kvs.map (·.1)).Nodup → (∀ k ∈ kvs.map (·.1), valV acc k = none) → mergeK acc kvs = acc ++ kvs
  | [], acc, _, _ => by simp [mergeK]
  | (k, v) :: kvs, acc, nd, h => by
    obtain ⟨n1, n2⟩ := List.nodup_cons.mp nd
    show mergeK (putK acc k v) kvs = _
    rw [putK_new _ (h k List.mem_cons_self), mergeK_new n2 fun k' m => ?_, List.append_assoc]
    · rfl
    · have h1 := h k' (List.mem_cons_of_mem _ m)
      have ne : k ≠ k' := fun e => n1 (e ▸ m)
      rw [valV_app h1, valV_neg ne]; rfl
theorem closed_iff {S : Ch} {R : List (Int × Why)} (hR : RightR S R) (hC : Closed S (keys R)) (b : Int) : b ∈ keys R ↔ Come S b := ⟨hR.come b, hC.come⟩
open Classical in
theorem lost_of {S : Ch} {ks : List Int} (h : ∀ b, b ∈ ks ↔ Come S b) : (S.bs.map (·.1)).filter (fun b => !decide (b ∈ ks)) = S.lostL := by
  unfold Ch.lostL
  refine List.filter_congr fun b _ => ?_
  by_cases c : b ∈ ks
  · rw [decide_eq_true c]; exact (decide_eq_false (fun z => z ((h b).mp c))).symm
  · rw [decide_eq_false c]; exact (decide_eq_true (p := ¬ Come S b) fun z => c ((h b).mpr z)).symm
theorem drow_keysI {R : List (Int × Why)} (nd : (keys R).Nodup) : ((keys R).map (Sum.inl : Int → Key)).Nodup :=
  List.Pairwise.map _ (fun _ _ ne e => ne (Sum.inl.inj e)) nd
theorem rows_refs {H : Hp} : ∀ {us : List V} {R : List (Int × Why)}, Paired (RowW H) us R → ∃ ps kvs, us = ps.map V.ref ∧ Paired (fun p (kv : Key × V) => H p = some (.tup [kV kv.1, kv.2])) ps kvs ∧ kvs.map (·.1) = (keys R).map Sum.inl
  | _, _, .nil => ⟨[], [], rfl, .nil, rfl⟩
  | _, _, .cons (b := r) ⟨t, w, e, et, _⟩ q => by
    obtain ⟨ps, kvs, e1, e2, e3⟩ := rows_refs q
    exact ⟨t :: ps, ((Sum.inl r.1 : Key), V.ref w) :: kvs, by rw [e, e1]; rfl, .cons et e2, by rw [List.map_cons, e3]; rfl⟩
def spLost (a : Ad) : Sp := fun vs H Q _ => ∃ (p : Addr) (S : Ch) (O : List Addr), vs = [.ref p] ∧ ChestAt a.Chest a.Box H p S O ∧ Good S ∧ ∀ q H', H q = none → Same H H' → H' q = some (.lst (S.lostL.map V.int)) → Q (.ref q) H'
theorem ok_lost (T : Txt a K mg) : FnOk P w K mg base (CN P w) 5 a.f_lost a.fd_lost ["chest"] (spLost a) := by
  refine okN T.F_lost sc_lost (fun vs H Q E h => ?_) (fun cdv A outer s H vs Q E hr h => ?_)
  · obtain ⟨p, S, O, rfl, _⟩ := h; rfl
  · obtain ⟨p, S, O, rfl, hS, G, k⟩ := h
    have hu := hu_of hr
    have hr1 : Room 1 _ := hr.mono (by decide); have hr4 : Room 4 _ := hr.mono (by decide);
    refine ⟨_, (pss_cons (ps_set (i := 1) sc_lost.nd rfl (Or.inr rfl) (pe_callTy (call_dictP rfl) (by rfl) T.no_dict (by decide +kernel) (pa_cons (pe_call (ok_come_to T) hr4 rfl T.mg_come_to T.F_come_to.kp T.b_come_to .nil pass0N (pa_cons (pv 0) pa_nil)) pa_nil)))
      (pss_one (ps_ret (pe_lc (own := [("box", 2)]) (g := gName 2) (tt := (tB (tDNotIn (tVar 2) (tVar 1)))) (te := (tVar 2)) (by rfl) sc_lost.nd (pi_list (pe_meth0 (pv 0) T.cl_Chest T.m_Chest_boxes (ok_Chest_boxes T) hr1 T.b_Chest_boxes .nil pass0N)) (blkOk_by (own := [("box", 2)]) (N := N_lost) (sc := defScope s_lost) (by decide +kernel)) (fun _ _ _ _ _ => (pg_name (i := 2) sc_lost.nd rfl (Or.inl rfl))) (fun _ _ _ _ _ => pts_one (pt_cmp (pc_dnotin hu (pv 2) (pv 1)))) (fun _ _ _ _ _ => (pv 2)))))), ?_⟩
    try dsimp only [cxOf]
    walk_at "go"
    refine ⟨p, S, O, rfl, hS, G, fun rl H1 us R hrl s1 e1 pu hR hC l60 => ?_⟩
    obtain ⟨ps, kvs, rfl, pk, ek⟩ := rows_refs pu
    walk_at "go"
    refine ⟨rl, ps, kvs, rfl, SqL.of e1, L2.Paired.mapP pk fun _ _ h => SqT.of h, fun r hr0 => ?_⟩
    have em : mergeK [] kvs = kvs := by
      rw [mergeK_new (by rw [ek]; exact drow_keysI hR.nodup) (fun k m => rfl)]; rfl
    rw [em]
    have n2 := Same.new (o := HO.dK kvs) hr0
    have s2 := s1.trans n2
    have er := upd_same (H := H1) (a := r) (o := HO.dK kvs)
    obtain ⟨H2, e2⟩ : ∃ H2, upd H1 r (.dK kvs) = H2 := ⟨_, rfl⟩
    rw [e2] at n2 s2 er ⊢
    obtain ⟨C, hC0, hCS, eO⟩ := id hS
    have hC2 := hC0.same s2
    have hob := hC2.ob
    walk_at "go"
    refine ⟨p, _, _, rfl, hob, fChest_no (by decide +kernel) (by decide +kernel) (by decide +kernel) (by decide +kernel), ?_⟩
    walk_at "go"
    refine ⟨p, C, rfl, hC2, fun bl hbl => ?_⟩
    have ekeys : C.B.map (·.1) = S.bs.map (·.1) := keys_eq (fun _ _ k => k.1) hCS.bs
    rw [ekeys]
    have n3 := Same.new (o := HO.lst ((S.bs.map (·.1)).map V.int)) hbl
    refine ⟨bl, rfl, ⟨_, SqL.of upd_same⟩, fun D hD => lc_list (K := K) (a := bl) (xs := (S.bs.map (·.1)).map V.int)
      (fun i H4 => Same H2 H4 ∧ H4 bl = some (.lst ((S.bs.map (·.1)).map V.int)) ∧ H4 D = some (.lst ((((S.bs.map (·.1)).take i).filter fun b => !decide (b ∈ keys R)).map V.int))) ⟨n3.trans (Same.new hD), (Same.new hD) _ _ upd_same, upd_same⟩ (fun i H4 _ h => SqL.of h.2.1) ?_ ?_⟩
    · rintro i x H4 hx ⟨s4, e4, d4⟩
      rw [List.getElem?_map] at hx
      obtain ⟨b, hb, rfl⟩ := Option.map_eq_some_iff.mp hx
      have i60 : i < 60 := by
        have := (List.getElem?_eq_some_iff.mp hb).1
        rw [List.length_map] at this
        have := G.zb
        omega
      have hDn : H2 D = none := (none_upd hD).2
      rw [take_snoc hb, List.filter_append]
      walk_at "go"
      refine ⟨rfl, ?_⟩
      walk_at "go"
      refine ⟨_, _, rfl, DGet.k (k := Sum.inl b) (s4 _ _ er), ?_⟩
      rw [valV_keys ek]
      walk_at "go"
      refine g_iteN (fun c => ?_) (fun c => ?_)
      · rw [show ([b].filter fun b => !decide (b ∈ keys R)) = [b] by rw [List.filter_cons, if_pos (by simpa using c)]; rfl]
        walk_at "go"
        refine ⟨_, d4, small1000 (by
          rw [List.length_map]
          have := List.length_filter_le (fun b => !decide (b ∈ keys R)) ((S.bs.map (·.1)).take i)
          rw [List.length_take] at this
          omega), fun c o e => ?_, ?_, ?_⟩
        · rw [upd_ne (ne_of_none e hDn)]; exact s4 _ _ e
        · rw [upd_ne (fun z => by rw [← z] at hD; rw [upd_same] at hD; cases hD)]; exact e4
        · rw [upd_same, List.map_append]; rfl
      · rw [show ([b].filter fun b => !decide (b ∈ keys R)) = [] by rw [List.filter_cons, if_neg (by simpa using c)]; rfl, List.append_nil]
        walk_at "go"
        exact ⟨s4, e4, d4⟩
    · rintro H4 ⟨s4, e4, d4⟩
      rw [List.length_map, List.take_length, lost_of (closed_iff hR hC)] at d4
      walk_at "go"
      exact k D H4 (free_same s2 (none_upd hD).2) (s2.trans s4) d4
end
section
variable {P : Program} {w : World} {K : PySem.W.Frag} {mg : Str → Option Value} {base : Heap} {a : Ad}
/-! ### what is come to, reckoned by adding -/
def spKnown : Sp := fun vs H Q _ => ∃ (q : Addr) (S : Ch) (O : List Addr), vs = [.ref q] ∧ WorldAt H q S O ∧ Good S ∧ ∀ (kd : Addr) (H' : Hp) (kvs : List (Key × V)) (ks : List Int), H kd = none → Same H H' → H' kd = some (.dK kvs) → kvs.map (·.1) = ks.map Sum.inl → (∀ b, b ∈ ks ↔ Come S b) → Q (.ref kd) H'
def KnI (S : Ch) (H : Hp) (q kd : Addr) (m : Nat) (σ : L2.St) (H4 : Hp) : Prop := ∃ (kvs : List (Key × V)) (ks : List Int) (g : Bool) (v2 v4 : Option V), σ = [some (.ref q), some (.ref kd), v2, some (.bl g), v4, none] ∧ Same H H4 ∧ H4 kd = some (.dK kvs) ∧ kvs.map (·.1) = ks.map Sum.inl ∧ ks.Nodup ∧ (∀ b ∈ ks, Come S b) ∧ (∀ b y, (b, y) ∈ S.bs → y.hand = true → b ∈ ks) ∧ (g = true ∨ Closed S ks) ∧ m = 2 * (61 - ks.length) + (if g then 1 else 0)
theorem nodup_snoc {ks : List Int} {n : Int} (h : ks.Nodup) (c : n ∉ ks) : (ks ++ [n]).Nodup := List.nodup_append.mpr ⟨h, List.nodup_cons.mpr ⟨(fun z => nomatch z), List.nodup_nil⟩, fun a m b m2 e => c (by rw [← List.mem_singleton.mp m2, ← e]; exact m)⟩
theorem known_len {S : Ch} (G : Good S) {ks : List Int} (nd : ks.Nodup) (h : ∀ b ∈ ks, Come S b) : ks.length ≤ 60 := by
  have := nodup_len nd (ys := S.bs.map (·.1)) fun x m => (h x m).there G
  rw [List.length_map] at this
  exact Nat.le_trans this G.zb
end
section
variable {P : Program} {w : World} {K : PySem.W.Frag} {mg : Str → Option Value} {base : Heap} {a : Ad}
/-! ### what is lost, reckoned -/
theorem lost_len {S : Ch} (G : Good S) : S.lostL.length ≤ 60 := by
  unfold Ch.lostL
  refine Nat.le_trans (List.length_filter_le _ _) ?_
  rw [List.length_map]; exact G.zb
theorem c2_intsE {H : Hp} : ∀ (ns : List Int), ∃ ds, Paired (C2 H) (ns.map V.int) ds
  | [] => ⟨[], .nil⟩
  | n :: ns => (c2_intsE ns).elim fun ds h => ⟨.int n :: ds, .cons (.inl (.inl (.int n))) h⟩
def spLostW : Sp := fun vs H Q _ => ∃ (q : Addr) (S : Ch) (O : List Addr), vs = [.ref q] ∧ WorldAt H q S O ∧ Good S ∧ ∀ (r : Addr) (H' : Hp), H r = none → Same H H' → H' r = some (.lst (S.lostL.map V.int)) → Q (.ref r) H'
end
section
variable {P : Program} {w : World} {K : PySem.W.Frag} {mg : Str → Option Value} {base : Heap} {a : Ad}
/-! ### a chest, its reckoning, what was kept -/
theorem chest_new {cC cB : Addr} {H1 H2 : Hp} {p dx d1 d2 : Addr} (hp : H1 p = none) (hdx : H1 dx = none) (hd1 : upd (upd H1 dx (.own p)) p (.ins cC dx []) d1 = none) (hd2 : upd (upd H1 dx (.own p)) p (.ins cC dx []) d2 = none) (hd12 : d1 ≠ d2)
    (kp : ∀ b o, b ≠ p → upd (upd H1 dx (.own p)) p (.ins cC dx []) b = some o → H2 b = some o) (hp2 : H2 p = some (.ins cC dx (fChest 0 0 d1 d2))) (hd1' : H2 d1 = some (.dK [])) (hd2' : H2 d2 = some (.dK [])) :
    Same H1 H2 ∧ ∃ O, ChestAt cC cB H2 p ⟨0, 0, [], []⟩ O ∧ ∀ b, b ∈ O → H1 b = none := by
  have n1 := none_upd hd1
  have n2 := none_upd hd2
  have m1 := none_upd n1.2
  have m2 := none_upd n2.2
  refine ⟨fun b o e => kp b o (ne_of_none e hp) (by rw [upd_ne (ne_of_none e hp), upd_ne (ne_of_none e hdx)]; exact e), _, ⟨⟨dx, d1, d2, 0, 0, [], []⟩,
    ⟨hp2, hd1', hd2', fun e he => (by cases he), (by simp [own, ownBs]; exact ⟨⟨n1.1.symm, n2.1.symm⟩, hd12⟩), List.Pairwise.nil, fun e he => (by cases he), List.Pairwise.nil, fun e he => (by cases he), Nat.zero_le _, Nat.zero_le _, ⟨Int.le_refl _, Int.le_refl _⟩⟩, ⟨rfl, rfl, .nil, .nil⟩, rfl⟩, fun b hb => ?_⟩
  simp only [own, ownBs, List.flatMap_nil, List.mem_cons, List.not_mem_nil, or_false] at hb
  rcases hb with rfl | rfl | rfl
  · exact hp
  · exact m1.2
  · exact m2.2
theorem LDM.dom {H : Hp} {M : Addr → Prop} {t : Addr} {d : LD} (h : LDM H M t d) : LDM H (fun l => M l ∧ ∃ o, H l = some o) t d := by
  refine ⟨h.1, fun x b l e => ⟨h.2 x b l e, ?_⟩⟩
  have h1 := h.1
  cases d with
  | will b ds =>
    obtain ⟨l2, us, e1, e2, _⟩ := h1
    rw [e] at e1; cases e1
    exact ⟨_, e2⟩
  | _ =>
    have h1 : H t = _ := h1
    rw [e] at h1; cases h1
theorem LDM.kp {H H' : Hp} {M : Addr → Prop} {t : Addr} {d : LD} (h : LDM H M t d) (f : ∀ l o, M l → H l = some o → H' l = some o) (tp : Tups H H') : LDM H' M t d := by
  obtain ⟨xs, ex⟩ := h.1.tup
  refine ⟨?_, fun x b l e => h.2 x b l (by rw [tp _ _ ex] at e; rw [ex]; exact e)⟩
  cases d with
  | will b ds =>
    obtain ⟨l, us, e1, e2, e3, e4⟩ := h.1
    exact ⟨l, us, tp _ _ e1, f _ _ (h.2 _ _ _ e1) e2, e3, L2.Paired.mapP e4 fun _ _ g => g.keep tp⟩
  | _ => exact tp _ _ h.1
structure Inv2 (a : Ad) (H0 H : Hp) (Fx : Addr → Prop) (p q : Addr) (S : Ch) (O : List Addr) (kp : Addr) (N : List Addr) (m : Nat) : Prop where
  A : Both a H p q S O
  K : KeptAt H kp N m
  an : ∀ b, b ∈ O → b ∉ N
  fx : ∀ l, Fx l → (∃ o, H l = some o) ∧ l ∉ O ∧ l ∉ N
  fr : ∀ l o, Fx l → H0 l = some o → H l = some o
  tp : Tups H0 H
section
variable {H0 H H' : Hp} {Fx : Addr → Prop} {p q kp : Addr} {S S' : Ch} {O O' N N' : List Addr} {m m' : Nat}
theorem Inv2.same (h : Inv2 a H0 H Fx p q S O kp N m) (s : Same H H') : Inv2 a H0 H' Fx p q S O kp N m :=
  ⟨h.A.same s, h.K.same s, h.an, fun l x => ⟨(h.fx l x).1.elim fun o e => ⟨o, s _ _ e⟩, (h.fx l x).2⟩, fun l o x e => s _ _ (h.fr l o x e), fun t xs e => s _ _ (h.tp _ _ e)⟩
theorem gr_out {O O' : List Addr} {b : Addr} (g : Gr O O' H) (n : b ∉ O) (d : ∃ o, H b = some o) : b ∉ O' := fun m => (g b m).elim n fun e => by
  obtain ⟨o, h⟩ := d
  rw [e] at h; cases h
theorem Inv2.step (h : Inv2 a H0 H Fx p q S O kp N m) (f : Fr O H H') (g : Gr O O' H) (b : Both a H' p q S' O') : Inv2 a H0 H' Fx p q S' O' kp N m := by
  have t : Tups H H' := f.tups fun b z => h.A.dom z
  exact ⟨b, h.K.keep f t fun b x y => h.an b y x, fun b x y => gr_out g (fun z => h.an b z y) ((h.K.dom y).elim fun o z => ⟨o, z.1⟩) x,
    fun l x => ⟨(h.fx l x).1.elim fun o e => ⟨o, f _ _ e (h.fx l x).2.1⟩, gr_out g (h.fx l x).2.1 (h.fx l x).1, (h.fx l x).2.2⟩, fun l o x e => f _ _ (h.fr l o x e) (h.fx l x).2.1, fun t' xs e => t _ _ (h.tp _ _ e)⟩
theorem Inv2.kept (h : Inv2 a H0 H Fx p q S O kp N m) (f : Fr [kp] H H') (g : Gr N N' H) (k : KeptAt H' kp N' m') : Inv2 a H0 H' Fx p q S O kp N' m' := by
  have t : Tups H H' := h.K.tups f
  have n : ∀ b, b ∉ N → b ∉ [kp] := fun b x y => x (by rw [List.mem_singleton.mp y]; exact h.K.kpN)
  exact ⟨h.A.keep f t fun b x => n b (h.an b x), k, fun b x => gr_out g (h.an b x) ((h.A.dom x).elim fun o z => ⟨o, z.1⟩),
    fun l x => ⟨(h.fx l x).1.elim fun o e => ⟨o, f _ _ e (n l (h.fx l x).2.2)⟩, (h.fx l x).2.1, gr_out g (h.fx l x).2.2 (h.fx l x).1⟩, fun l o x e => f _ _ (h.fr l o x e) (n l (h.fx l x).2.2), fun t' xs e => t _ _ (h.tp _ _ e)⟩
end
theorem run_at : ∀ {ds : List LD} {S : Ch}, runOk S ds → ∀ (i : Nat) (d : LD), ds[i]? = some d → ((run S (ds.take i)).step d).1 = "" ∧ run S (ds.take (i + 1)) = ((run S (ds.take i)).step d).2.2
  | d0 :: ds, S, h, 0, d, e => by cases (Option.some.inj e : d0 = d); exact ⟨h.1, rfl⟩
  | d0 :: ds, S, h, i + 1, d, e => run_at (ds := ds) h.2 i d e
/-- a told deed and a done one: a chest and its reckoning behind -/
theorem both_step {H H1 H2 : Hp} {p q : Addr} {S S' : Ch} {Oc Ow Oc1 Ow2 : List Addr} (hC : ChestAt a.Chest a.Box H p S Oc) (hW : WorldAt H q S Ow) (dj : ∀ b, b ∈ Oc → b ∉ Ow) (f1 : Fr Oc H H1) (g1 : Gr Oc Oc1 H) (hC1 : ChestAt a.Chest a.Box H1 p S' Oc1)
    (f2 : Fr Ow H1 H2) (g2 : Gr Ow Ow2 H1) (hW2 : WorldAt H2 q S' Ow2) : Both a H2 p q S' (Oc1 ++ Ow2) ∧ Fr (Oc ++ Ow) H H2 ∧ Gr (Oc ++ Ow) (Oc1 ++ Ow2) H := by
  have t1 : Tups H H1 := f1.tups fun b m => hC.dom m
  have hW1 := hW.keep f1 t1 fun b m m2 => dj b m2 m
  have dj1 : ∀ b, b ∈ Oc1 → b ∉ Ow := fun b m m2 => (g1 b m).elim (fun m => dj b m m2) fun e => by
    obtain ⟨o, ho, _⟩ := hW.dom m2
    rw [e] at ho; cases ho
  have t2 : Tups H1 H2 := f2.tups fun b m => hW1.dom m
  have hC2 := hC1.keep f2 t2 dj1
  refine ⟨⟨Oc1, Ow2, hC2, hW2, fun b m m2 => (g2 b m2).elim (dj1 b m) fun e => ?_, rfl⟩, (f1.sub fun b m => List.mem_append_left _ m).trans (f2.sub fun b m => List.mem_append_right _ m), fun b m => ?_⟩
  · obtain ⟨o, ho, _⟩ := hC1.dom m
    rw [e] at ho; cases ho
  · rcases List.mem_append.mp m with m | m
    · exact (g1 b m).elim (fun m => .inl (List.mem_append_left _ m)) .inr
    · rcases g2 b m with m | e
      · exact .inl (List.mem_append_right _ m)
      · cases e3 : H b with
        | none => exact .inr rfl
        | some o =>
          by_cases c : b ∈ Oc
          · exact .inl (List.mem_append_left _ c)
          · rw [f1 _ _ e3 c] at e; cases e
theorem c2_why {H : Hp} {v : V} {r : Int × Why} (h : RowW H v r) : ∃ d, C2 H v d := by
  obtain ⟨t, w, rfl, e, ew⟩ := h
  obtain ⟨b, y⟩ := r
  have : ∃ d, C1 H (.ref w) d := by
    cases y with
    | hand => exact ⟨_, .inr ⟨w, _, _, rfl, ew, .cons (.str _ (by decide +kernel)) .nil, rfl⟩⟩
    | slot o s => exact ⟨_, .inr ⟨w, _, _, rfl, ew, .cons (.str _ (by decide +kernel)) (.cons (.int _) (.cons (.int _) .nil)), rfl⟩⟩
    | pair n => exact ⟨_, .inr ⟨w, _, _, rfl, ew, .cons (.str _ (by decide +kernel)) (.cons (.int _) .nil), rfl⟩⟩
  obtain ⟨d, hd⟩ := this
  exact ⟨.tuple [.int b, d], .inr ⟨t, _, _, rfl, e, .cons (.inl (.int _)) (.cons hd .nil), rfl⟩⟩
theorem c2_rowsW {H : Hp} : ∀ {us : List V} {R : List (Int × Why)}, Paired (RowW H) us R → ∃ ds, Paired (C2 H) us ds
  | _, _, .nil => ⟨[], .nil⟩
  | _, _, .cons f r => by
    obtain ⟨d, hd⟩ := c2_why f
    obtain ⟨ds, hds⟩ := c2_rowsW r
    exact ⟨d :: ds, .cons hd hds⟩
end
section
variable {P : Program} {w : World} {K : PySem.W.Frag} {mg : Str → Option Value} {base : Heap} {a : Ad}
/-! ### steps among boxes -/
structure StAt (H : Hp) (r : Addr) (T : List (Int × Addr)) (f : Int → List Int) : Prop where
  ob : H r = some (.dK (kvR T))
  ls : ∀ e ∈ T, H e.2 = some (.lst ((f e.1).map V.int))
  nk : (T.map (·.1)).Pairwise (· < ·)
  na : (T.map (·.2)).Nodup
theorem nodup_snd : ∀ {T : List (Int × Addr)} {e e' : Int × Addr}, (T.map (·.2)).Nodup → e ∈ T → e' ∈ T → e.2 = e'.2 → e = e'
  | x :: T, e, e', nd, h, h', eq => by
    obtain ⟨n1, n2⟩ := List.nodup_cons.mp nd
    rcases List.mem_cons.mp h with rfl | h
    · rcases List.mem_cons.mp h' with rfl | h'
      · rfl
      · exact absurd (List.mem_map.mpr ⟨e', h', eq.symm⟩) n1
    · rcases List.mem_cons.mp h' with c | h'
      · exact absurd (List.mem_map.mpr ⟨e, h, by rw [eq, c]⟩) n1
      · exact nodup_snd n2 h h' eq
theorem lk_there {α : Type} {n : Int} : ∀ {T : List (Int × α)}, n ∈ T.map (·.1) → ∃ t, T.lookup n = some t
  | (k, v) :: T, h => by
    by_cases c : n = k
    · subst c; exact ⟨v, List.lookup_cons_self⟩
    · have ne : (n == k) = false := by simpa using c
      rcases List.mem_cons.mp h with h | h
      · exact absurd h c
      · obtain ⟨t, e⟩ := lk_there h
        exact ⟨t, by rw [List.lookup_cons, ne]; exact e⟩
theorem StAt.frame {H H' : Hp} {r : Addr} {T : List (Int × Addr)} {f : Int → List Int} (h : StAt H r T f) (s : Same H H') : StAt H' r T f :=
  ⟨s _ _ h.ob, fun e m => s _ _ (h.ls e m), h.nk, h.na⟩
theorem StAt.rne {H : Hp} {r : Addr} {T : List (Int × Addr)} {f : Int → List Int} (h : StAt H r T f) {e : Int × Addr} (m : e ∈ T) : e.2 ≠ r := fun z => by
  have := h.ls e m
  rw [z, h.ob] at this; cases this
theorem StAt.put {H : Hp} {r : Addr} {T : List (Int × Addr)} {f : Int → List Int} {b o : Int} {t : Addr} (h : StAt H r T f) (m : (b, t) ∈ T) :
    StAt (upd H t (.lst ((f b ++ [o]).map V.int))) r T (fun c => if c = b then f c ++ [o] else f c) := by
  refine ⟨by rw [upd_ne (h.rne m).symm]; exact h.ob, fun e me => ?_, h.nk, h.na⟩
  by_cases c : e.2 = t
  · have := nodup_snd h.na me m c
    subst this
    dsimp only
    rw [if_pos rfl]; exact upd_same
  · have ne : e.1 ≠ b := fun z => c (by
      have h1 := lk_of_mem h.nk (show (e.1, e.2) ∈ T from me)
      have h2 := lk_of_mem h.nk m
      rw [z, h2] at h1; exact (Option.some.inj h1).symm)
    rw [upd_ne c, if_neg ne]; exact h.ls e me
theorem StAt.tups {H H' : Hp} {r : Addr} {T : List (Int × Addr)} {f : Int → List Int} (h : StAt H r T f) (g : Fr (T.map (·.2)) H H') : Tups H H' := g.tups fun b m => by
  obtain ⟨e, me, rfl⟩ := List.mem_map.mp m
  exact ⟨_, h.ls e me, fun _ z => nomatch z⟩
theorem StAt.out {H : Hp} {r : Addr} {T : List (Int × Addr)} {f : Int → List Int} {b : Addr} {o : HO} (h : StAt H r T f) (e : H b = some o) (n : ∀ xs, o ≠ .lst xs) : b ∉ T.map (·.2) := fun m => by
  obtain ⟨x, mx, rfl⟩ := List.mem_map.mp m
  rw [h.ls x mx] at e; cases e; exact n _ rfl
/-- what was told so far -/
structure StOk (S : Ch) (bs : List Int) (f : Int → List Int) (A : List (Int × Int)) (n : Nat) : Prop where
  so : ∀ b, b ∈ bs → ∀ y, y ∈ f b → Ed S bs b y
  cp : ∀ e ∈ A, e.1 ∈ bs → e.2 ∈ bs → e.2 ∈ f e.1
  ln : ∀ b, (f b).length ≤ n
theorem StOk.skip {S : Ch} {bs : List Int} {f : Int → List Int} {A : List (Int × Int)} {n : Nat} {b o : Int} (h : StOk S bs f A n) (c : ¬ (b ∈ bs ∧ o ∈ bs)) : StOk S bs f (A ++ [(b, o)]) (n + 1) :=
  ⟨h.so, fun e m h1 h2 => (List.mem_append.mp m).elim (fun m => h.cp e m h1 h2) fun m => by rw [List.mem_singleton.mp m] at h1 h2; exact absurd ⟨h1, h2⟩ c, fun b => Nat.le_succ_of_le (h.ln b)⟩
theorem StOk.put {S : Ch} {bs : List Int} {f : Int → List Int} {A : List (Int × Int)} {n : Nat} {b o : Int} (h : StOk S bs f A n) (e : Ed S bs b o) : StOk S bs (fun c => if c = b then f c ++ [o] else f c) (A ++ [(b, o)]) (n + 1) := by
  refine ⟨fun c hc y hy => ?_, fun x m h1 h2 => ?_, fun c => ?_⟩
  · have hy : y ∈ if c = b then f c ++ [o] else f c := hy
    by_cases z : c = b
    · rw [if_pos z] at hy
      rcases List.mem_append.mp hy with hy | hy
      · exact h.so c hc y hy
      · rw [List.mem_singleton.mp hy, z]; exact e
    · rw [if_neg z] at hy; exact h.so c hc y hy
  · show x.2 ∈ if x.1 = b then f x.1 ++ [o] else f x.1
    rcases List.mem_append.mp m with m | m
    · have := h.cp x m h1 h2
      by_cases z : x.1 = b
      · rw [if_pos z]; exact List.mem_append_left _ this
      · rw [if_neg z]; exact this
    · rw [List.mem_singleton.mp m, if_pos rfl]; exact List.mem_append_right _ (List.mem_singleton.mpr rfl)
  · show (if c = b then f c ++ [o] else f c).length ≤ n + 1
    have := h.ln c
    by_cases z : c = b
    · rw [if_pos z, List.length_append]; show (f c).length + 1 ≤ _; omega
    · rw [if_neg z]; omega
theorem StOk.more {S : Ch} {bs : List Int} {f : Int → List Int} {A : List (Int × Int)} {n : Nat} (h : StOk S bs f A n) : StOk S bs f A (n + 1) := ⟨h.so, h.cp, fun b => Nat.le_succ_of_le (h.ln b)⟩
def tellE (e : Int × Int × Int × Bool) : List (Int × Int) := if e.2.2.2 = true then [(e.1, e.2.2.1)] else []
def pairE (e : Int × Int × Int × Int) : List (Int × Int) := [(e.2.1, e.2.2.2), (e.2.2.1, e.2.2.2)]
theorem st_done {S : Ch} {bs : List Int} {f : Int → List Int} {n : Nat} (h : StOk S bs f (S.tells.flatMap tellE ++ S.ps.flatMap pairE) n) : ∀ b ∈ bs, ∀ y, y ∈ f b ↔ Ed S bs b y := fun b hb y => by
  refine ⟨h.so b hb y, fun ⟨_, h2, h3⟩ => ?_⟩
  rcases h3 with ⟨s, m⟩ | ⟨p, x, k, m, c⟩
  · exact h.cp (b, y) (List.mem_append_left _ (List.mem_flatMap.mpr ⟨_, m, by unfold tellE; rw [if_pos rfl]; exact List.mem_singleton.mpr rfl⟩)) hb h2
  · refine h.cp (b, y) (List.mem_append_right _ (List.mem_flatMap.mpr ⟨_, m, ?_⟩)) hb h2
    unfold pairE
    rcases c with rfl | rfl
    · exact List.mem_cons_self
    · exact List.mem_cons_of_mem _ List.mem_cons_self
theorem flat_snoc {α β : Type} {f : α → List β} {l : List α} {i : Nat} {x : α} (h : l[i]? = some x) : (l.take (i + 1)).flatMap f = (l.take i).flatMap f ++ f x := by
  rw [take_snoc h, List.flatMap_append]; simp
theorem st_snoc {T : List (Int × Addr)} {bs : List Int} {i : Nat} {b : Int} (pw : bs.Pairwise (· < ·)) (e : T.map (·.1) = bs.take i) (hb : bs[i]? = some b) : ∀ x ∈ T, x.1 < b := fun x m => by
  have : x.1 ∈ bs.take i := by rw [← e]; exact List.mem_map.mpr ⟨x, m, rfl⟩
  obtain ⟨j, hj, ej⟩ := List.mem_iff_getElem.mp this
  rw [List.getElem_take] at ej
  rw [List.length_take] at hj
  obtain ⟨h1, h2⟩ := List.getElem?_eq_some_iff.mp hb
  have := List.pairwise_iff_getElem.mp pw j i (by omega) h1 (by omega)
  rw [ej, h2] at this; exact this
def spStepsA (a : Ad) : Sp := fun vs H Q _ => ∃ (p bl : Addr) (S : Ch) (O : List Addr) (bs : List Int), vs = [.ref p, .ref bl] ∧ ChestAt a.Chest a.Box H p S O ∧ Good S ∧ H bl = some (.lst (bs.map V.int)) ∧ bs.Pairwise (· < ·) ∧ bs.length ≤ 60 ∧
  ∀ (r : Addr) (H' : Hp) (T : List (Int × Addr)) (f : Int → List Int), H r = none → Same H H' → StAt H' r T f → T.map (·.1) = bs → (∀ b ∈ bs, ∀ y, y ∈ f b ↔ Ed S bs b y) → (∀ b, (f b).length ≤ 1200) → Q (.ref r) H'
theorem ok_steps_among (T : Txt a K mg) : FnOk P w K mg base (CN P w) 3 a.f_steps_among a.fd_steps_among ["chest", "boxes"] (spStepsA a) := by
  refine okN T.F_steps_among sc_steps_among (fun vs H Q E h => ?_) (fun cdv A outer s H vs Q E hr h => ?_)
  · obtain ⟨p, bl, S, O, bs, rfl, _⟩ := h; rfl
  · obtain ⟨p, bl, S, O, bs, rfl, hS, G, hbl, pw, z60, k⟩ := h
    have hu := hu_of hr
    obtain ⟨C, hC, hCS, eO⟩ := id hS
    have h1 := hC.ob
    have hr1 : Room 1 _ := hr.mono (by decide); have hr2 : Room 2 _ := hr.mono (by decide);
    refine ⟨_, (pss_cons (ps_setDc (i := 2) (own := [("box", 3)]) (g := gName 3) (tt := tYes) (tk := (tVar 3)) (tv := (tLst tNil)) (by rfl) sc_steps_among.nd rfl rfl (swD_true rfl rfl rfl (by decide +kernel)) (pi_list (pv 1)) (blkOk_by (own := [("box", 3)]) (N := N_steps_among) (sc := defScope s_steps_among) (by decide +kernel)) (fun _ _ _ _ _ => (pg_name (i := 3) sc_steps_among.nd rfl (Or.inl rfl))) (fun _ _ _ _ _ => pts_nil) (fun _ _ _ _ _ => (pv 3)) (fun _ _ _ _ _ => (pe_lst pa_nil)))
      (pss_cons (ps_for PassesOwn.leaving rfl (pi_list (pe_meth0 (pv 0) T.cl_Chest T.m_Chest_tellings (ok_Chest_tellings T) hr2 T.b_Chest_tellings .nil pass0N)) (pg_tup (by rfl) (pgs_cons (pg_name (i := 3) sc_steps_among.nd rfl (Or.inl rfl)) (pgs_cons (pg_name (i := 4) sc_steps_among.nd rfl (Or.inl rfl)) (pgs_cons (pg_name (i := 5) sc_steps_among.nd rfl (Or.inl rfl)) (pgs_cons (pg_name (i := 6) sc_steps_among.nd rfl (Or.inl rfl)) pgs_nil)))))
      (pss_one (ps_if (PW.pt (pw_and (pt_val (pv 6)) (pw_and (pt_cmp (pc_din hu (pv 3) (pv 2))) (pw_and1 (pt_cmp (pc_din hu (pv 5) (pv 2))))))) (pss_one (ps_expr (pe_bm PySem.F.plainAttrs_list PySem.F.slot_list_append PySem.F.type_list_append mt_append (pe_dget hu (pv 2) (pv 3) (fun _ _ => rfl)) (pa_cons (pv 5) pa_nil)))) pss_nil)))
      (pss_cons (ps_for PassesOwn.leaving rfl (pi_list (pe_meth0 (pv 0) T.cl_Chest T.m_Chest_pairs (ok_Chest_pairs T) hr1 T.b_Chest_pairs .nil pass0N)) (pg_tup (by rfl) (pgs_cons (pg_name (i := 4) sc_steps_among.nd rfl (Or.inl rfl)) (pgs_cons (pg_name (i := 7) sc_steps_among.nd rfl (Or.inl rfl)) (pgs_cons (pg_name (i := 8) sc_steps_among.nd rfl (Or.inl rfl)) (pgs_cons (pg_name (i := 9) sc_steps_among.nd rfl (Or.inl rfl)) pgs_nil)))))
      (pss_one (ps_for PassesOwn.leaving rfl (pi_tup (pe_tup (pa_cons (pv 7) (pa_cons (pv 8) pa_nil)))) (pg_name (i := 3) sc_steps_among.nd rfl (Or.inl rfl))
      (pss_one (ps_if (PW.pt (pw_and (pt_cmp (pc_din hu (pv 3) (pv 2))) (pw_and1 (pt_cmp (pc_din hu (pv 9) (pv 2)))))) (pss_one (ps_expr (pe_bm PySem.F.plainAttrs_list PySem.F.slot_list_append PySem.F.type_list_append mt_append (pe_dget hu (pv 2) (pv 3) (fun _ _ => rfl)) (pa_cons (pv 9) pa_nil)))) pss_nil)))))
      (pss_one (ps_ret (pv 2)))))), ?_⟩
    try dsimp only [cxOf]
    walk_at "go"
    refine g_dc ?_
    walk_at "go"
    refine ⟨bl, rfl, ⟨_, SqL.of hbl⟩, fun r hr0 => dc_list (K := K) (a := bl) (xs := bs.map V.int) (fun i H1 => Same H H1 ∧ ∃ Ts, StAt H1 r Ts (fun _ => []) ∧ Ts.map (·.1) = bs.take i ∧ ∀ e ∈ Ts, H e.2 = none)
      ⟨Same.new hr0, [], ⟨upd_same, fun e m => (nomatch m), List.Pairwise.nil, List.nodup_nil⟩, rfl, fun e m => (nomatch m)⟩ (fun i H1 _ h => SqL.of (h.1 _ _ hbl)) ?_ ?_⟩
    · rintro i x H1 hx ⟨s1, Ts, hT, eT, fT⟩
      rw [List.getElem?_map] at hx
      obtain ⟨b, hb, rfl⟩ := Option.map_eq_some_iff.mp hx
      have i60 : i < 60 := Nat.lt_of_lt_of_le (List.getElem?_eq_some_iff.mp hb).1 z60
      have lT : Ts.length ≤ 60 := by
        have := congrArg List.length eT
        rw [List.length_map, List.length_take] at this
        omega
      walk_at "go"
      refine ⟨rfl, ?_⟩
      walk_at "go"
      refine ⟨by decide, fun q hq => ?_⟩
      have n1 := Same.new (o := HO.lst []) hq
      refine ⟨_, Sum.inl b, rfl, n1 _ _ hT.ob, small1000 (by rw [kvR_len]; omega), ?_, Ts ++ [(b, q)], ?_, ?_, ?_⟩
      · exact fun c o e => by rw [upd_ne (ne_of_none e hr0)]; exact n1 _ _ (s1 _ _ e)
      · have lt := st_snoc pw eT hb
        rw [kvR_put lt]
        have rq : r ≠ q := fun z => by rw [← z, hT.ob] at hq; cases hq
        refine ⟨upd_same, fun e m => ?_, ?_, ?_⟩
        · rcases List.mem_append.mp m with m | m
          · rw [upd_ne (hT.rne m)]; exact n1 _ _ (hT.ls e m)
          · rw [List.mem_singleton.mp m, upd_ne rq.symm]; exact upd_same
        · rw [List.map_append, List.pairwise_append]
          refine ⟨hT.nk, List.pairwise_singleton _ _, fun x mx y my => ?_⟩
          obtain ⟨e, me, rfl⟩ := List.mem_map.mp mx
          rw [List.mem_singleton.mp my]; exact lt e me
        · rw [List.map_append]
          refine List.nodup_append.mpr ⟨hT.na, List.nodup_cons.mpr ⟨(fun z => nomatch z), List.nodup_nil⟩, fun x mx y my e => ?_⟩
          obtain ⟨z, mz, rfl⟩ := List.mem_map.mp mx
          have := hT.ls z mz
          rw [e, List.mem_singleton.mp my, hq] at this; cases this
      · rw [List.map_append, eT, take_snoc hb]; rfl
      · intro e m
        rcases List.mem_append.mp m with m | m
        · exact fT e m
        · rw [List.mem_singleton.mp m]; exact free_same s1 hq
    rintro H1 ⟨s1, Ts, hT, eT, fT⟩
    rw [List.length_map, List.take_length] at eT
    have Fs : ∀ {H2 H3 : Hp}, Same H H2 → Fr (Ts.map (·.2)) H2 H3 → Same H H3 := fun s g b o e => g _ _ (s _ _ e) fun m => by
      obtain ⟨x, mx, rfl⟩ := List.mem_map.mp m
      rw [fT x mx] at e; cases e
    have hks : (kvR Ts).map (·.1) = bs.map Sum.inl := by rw [kvR_keys, eT]
    walk_at "go"
    refine ⟨p, _, _, rfl, s1 _ _ h1, fChest_no (by decide +kernel) (by decide +kernel) (by decide +kernel) (by decide +kernel), ?_⟩
    walk_at "go"
    refine ⟨p, S, O, rfl, hS.same s1, fun q2 H2 ts hq2 s2 e2 pt lt => ?_⟩
    have s02 := s1.trans s2
    have hT2 := hT.frame s2
    have q2T : q2 ∉ Ts.map (·.2) := fun m => by
      obtain ⟨x, mx, e⟩ := List.mem_map.mp m
      rw [← e, hT.ls x mx] at hq2; cases hq2
    refine ⟨q2, rfl, ⟨_, SqL.of e2⟩, for_list (K := K) (a := q2) (xs := ts) (fun i σ H3 => ∃ (v3 v4 v5 v6 : Option V) (f : Int → List Int), σ = [some (.ref p), some (.ref bl), some (.ref r), v3, v4, v5, v6, none, none, none] ∧ Fr (Ts.map (·.2)) H2 H3 ∧ StAt H3 r Ts f ∧ StOk S bs f ((S.tells.take i).flatMap tellE) i)
      ⟨_, _, _, _, _, rfl, Fr.refl _ _, hT2, ⟨fun b _ y m => (nomatch m), fun e m => (nomatch m), fun b => Nat.le_refl _⟩⟩ (fun i σ H3 _ h => by obtain ⟨_, _, _, _, _, _, g, _⟩ := h; exact SqL.of (g _ _ e2 q2T)) ?_ ?_⟩
    · rintro i x H3' H3 hx ⟨v3, v4, v5, v6, f, rfl, g3, hT3, ok3⟩
      obtain ⟨⟨b, s, o, g⟩, hts, t, rfl, et⟩ := paired_get pt hx
      have i1000 : i < 1000 := Nat.lt_of_lt_of_le (List.getElem?_eq_some_iff.mp hx).1 lt
      have et3 := hT2.tups g3 _ _ et
      have er3 := hT3.ob
      rw [flat_snoc hts]
      refine g_gTup et3 rfl ?_
      walk_at "go"
      cases g with
      | false =>
        walk_at "go"
        rw [show tellE (b, s, o, false) = [] from if_neg (fun z => nomatch z), List.append_nil]
        exact ⟨_, _, _, _, f, rfl, g3, hT3, ok3.more⟩
      | true =>
        rw [show tellE (b, s, o, true) = [(b, o)] from if_pos rfl]
        walk_at "go"
        refine ⟨_, _, rfl, DGet.k (k := Sum.inl b) er3, ?_⟩
        rw [valV_keys hks]
        walk_at "go"
        refine g_ite (fun c1 => ?_) (fun c1 => ?_)
        · walk_at "go"
          refine ⟨_, _, rfl, DGet.k (k := Sum.inl o) er3, ?_⟩
          rw [valV_keys hks]
          walk_at "go"
          refine g_ite (fun c2 => ?_) (fun c2 => ?_)
          · obtain ⟨tb, etb⟩ := lk_there (T := Ts) (n := b) (by rw [eT]; exact c1)
            have mb := lk_mem etb
            have lb := hT3.ls _ mb
            walk_at "go"
            refine ⟨_, _, rfl, by rw [← kvR_some etb]; exact DGet.k (k := Sum.inl b) er3, ?_⟩
            refine ⟨.inl ⟨rfl, _, SqL.of lb⟩, ?_⟩
            walk_at "go"
            have lnb := ok3.ln b
            refine g_appendK lb (by rw [List.length_map]; show (f b).length ≤ _; omega) ?_
            walk_at "go"
            have hp := hT3.put (o := o) mb
            rw [List.map_append] at hp
            exact ⟨_, _, _, _, _, rfl, g3.trans (Fr.upd (List.mem_map.mpr ⟨_, mb, rfl⟩)), hp, ok3.put ⟨c1, c2, .inl ⟨s, List.mem_of_getElem? hts⟩⟩⟩
          · walk_at "go"
            exact ⟨_, _, _, _, f, rfl, g3, hT3, ok3.skip fun z => c2 z.2⟩
        · walk_at "go"
          exact ⟨_, _, _, _, f, rfl, g3, hT3, ok3.skip fun z => c1 z.1⟩
    rintro H3' H3 ⟨v3, v4, v5, v6, f, rfl, g3, hT3, ok3⟩
    rw [pt.length, List.take_length] at ok3
    have lts := pt.length
    have s03 := Fs s02 g3
    walk_at "go"
    refine ⟨p, _, _, rfl, s03 _ _ h1, fChest_no (by decide +kernel) (by decide +kernel) (by decide +kernel) (by decide +kernel), ?_⟩
    walk_at "go"
    refine ⟨p, C, S.ps, rfl, hC.same s03, (hCS.keep fun t xs e => s03 _ _ e).ps, fun q4 H4 ws hq4 s4 e4 pw4 => ?_⟩
    have s04 := s03.trans s4
    have hT4 := hT3.frame s4
    have q4T : q4 ∉ Ts.map (·.2) := fun m => by
      obtain ⟨x, mx, e⟩ := List.mem_map.mp m
      rw [← e, hT3.ls x mx] at hq4; cases hq4
    refine ⟨q4, rfl, ⟨_, SqL.of e4⟩, for_list (K := K) (a := q4) (xs := ws) (fun i σ H5 => ∃ (v3 v4 v5 v6 v7 v8 v9 : Option V) (f : Int → List Int), σ = [some (.ref p), some (.ref bl), some (.ref r), v3, v4, v5, v6, v7, v8, v9] ∧ Fr (Ts.map (·.2)) H4 H5 ∧ StAt H5 r Ts f ∧ StOk S bs f (S.tells.flatMap tellE ++ (S.ps.take i).flatMap pairE) (1000 + 2 * i))
      ⟨_, _, _, _, _, _, _, f, rfl, Fr.refl _ _, hT4, ⟨ok3.so, by simpa using ok3.cp, fun b => by have := ok3.ln b; omega⟩⟩ (fun i σ H3 _ h => by obtain ⟨_, _, _, _, _, _, _, _, _, g, _⟩ := h; exact SqL.of (g _ _ e4 q4T)) ?_ ?_⟩
    · rintro i x H5' H5 hx ⟨v3, v4, v5, v6, v7, v8, v9, f, rfl, g5, hT5, ok5⟩
      obtain ⟨⟨n, x1, x2, x3⟩, hts, t, rfl, et⟩ := paired_get pw4 hx
      have i60 : i < 60 := by
        have := (List.getElem?_eq_some_iff.mp hx).1
        have := pw4.length
        have := G.zp
        omega
      have hmem := List.mem_of_getElem? hts
      have et5 := hT4.tups g5 _ _ et
      rw [flat_snoc hts]
      refine g_gTup et5 rfl ?_
      walk_at "go"
      refine ⟨by show 2 ≤ sizeLine; decide, fun tp htp => ?_⟩
      have n6 := Same.new (o := HO.tup [.int x1, .int x2]) htp
      have hT6 := hT5.frame n6
      have tpT : tp ∉ Ts.map (·.2) := fun m => by
        obtain ⟨x, mx, e⟩ := List.mem_map.mp m
        rw [← e, hT5.ls x mx] at htp; cases htp
      refine ⟨tp, rfl, ⟨_, SqT.of upd_same⟩, for_tup (K := K) (a := tp) (xs := [x1, x2].map V.int) (fun j σ H7 => ∃ (v3 : Option V) (f : Int → List Int), σ = [some (.ref p), some (.ref bl), some (.ref r), v3, some (.int n), v5, v6, some (.int x1), some (.int x2), some (.int x3)] ∧ Fr (Ts.map (·.2)) (upd H5 tp (.tup [.int x1, .int x2])) H7 ∧ StAt H7 r Ts f ∧ StOk S bs f ((S.tells.flatMap tellE ++ (S.ps.take i).flatMap pairE) ++ ([x1, x2].take j).map fun c => (c, x3)) (1000 + 2 * i + j))
        ⟨_, f, rfl, Fr.refl _ _, hT6, by simpa using ok5⟩ (fun j σ H3 _ h => by obtain ⟨_, _, _, g, _⟩ := h; exact SqT.of (g _ _ upd_same tpT)) ?_ ?_⟩
      · rintro j x H7' H7 hx ⟨v3, f, rfl, g7, hT7, ok7⟩
        rw [List.getElem?_map] at hx
        obtain ⟨c, hc, rfl⟩ := Option.map_eq_some_iff.mp hx
        have j2 : j < 2 := (List.getElem?_eq_some_iff.mp hc).1
        have hcm : c = x1 ∨ c = x2 := by
          have := List.mem_of_getElem? hc
          simpa using this
        have er7 := hT7.ob
        rw [take_snoc hc, List.map_append, ← List.append_assoc]
        walk_at "go"
        refine ⟨_, _, rfl, DGet.k (k := Sum.inl c) er7, ?_⟩
        rw [valV_keys hks]
        walk_at "go"
        refine g_ite (fun c1 => ?_) (fun c1 => ?_)
        · walk_at "go"
          refine ⟨_, _, rfl, DGet.k (k := Sum.inl x3) er7, ?_⟩
          rw [valV_keys hks]
          walk_at "go"
          refine g_ite (fun c2 => ?_) (fun c2 => ?_)
          · obtain ⟨tb, etb⟩ := lk_there (T := Ts) (n := c) (by rw [eT]; exact c1)
            have mb := lk_mem etb
            have lb := hT7.ls _ mb
            walk_at "go"
            refine ⟨_, _, rfl, by rw [← kvR_some etb]; exact DGet.k (k := Sum.inl c) er7, ?_⟩
            refine ⟨.inl ⟨rfl, _, SqL.of lb⟩, ?_⟩
            walk_at "go"
            have lnb := ok7.ln c
            refine g_appendK lb (by rw [List.length_map]; show (f c).length ≤ _; omega) ?_
            walk_at "go"
            have hp := hT7.put (o := x3) mb
            rw [List.map_append] at hp
            exact ⟨_, _, rfl, g7.trans (Fr.upd (List.mem_map.mpr ⟨_, mb, rfl⟩)), hp, ok7.put ⟨c1, c2, .inr ⟨n, x1, x2, hmem, hcm⟩⟩⟩
          · walk_at "go"
            exact ⟨_, f, rfl, g7, hT7, ok7.skip fun z => c2 z.2⟩
        · walk_at "go"
          exact ⟨_, f, rfl, g7, hT7, ok7.skip fun z => c1 z.1⟩
      · rintro H7' H7 ⟨v3, f, rfl, g7, hT7, ok7⟩
        walk_at "go"
        refine ⟨_, _, _, _, _, _, _, f, rfl, g5.trans ((Fr.same n6).trans g7), hT7, ?_⟩
        rw [← List.append_assoc]
        exact ok7
    · rintro H5' H5 ⟨v3, v4, v5, v6, v7, v8, v9, f, rfl, g5, hT5, ok5⟩
      rw [pw4.length, List.take_length] at ok5
      have lps := pw4.length
      have := G.zp
      walk_at "go"
      exact k r H5 Ts f hr0 (Fs s04 g5) hT5 eT (st_done ok5) fun b => by have := ok5.ln b; omega
end
section
variable {P : Program} {w : World} {K : PySem.W.Frag} {mg : Str → Option Value} {base : Heap} {a : Ad}
/-! ### what is younger; the order of the wills -/
def YgI (S : Ch) (g : List Int) (b : Int) (r d q : Addr) (H : Hp) (m : Nat) (σ : L2.St) (H1 : Hp) : Prop := ∃ (v4 : Option V) (kvs : List (Key × V)) (ks ws : List Int), σ = [some (.int b), some (.ref r), some (.ref d), some (.ref q), v4] ∧ Same H H1 ∧ H1 d = some (.dK kvs) ∧ kvs.map (·.1) = ks.map Sum.inl ∧ H1 q = some (.lst (ws.map V.int)) ∧ Wk S g b ks ws ∧ ws.length ≤ 1200 * (ks.length + 1) ∧ m = 1201 * (61 - ks.length) + ws.length
def spYounger : Sp := fun vs H Q _ => ∃ (b : Int) (r : Addr) (S : Ch) (g : List Int) (T : List (Int × Addr)) (f : Int → List Int), vs = [.int b, .ref r] ∧ StAt H r T f ∧ T.map (·.1) = g ∧ g.length ≤ 60 ∧ (∀ c ∈ g, ∀ y, y ∈ f c ↔ Ed S g c y) ∧ (∀ c, (f c).length ≤ 1200) ∧ b ∈ g ∧
  ∀ (d : Addr) (H' : Hp) (kvs : List (Key × V)) (ks : List Int), H d = none → Same H H' → H' d = some (.dK kvs) → kvs.map (·.1) = ks.map Sum.inl → (∀ y, y ∈ ks ↔ Bel S g b y) → Q (.ref d) H'
theorem ok_younger_than (T : Txt a K mg) : FnOk P w K mg base (CN P w) 1 a.f_younger_than a.fd_younger_than ["box", "steps"] spYounger := by
  refine okN T.F_younger_than sc_younger_than (fun vs H Q E h => ?_) (fun cdv A outer s H vs Q E hr h => ?_)
  · obtain ⟨b, r, S, g, Ts, f, rfl, _⟩ := h; rfl
  · obtain ⟨b, r, S, g, Ts, f, rfl, hT, eT, z60, hf, lf, hb, k⟩ := h
    have hu := hu_of hr
    have hob := hT.ob
    skip
    refine ⟨_, (pss_cons (ps_set (i := 2) sc_younger_than.nd rfl (Or.inl rfl) pe_dnewK)
      (pss_cons (ps_set (i := 3) sc_younger_than.nd rfl (Or.inl rfl) (pe_callTy call_listS (by rfl) T.no_list (by decide +kernel) (pa_cons (pe_dget hu (pv 1) (pv 0) (fun _ _ => rfl)) pa_nil)))
      (pss_cons (ps_while PassesOwn.leaving (pt_truth (pv 3) (by intro _; rfl))
      (pss_cons (ps_set (i := 4) sc_younger_than.nd rfl (Or.inl rfl) (pe_bm0 PySem.F.plainAttrs_list PySem.F.slot_list_pop PySem.F.type_list_pop mt_pop (pv 3)))
      (pss_one (ps_if (pt_cmp (pc_dnotin hu (pv 4) (pv 2))) (pss_cons (ps_dput hu (pv 2) (pv 4) pe_bl rfl)
      (pss_one (ps_expr (pe_bm PySem.F.plainAttrs_list PySem.F.slot_list_extend PySem.F.type_list_extend mt_extend (pv 3) (pa_cons (pe_dget hu (pv 1) (pv 4) (fun _ _ => rfl)) pa_nil))))) pss_nil))))
      (pss_one (ps_ret (pv 2)))))), ?_⟩
    try dsimp only [cxOf]
    walk_at "go"
    intro d hd
    have n0 := Same.new (o := HO.dK []) hd
    obtain ⟨tb, etb⟩ := lk_there (T := Ts) (n := b) (by rw [eT]; exact hb)
    have mb := lk_mem etb
    walk_at "go"
    refine ⟨_, _, rfl, by rw [← kvR_some etb]; exact DGet.k (k := Sum.inl b) (n0 _ _ hob), ?_⟩
    walk_at "go"
    refine g_listL (SqL.of (n0 _ _ (hT.ls _ mb))) fun q hq => ?_
    have n1 := Same.new (o := HO.lst ((f b).map V.int)) hq
    walk_at "go"
    refine g_while ⟨YgI S g b r d q H, ⟨_, _, _, [], f b, rfl, n0.trans n1, n1 _ _ upd_same, rfl, upd_same, .start (hf b hb), by have := lf b; show _ ≤ 1200 * (0 + 1); omega, rfl⟩, ?_⟩
    rintro m σ H1 ⟨v4, kvs, ks, ws, rfl, s1, hd1, hks, hq1, hw, lw, rfl⟩
    have z := Nat.le_trans hw.len z60
    have lkv : kvs.length = ks.length := by
      have := congrArg List.length hks
      rw [List.length_map, List.length_map] at this; exact this
    walk_at "go"
    refine ⟨!(ws.map V.int).isEmpty, .inl ⟨_, SqL.of hq1, rfl⟩, ?_⟩
    rcases List.eq_nil_or_concat ws with rfl | ⟨ws', o, rfl⟩
    · rw [show (!(([] : List Int).map V.int).isEmpty) = false from rfl]
      walk_at "go"
      exact k d H1 kvs ks hd s1 hd1 hks hw.done
    · rw [List.concat_eq_append] at hq1 hw lw ⊢
      rw [List.length_append] at lw
      have lw : ws'.length + 1 ≤ 1200 * (ks.length + 1) := lw
      have eN : (ws' ++ [o]).length = ws'.length + 1 := by rw [List.length_append]; rfl
      rw [show (!((ws' ++ [o]).map V.int).isEmpty) = true by rw [List.map_append]; cases ws'.map V.int <;> rfl, if_pos rfl, eN]
      refine ⟨fun σ' H' => ∃ m' < 1201 * (61 - ks.length) + (ws'.length + 1), YgI S g b r d q H m' σ' H', fun _ _ h => h, ?_⟩
      have dq : d ≠ q := fun z => by rw [z, hq1] at hd1; cases hd1
      walk_at "go"
      refine ⟨.inl ⟨rfl, _, SqL.of hq1⟩, ?_⟩
      walk_at "go"
      refine ⟨q, _, .int o, rfl, rfl, hq1, by rw [List.map_append, List.length_append]; show (ws'.map V.int ++ [V.int o])[(ws'.map V.int).length + 1 - 1]? = _; simp, ?_⟩
      rw [show ((ws' ++ [o]).map V.int).dropLast = ws'.map V.int by rw [List.map_append]; exact List.dropLast_concat]
      have hd2 : upd H1 q (.lst (ws'.map V.int)) d = some (.dK kvs) := by rw [upd_ne dq]; exact hd1
      have hqn : H q = none := (none_upd hq).2
      have s2 : Same H (upd H1 q (.lst (ws'.map V.int))) := fun c u e => by rw [upd_ne (ne_of_none e hqn)]; exact s1 _ _ e
      obtain ⟨H2, e2⟩ : ∃ H2, upd H1 q (.lst (ws'.map V.int)) = H2 := ⟨_, rfl⟩
      have hq2 : H2 q = some (.lst (ws'.map V.int)) := by rw [← e2]; exact upd_same
      rw [e2] at hd2 s2 ⊢
      clear e2
      walk_at "go"
      refine ⟨_, _, rfl, DGet.k (k := Sum.inl o) hd2, ?_⟩
      rw [valV_keys hks]
      walk_at "go"
      refine g_iteN (fun c => ?_) (fun c => ?_)
      · have hog : o ∈ g := (hw.so o (.inr (List.mem_append_right _ (List.mem_singleton.mpr rfl)))).mem
        obtain ⟨to', eto⟩ := lk_there (T := Ts) (n := o) (by rw [eT]; exact hog)
        have mo := lk_mem eto
        have hnone : valV kvs (Sum.inl o : Key) = none := by
          have := valV_keys (n := o) hks
          rw [decide_eq_false c] at this
          cases e : valV kvs (Sum.inl o : Key) with
          | none => rfl
          | some v => rw [e] at this; cases this
        walk_at "go"
        refine ⟨_, _, rfl, DPut.k (k := Sum.inl o) hd2 (small1000 (by omega)), ?_⟩
        rw [putK_new _ hnone]
        have s3 : Same H (upd H2 d (.dK (kvs ++ [((Sum.inl o : Key), V.bl true)]))) := fun c u e => by rw [upd_ne (ne_of_none e hd)]; exact s2 _ _ e
        have hd3 := upd_same (H := H2) (a := d) (o := HO.dK (kvs ++ [((Sum.inl o : Key), V.bl true)]))
        have hq3 : upd H2 d (.dK (kvs ++ [((Sum.inl o : Key), V.bl true)])) q = some (.lst (ws'.map V.int)) := by rw [upd_ne dq.symm]; exact hq2
        obtain ⟨H3, e3⟩ : ∃ H3, upd H2 d (.dK (kvs ++ [((Sum.inl o : Key), V.bl true)])) = H3 := ⟨_, rfl⟩
        rw [e3] at s3 hd3 hq3 ⊢
        clear e3
        have hT3 := hT.frame s3
        walk_at "go"
        refine ⟨.inl ⟨rfl, _, SqL.of hq3⟩, ?_⟩
        walk_at "go"
        refine ⟨_, _, rfl, by rw [← kvR_some eto]; exact DGet.k (k := Sum.inl o) hT3.ob, ?_⟩
        have lo := lf o
        refine ⟨q, to', _, _, rfl, rfl, hq3, hT3.ls _ mo, ?_, ?_⟩
        · rw [List.length_map, List.length_map]
          show ws'.length + (f o).length ≤ _
          refine Nat.le_trans (by omega : _ ≤ 100000) (by decide)
        · walk_at "go"
          refine ⟨1201 * (61 - (ks ++ [o]).length) + (ws' ++ f o).length, ?_, _, kvs ++ [((Sum.inl o : Key), V.bl true)], ks ++ [o], ws' ++ f o, rfl, ?_, ?_, ?_, ?_, hw.take c (hf o hog), ?_, rfl⟩
          · have h61 := Nat.le_trans (hw.take c (hf o hog)).len z60
            rw [List.length_append] at h61 ⊢
            rw [List.length_append]
            have h61 : ks.length + 1 ≤ 60 := h61
            show 1201 * (61 - (ks.length + 1)) + _ < _
            omega
          · exact fun c u e => by rw [upd_ne (ne_of_none e hqn)]; exact s3 _ _ e
          · rw [upd_ne dq]; exact hd3
          · rw [List.map_append, hks, List.map_append]; rfl
          · rw [upd_same, List.map_append]
          · rw [List.length_append, List.length_append]
            show _ ≤ 1200 * (ks.length + 1 + 1)
            omega
      · walk_at "go"
        exact ⟨_, (by omega), _, kvs, ks, ws', rfl, s2, hd2, hks, hq2, hw.skip c, by omega, rfl⟩
/-- what is younger, kept for each -/
structure YgAt (H : Hp) (y : Addr) (Y : List (Int × Addr)) (S : Ch) (g : List Int) : Prop where
  ob : H y = some (.dK (kvR Y))
  ls : ∀ e ∈ Y, ∃ kvs ks, H e.2 = some (.dK kvs) ∧ kvs.map (·.1) = (ks : List Int).map Sum.inl ∧ ∀ z, z ∈ ks ↔ Bel S g e.1 z
  nk : (Y.map (·.1)).Pairwise (· < ·)
theorem YgAt.frame {H H' : Hp} {y : Addr} {Y : List (Int × Addr)} {S : Ch} {g : List Int} (h : YgAt H y Y S g) (s : Same H H') : YgAt H' y Y S g :=
  ⟨s _ _ h.ob, fun e m => (h.ls e m).elim fun kvs ⟨ks, h1, h2, h3⟩ => ⟨kvs, ks, s _ _ h1, h2, h3⟩, h.nk⟩
theorem YgAt.at {H : Hp} {y : Addr} {Y : List (Int × Addr)} {S : Ch} {g : List Int} (h : YgAt H y Y S g) {b : Int} (m : b ∈ Y.map (·.1)) : ∃ t kvs ks, Y.lookup b = some t ∧ H t = some (.dK kvs) ∧ kvs.map (·.1) = (ks : List Int).map Sum.inl ∧ ∀ z, z ∈ ks ↔ Bel S g b z := by
  obtain ⟨t, e⟩ := lk_there m
  obtain ⟨kvs, ks, h1, h2, h3⟩ := h.ls _ (lk_mem e)
  exact ⟨t, kvs, ks, e, h1, h2, h3⟩
def spFree : Sp := fun vs H Q _ => ∃ (b : Int) (ll y : Addr) (l : List Int) (Y : List (Int × Addr)) (S : Ch) (g : List Int), vs = [.int b, .ref ll, .ref y] ∧ H ll = some (.lst (l.map V.int)) ∧ YgAt H y Y S g ∧ b ∈ Y.map (·.1) ∧ (∀ o ∈ l, o ∈ Y.map (·.1)) ∧ l.length ≤ 60 ∧
  ∀ (k : Bool) (H' : Hp), (k = true ↔ FreeIn S g l b) → Same H H' → Q (.bl k) H'
theorem ok_is_free (T : Txt a K mg) : FnOk P w K mg base (CN P w) 1 a.f_is_free a.fd_is_free ["box", "left", "younger"] spFree := by
  refine okN T.F_is_free sc_is_free (fun vs H Q E h => ?_) (fun cdv A outer s H vs Q E hr h => ?_)
  · obtain ⟨b, ll, y, l, Y, S, g, rfl, _⟩ := h; rfl
  · obtain ⟨b, ll, y, l, Y, S, g, rfl, hl, hY, hb, hlY, z60, k⟩ := h
    have hu := hu_of hr
    obtain ⟨tb, kvb, kb, eb, hb1, hb2, hb3⟩ := hY.at hb
    have hob := hY.ob
    skip
    refine ⟨_, (pss_one (ps_ret (pe_callB (cr_all rfl) (by rfl) T.no_all (by decide +kernel) (pa_cons (pe_lc (own := [("other", 3)]) (g := gName 3) (tt := tYes) (te := (tOrV (tDNotIn (tVar 0) (tDGet (tVar 2) (tVar 3))) (tDIn (tVar 3) (tDGet (tVar 2) (tVar 0))))) (by rfl) sc_is_free.nd (pi_list (pv 1)) (blkOk_by (own := [("other", 3)]) (N := N_is_free) (sc := defScope s_is_free) (by decide +kernel)) (fun _ _ _ _ _ => (pg_name (i := 3) sc_is_free.nd rfl (Or.inl rfl))) (fun _ _ _ _ _ => pts_nil) (fun _ _ _ _ _ => (pe_or (pe_cmp (pc_dnotin hu (pv 0) (pe_dget hu (pv 2) (pv 3) (fun _ _ => rfl))) rfl) (pe_one (pe_cmp (pc_din hu (pv 3) (pe_dget hu (pv 2) (pv 0) (fun _ _ => rfl))) rfl))))) pa_nil)))), ?_⟩
    try dsimp only [cxOf]
    walk_at "go"
    refine ⟨ll, rfl, ⟨_, SqL.of hl⟩, fun D hD => lc_list (K := K) (a := ll) (xs := l.map V.int) (fun i H2 => Same H H2 ∧ ∃ bs : List Bool, H2 D = some (.lst (bs.map V.bl)) ∧ bs.length ≤ i ∧ (bs.all id = true ↔ ∀ o ∈ l.take i, ¬ Bel S g o b ∨ Bel S g b o))
      ⟨Same.new hD, [], upd_same, Nat.le_refl _, ⟨fun _ o m => (nomatch m), fun _ => rfl⟩⟩ (fun i H2 _ h => SqL.of (h.1 _ _ hl)) ?_ ?_⟩
    · rintro i x H2 hx ⟨s2, bs, e2, lb, ib⟩
      rw [List.getElem?_map] at hx
      obtain ⟨o, ho, rfl⟩ := Option.map_eq_some_iff.mp hx
      have i60 : i < 60 := Nat.lt_of_lt_of_le (List.getElem?_eq_some_iff.mp ho).1 z60
      obtain ⟨t', kvo, ko, eo, ho1, ho2, ho3⟩ := hY.at (hlY o (List.mem_of_getElem? ho))
      have step : ∀ c : Bool, (c = true ↔ (¬ Bel S g o b ∨ Bel S g b o)) → ∃ acc, H2 D = some (.lst acc) ∧ acc.length < sizeLine ∧ (Same H (upd H2 D (.lst (acc ++ [V.bl c]))) ∧ ∃ bs : List Bool, upd H2 D (.lst (acc ++ [V.bl c])) D = some (.lst (bs.map V.bl)) ∧ bs.length ≤ i + 1 ∧ (bs.all id = true ↔ ∀ o ∈ l.take (i + 1), ¬ Bel S g o b ∨ Bel S g b o)) := fun c hc => by
        refine ⟨_, e2, small1000 (by rw [List.length_map]; omega), fun x u e => by rw [upd_ne (ne_of_none e hD)]; exact s2 _ _ e, bs ++ [c], by rw [upd_same, List.map_append]; rfl, by rw [List.length_append]; show bs.length + 1 ≤ _; omega, ?_⟩
        rw [List.all_append, take_snoc ho]
        simp only [List.all_cons, List.all_nil, Bool.and_true, Bool.and_eq_true, id]
        rw [ib, hc]
        constructor
        · rintro ⟨h1, h2⟩ z mz
          rcases List.mem_append.mp mz with mz | mz
          · exact h1 z mz
          · rw [List.mem_singleton.mp mz]; exact h2
        · exact fun h => ⟨fun z mz => h z (List.mem_append_left _ mz), h o (List.mem_append_right _ (List.mem_singleton.mpr rfl))⟩
      walk_at "go"
      refine ⟨rfl, ?_⟩
      walk_at "go"
      refine ⟨_, _, rfl, by rw [← kvR_some eo]; exact DGet.k (k := Sum.inl o) (s2 _ _ hob), ?_⟩
      refine ⟨_, _, rfl, DGet.k (k := Sum.inl b) (s2 _ _ ho1), ?_⟩
      rw [valV_keys ho2]
      walk_at "go"
      refine g_iteN (fun c => ?_) (fun c => ?_)
      · exact step true ⟨fun _ => .inl fun z => c ((ho3 b).mpr z), fun _ => rfl⟩
      · walk_at "go"
        refine ⟨_, _, rfl, by rw [← kvR_some eb]; exact DGet.k (k := Sum.inl b) (s2 _ _ hob), ?_⟩
        refine ⟨_, _, rfl, DGet.k (k := Sum.inl o) (s2 _ _ hb1), ?_⟩
        rw [valV_keys hb2]
        refine step _ ⟨fun z => .inr ((hb3 o).mp (of_decide_eq_true z)), fun z => ?_⟩
        rcases z with z | z
        · exact absurd ((ho3 b).mp c) z
        · exact decide_eq_true ((hb3 o).mpr z)
    · rintro H2 ⟨s2, bs, e2, lb, ib⟩
      rw [List.length_map, List.take_length] at ib
      walk_at "go"
      exact ⟨D, bs, rfl, SqL.of e2, k _ _ ib s2⟩
end
section
variable {P : Program} {w : World} {K : PySem.W.Frag} {mg : Str → Option Value} {base : Heap} {a : Ad}
/-! ### the order of the wills -/
def willB (S : Ch) (b : Int) : Bool := match S.get b with
  | some x => !x.will.isEmpty
  | none => false
noncomputable def Ch.leftL (S : Ch) : List Int := S.lostL.filter (willB S)
noncomputable def Ch.orderL (S : Ch) : List Int := ordN S S.lostL S.leftL.length S.leftL
open Classical in
noncomputable def freeT (S : Ch) (g l t : List Int) : List Int := t.filter fun b => decide (FreeIn S g l b)
theorem freeT_len (S : Ch) (g l t : List Int) : (freeT S g l t).length ≤ t.length := List.length_filter_le _ _
open Classical in
theorem freeT_snoc {S : Ch} {g l t : List Int} {b : Int} : freeT S g l (t ++ [b]) = freeT S g l t ++ if FreeIn S g l b then [b] else [] := by
  unfold freeT
  rw [List.filter_append]
  by_cases c : FreeIn S g l b
  · rw [if_pos c, List.filter_cons, if_pos (by simpa using c)]; rfl
  · rw [if_neg c, List.filter_cons, if_neg (by simpa using c)]; rfl
theorem paired_empty {α β : Type} {F : α → β → Prop} {xs : List α} {ys : List β} (h : Paired F xs ys) : xs.isEmpty = ys.isEmpty := by cases h <;> rfl
theorem lost_pw {S : Ch} (G : Good S) : S.lostL.Pairwise (· < ·) := G.kb.sublist List.filter_sublist
theorem left_pw {S : Ch} (G : Good S) : S.leftL.Pairwise (· < ·) := (lost_pw G).sublist List.filter_sublist
theorem left_len {S : Ch} (G : Good S) : S.leftL.length ≤ 60 := Nat.le_trans (List.length_filter_le _ _) (lost_len G)
theorem YgAt.set {H : Hp} {y c : Addr} {Y : List (Int × Addr)} {S : Ch} {g : List Int} {xs : List V} {o : HO} (h : YgAt H y Y S g) (e : H c = some (.lst xs)) : YgAt (upd H c o) y Y S g := by
  refine ⟨by rw [upd_ne (fun z => by rw [← z, h.ob] at e; cases e)]; exact h.ob, fun x m => ?_, h.nk⟩
  obtain ⟨kvs, ks, h1, h2, h3⟩ := h.ls x m
  exact ⟨kvs, ks, by rw [upd_ne (fun z => by rw [← z, h1] at e; cases e)]; exact h1, h2, h3⟩
def OrI (S : Ch) (G L : List Int) (A B C D : Addr) (p ol : Addr) (Y : List (Int × Addr)) (H0 : Hp) (m : Nat) (σ : L2.St) (H1 : Hp) : Prop := ∃ (v6 v7 : Option V) (l os : List Int), σ = [some (.ref p), some (.ref A), some (.ref B), some (.ref C), some (.ref D), some (.ref ol), v6, none] ∧ Same H0 H1 ∧ YgAt H1 D Y S G ∧ H1 C = some (.lst (l.map V.int)) ∧ H1 ol = some (.lst (os.map V.int)) ∧ l.Pairwise (· < ·) ∧ (∀ b ∈ l, b ∈ Y.map (·.1)) ∧ os.length + l.length ≤ 60 ∧ os ++ ordN S G l.length l = ordN S G L.length L ∧ m = l.length
def spOrder (a : Ad) : Sp := fun vs H Q _ => ∃ (p : Addr) (S : Ch) (O : List Addr), vs = [.ref p] ∧ ChestAt a.Chest a.Box H p S O ∧ Good S ∧ ∀ (q : Addr) (H' : Hp), H q = none → Same H H' → H' q = some (.lst (S.orderL.map V.int)) → Q (.ref q) H'
theorem ok_order_of_wills (T : Txt a K mg) : FnOk P w K mg base (CN P w) 6 a.f_order_of_wills a.fd_order_of_wills ["chest"] (spOrder a) := by
  refine okN T.F_order_of_wills sc_order_of_wills (fun vs H Q E h => ?_) (fun cdv A outer s H vs Q E hr h => ?_)
  · obtain ⟨p, S, O, rfl, _⟩ := h; rfl
  · obtain ⟨p, S, O, rfl, hS, G, k⟩ := h
    have hu := hu_of hr
    obtain ⟨C, hC, hCS, eO⟩ := id hS
    have hob := hC.ob
    have hr1 : Room 1 _ := hr.mono (by decide); have hr2 : Room 2 _ := hr.mono (by decide); have hr3 : Room 3 _ := hr.mono (by decide); have hr5 : Room 5 _ := hr.mono (by decide);
    refine ⟨_, (pss_cons (ps_set (i := 1) sc_order_of_wills.nd rfl (Or.inl rfl) (pe_call (ok_lost T) hr5 rfl T.mg_lost T.F_lost.kp T.b_lost .nil pass0N (pa_cons (pv 0) pa_nil)))
      (pss_cons (ps_set (i := 2) sc_order_of_wills.nd rfl (Or.inr rfl) (pe_call (ok_steps_among T) hr3 rfl T.mg_steps_among T.F_steps_among.kp T.b_steps_among .nil pass0N (pa_cons (pv 0) (pa_cons (pv 1) pa_nil))))
      (pss_cons (ps_set (i := 3) sc_order_of_wills.nd rfl (Or.inr rfl) (pe_lc (own := [("box", 7)]) (g := gName 7) (tt := (tTru K (tMeth a.Chest "will" (spWill a) [] E0 (tVar 0) (tCons (tVar 7) tNil)))) (te := (tVar 7)) (by rfl) sc_order_of_wills.nd (pi_list (pv 1)) (blkOk_by (own := [("box", 7)]) (N := N_order_of_wills) (sc := defScope s_order_of_wills) (by decide +kernel)) (fun _ _ _ _ _ => (pg_name (i := 7) sc_order_of_wills.nd rfl (Or.inl rfl))) (fun _ _ _ _ _ => pts_one (pt_truth (pe_meth (pv 0) T.cl_Chest T.m_Chest_will (ok_Chest_will T) hr2 T.b_Chest_will .nil pass0N (pa_cons (pv 7) pa_nil)) (by intro _; rfl))) (fun _ _ _ _ _ => (pv 7))))
      (pss_cons (ps_set (i := 4) sc_order_of_wills.nd rfl (Or.inr rfl) (pe_dc (own := [("box", 7)]) (g := gName 7) (tt := tYes) (tk := (tVar 7)) (tv := (tCall (spYounger) [] E0 (tCons (tVar 7) (tCons (tVar 2) tNil)))) (by rfl) sc_order_of_wills.nd (pi_list (pv 3)) (blkOk_by (own := [("box", 7)]) (N := N_order_of_wills) (sc := defScope s_order_of_wills) (by decide +kernel)) (fun _ _ _ _ _ => (pg_name (i := 7) sc_order_of_wills.nd rfl (Or.inl rfl))) (fun _ _ _ _ _ => pts_nil) (fun _ _ _ _ _ => (pv 7)) (fun _ _ _ _ _ => (pe_call (ok_younger_than T) hr1 rfl T.mg_younger_than T.F_younger_than.kp T.b_younger_than .nil pass0N (pa_cons (pv 7) (pa_cons (pv 2) pa_nil))))))
      (pss_cons (ps_set (i := 5) sc_order_of_wills.nd rfl (Or.inl rfl) (pe_lst pa_nil))
      (pss_cons (ps_while PassesOwn.leaving (pt_truth (pv 3) (by intro _; rfl))
      (pss_cons (ps_set (i := 6) sc_order_of_wills.nd rfl (Or.inl rfl) (pe_callB (cr_min rfl) (by rfl) T.no_min (by decide +kernel) (pa_cons (pe_lc (own := [("box", 7)]) (g := gName 7) (tt := (tB (tCall (spFree) [] E0 (tCons (tVar 7) (tCons (tVar 3) (tCons (tVar 4) tNil)))))) (te := (tVar 7)) (by rfl) sc_order_of_wills.nd (pi_list (pv 3)) (blkOk_by (own := [("box", 7)]) (N := N_order_of_wills) (sc := defScope s_order_of_wills) (by decide +kernel)) (fun _ _ _ _ _ => (pg_name (i := 7) sc_order_of_wills.nd rfl (Or.inl rfl))) (fun _ _ _ _ _ => pts_one (pt_val (pe_call (ok_is_free T) hr1 rfl T.mg_is_free T.F_is_free.kp T.b_is_free .nil pass0N (pa_cons (pv 7) (pa_cons (pv 3) (pa_cons (pv 4) pa_nil)))))) (fun _ _ _ _ _ => (pv 7))) pa_nil)))
      (pss_cons (ps_expr (pe_bm PySem.F.plainAttrs_list PySem.F.slot_list_append PySem.F.type_list_append mt_append (pv 5) (pa_cons (pv 6) pa_nil)))
      (pss_one (ps_expr (pe_bm PySem.F.plainAttrs_list PySem.F.slot_list_remove PySem.F.type_list_remove mt_remove (pv 3) (pa_cons (pv 6) pa_nil)))))))
      (pss_one (ps_ret (pv 5))))))))), ?_⟩
    try dsimp only [cxOf]
    walk_at "go"
    refine ⟨p, S, O, rfl, hS, G, fun bl H1 hbl s1 e1 => ?_⟩
    have l60 := lost_len G
    have lpw := lost_pw G
    walk_at "go"
    refine ⟨p, bl, S, O, S.lostL, rfl, hS.same s1, G, e1, lpw, l60, fun st H2 Ts f hst s2 hT eT hf lf => ?_⟩
    have s02 := s1.trans s2
    walk_at "go"
    refine ⟨bl, rfl, ⟨_, SqL.of (s2 _ _ e1)⟩, fun ll hll => lc_list (K := K) (a := bl) (xs := S.lostL.map V.int) (fun i H3 => Same H2 H3 ∧ H3 ll = some (.lst (((S.lostL.take i).filter (willB S)).map V.int))) ⟨Same.new hll, upd_same⟩ (fun i H3 _ h => SqL.of (h.1 _ _ (s2 _ _ e1))) ?_ ?_⟩
    · rintro i x H3 hx ⟨s3, e3⟩
      rw [List.getElem?_map] at hx
      obtain ⟨b, hb, rfl⟩ := Option.map_eq_some_iff.mp hx
      have i60 : i < 60 := Nat.lt_of_lt_of_le (List.getElem?_eq_some_iff.mp hb).1 l60
      have s03 := s02.trans s3
      have hob3 := s03 _ _ hob
      have hin : b ∈ S.bs.map (·.1) := (List.mem_filter.mp (List.mem_of_getElem? hb)).1
      have hinC : b ∈ C.B.map (·.1) := by rw [keys_eq (fun _ _ k => k.1) hCS.bs]; exact hin
      obtain ⟨bx, ebx⟩ := lk_there hinC
      obtain ⟨y, ey, hy1, hy2, hy3⟩ := hCS.ss ebx
      have ew : willB S b = !bx.ds.isEmpty := by
        unfold willB
        rw [ey]
        show (!y.will.isEmpty) = _
        rw [paired_empty hy3]
      rw [take_snoc hb, List.filter_append]
      walk_at "go"
      refine ⟨rfl, ?_⟩
      refine g_tru ?_
      walk_at "go"
      refine ⟨p, _, _, rfl, hob3, fChest_no (by decide +kernel) (by decide +kernel) (by decide +kernel) (by decide +kernel), ?_⟩
      walk_at "go"
      refine ⟨p, b, C, rfl, hC.same s03, (fun z => by rw [ebx] at z; cases z), fun b' eb' q hq => ?_⟩
      rw [ebx] at eb'; cases eb'
      have n4 := Same.new (o := HO.lst bx.ds) hq
      have e4 := n4 _ _ e3
      refine ⟨!bx.ds.isEmpty, .inl ⟨_, SqL.of upd_same, rfl⟩, ?_⟩
      rw [← ew]
      refine g_iteB (fun c => ?_) (fun c => ?_)
      · rw [show [b].filter (willB S) = [b] by rw [List.filter_cons, if_pos c]; rfl]
        walk_at "go"
        refine ⟨_, e4, small1000 (by
          rw [List.length_map]
          have := List.length_filter_le (willB S) (S.lostL.take i)
          rw [List.length_take] at this
          omega), fun c o e => ?_, ?_⟩
        · rw [upd_ne (ne_of_none e hll)]; exact n4 _ _ (s3 _ _ e)
        · rw [upd_same, List.map_append]; rfl
      · rw [show [b].filter (willB S) = [] by rw [List.filter_cons, if_neg (by rw [c]; decide)]; rfl, List.append_nil]
        walk_at "go"
        exact ⟨s3.trans n4, e4⟩
    rintro H3 ⟨s3, e3⟩
    rw [List.length_map, List.take_length] at e3
    have e3 : H3 ll = some (.lst (S.leftL.map V.int)) := e3
    have s03 := s02.trans s3
    have f60 := left_len G
    have fpw := left_pw G
    have fsub : ∀ b ∈ S.leftL, b ∈ S.lostL := fun b m => (List.mem_filter.mp m).1
    walk_at "go"
    refine g_dc ?_
    walk_at "go"
    refine ⟨ll, rfl, ⟨_, SqL.of e3⟩, fun yd hyd => dc_list (K := K) (a := ll) (xs := S.leftL.map V.int) (fun i H4 => Same H3 H4 ∧ ∃ Y, YgAt H4 yd Y S S.lostL ∧ Y.map (·.1) = S.leftL.take i ∧ ∀ e ∈ Y, e.2 ≠ yd)
      ⟨Same.new hyd, [], ⟨upd_same, fun e m => (nomatch m), List.Pairwise.nil⟩, rfl, fun e m => (nomatch m)⟩ (fun i H4 _ h => SqL.of (h.1 _ _ e3)) ?_ ?_⟩
    · rintro i x H4 hx ⟨s4, Y, hY, eY, fY⟩
      rw [List.getElem?_map] at hx
      obtain ⟨b, hb, rfl⟩ := Option.map_eq_some_iff.mp hx
      have i60 : i < 60 := Nat.lt_of_lt_of_le (List.getElem?_eq_some_iff.mp hb).1 f60
      have lY : Y.length ≤ 60 := by
        have := congrArg List.length eY
        rw [List.length_map, List.length_take] at this
        omega
      walk_at "go"
      refine ⟨rfl, ?_⟩
      walk_at "go"
      refine ⟨b, st, S, S.lostL, Ts, f, rfl, (hT.frame s3).frame s4, eT, l60, hf, lf, fsub b (List.mem_of_getElem? hb), fun d H5 kvs ks hd s5 e5 hks hbel => ?_⟩
      refine ⟨_, Sum.inl b, rfl, s5 _ _ hY.ob, small1000 (by rw [kvR_len]; omega), ?_, Y ++ [(b, d)], ?_, ?_, ?_⟩
      · exact fun c o e => by rw [upd_ne (ne_of_none e hyd)]; exact s5 _ _ (s4 _ _ e)
      · have lt := st_snoc fpw eY hb
        rw [kvR_put lt]
        have rd : d ≠ yd := fun z => by rw [z, hY.ob] at hd; cases hd
        have keep : ∀ (c : Addr) (kv : List (Key × V)), c ≠ yd → H5 c = some (.dK kv) → upd H5 yd (.dK (kvR (Y ++ [(b, d)]))) c = some (.dK kv) := fun c kv n e => by rw [upd_ne n]; exact e
        refine ⟨upd_same, fun e m => ?_, ?_⟩
        · rcases List.mem_append.mp m with m | m
          · obtain ⟨kv, ks', h1, h2, h3⟩ := hY.ls e m
            exact ⟨kv, ks', keep _ _ (fY e m) (s5 _ _ h1), h2, h3⟩
          · rw [List.mem_singleton.mp m]
            exact ⟨kvs, ks, keep _ _ rd e5, hks, hbel⟩
        · rw [List.map_append, List.pairwise_append]
          refine ⟨hY.nk, List.pairwise_singleton _ _, fun x mx y my => ?_⟩
          obtain ⟨e, me, rfl⟩ := List.mem_map.mp mx
          rw [List.mem_singleton.mp my]; exact lt e me
      · rw [List.map_append, eY, take_snoc hb]; rfl
      · intro e m
        rcases List.mem_append.mp m with m | m
        · exact fY e m
        · rw [List.mem_singleton.mp m]; exact fun (z : d = yd) => by rw [z, hY.ob] at hd; cases hd
    rintro H4 ⟨s4, Y, hY, eY, nY⟩
    rw [List.length_map, List.take_length] at eY
    have s04 := s03.trans s4
    walk_at "go"
    refine ⟨by decide, fun ol hol => ?_⟩
    have n5 := Same.new (o := HO.lst []) hol
    have olH : H ol = none := free_same s04 hol
    have llH : H ll = none := free_same s02 hll
    walk_at "go"
    refine g_while ⟨OrI S S.lostL S.leftL bl st ll yd p ol Y H, ⟨_, none, none, S.leftL, [], rfl, s04.trans n5, hY.frame n5, n5 _ _ (s4 _ _ e3), upd_same, fpw, fun b m => by rw [eY]; exact m, by show 0 + _ ≤ 60; omega, rfl, rfl⟩, ?_⟩
    rintro m σ H6 ⟨v6, v7, l, os, rfl, s6, hY6, hl6, ho6, pw6, sub6, z6, eo, rfl⟩
    walk_at "go"
    refine ⟨!(l.map V.int).isEmpty, .inl ⟨_, SqL.of hl6, rfl⟩, ?_⟩
    by_cases c : l = []
    · subst c
      rw [show (!(([] : List Int).map V.int).isEmpty) = false from rfl]
      rw [show ordN S S.lostL ([] : List Int).length [] = [] from rfl, List.append_nil] at eo
      walk_at "go"
      exact k ol H6 olH s6 (by rw [ho6, eo]; rfl)
    · obtain ⟨b, r, eb, mb⟩ := free_cons (S := S) (g := S.lostL) c
      rw [show (!(l.map V.int).isEmpty) = true by cases l with | nil => exact absurd rfl c | cons _ _ => rfl, if_pos rfl]
      refine ⟨fun σ' H' => ∃ m' < l.length, OrI S S.lostL S.leftL bl st ll yd p ol Y H m' σ' H', fun _ _ h => h, ?_⟩
      walk_at "go"
      refine ⟨ll, rfl, ⟨_, SqL.of hl6⟩, fun D hD => lc_list (K := K) (a := ll) (xs := l.map V.int) (fun i H7 => Same H6 H7 ∧ H7 D = some (.lst ((freeT S S.lostL l (l.take i)).map V.int))) ⟨Same.new hD, upd_same⟩ (fun i H7 _ h => SqL.of (h.1 _ _ hl6)) ?_ ?_⟩
      · rintro i x H7 hx ⟨s7, e7⟩
        rw [List.getElem?_map] at hx
        obtain ⟨b', hb', rfl⟩ := Option.map_eq_some_iff.mp hx
        have i60 : i < 60 := Nat.lt_of_lt_of_le (List.getElem?_eq_some_iff.mp hb').1 (by omega)
        walk_at "go"
        refine ⟨rfl, ?_⟩
        walk_at "go"
        refine ⟨b', ll, yd, l, Y, S, S.lostL, rfl, s7 _ _ hl6, hY6.frame s7, sub6 _ (List.mem_of_getElem? hb'), sub6, by omega, fun kk H8 hk s8 => ?_⟩
        walk_at "go"
        have e8 := s8 _ _ e7
        have s78 := s7.trans s8
        rw [take_snoc hb', freeT_snoc]
        refine g_iteB (fun c => ?_) (fun c => ?_)
        · rw [if_pos (hk.mp c)]
          walk_at "go"
          refine ⟨_, e8, small1000 (by
            rw [List.length_map]
            have := freeT_len S S.lostL l (l.take i)
            rw [List.length_take] at this
            omega), fun c o e => ?_, ?_⟩
          · rw [upd_ne (ne_of_none e hD)]; exact s78 _ _ e
          · rw [upd_same, List.map_append]; rfl
        · rw [if_neg (fun z => by rw [hk.mpr z] at c; cases c), List.append_nil]
          walk_at "go"
          exact ⟨s78, e8⟩
      rintro H7 ⟨s7, e7⟩
      rw [List.length_map, List.take_length] at e7
      have e7 : H7 D = some (.lst ((freeL S S.lostL l).map V.int)) := e7
      walk_at "go"
      refine ⟨D, _, rfl, SqL.of e7, by rw [eb]; exact Nat.succ_pos _, fun m hm hle => ?_⟩
      have em := min_head pw6 eb hm hle
      subst em
      have ho7 := s7 _ _ ho6
      have hl7 := s7 _ _ hl6
      have lo : ll ≠ ol := fun z => by
        have := s4 _ _ e3
        rw [z, hol] at this; cases this
      walk_at "go"
      refine ⟨.inl ⟨rfl, _, SqL.of ho7⟩, ?_⟩
      walk_at "go"
      refine g_appendK ho7 (by rw [List.length_map]; omega) ?_
      have hl8 : upd H7 ol (.lst (os.map V.int ++ [V.int m])) ll = some (.lst (l.map V.int)) := by rw [upd_ne lo]; exact hl7
      walk_at "go"
      refine ⟨.inl ⟨rfl, _, SqL.of hl8⟩, ?_⟩
      walk_at "go"
      obtain ⟨j, j1, j2, j3, j4⟩ := first_at mb
      refine ⟨ll, l, m, j, rfl, rfl, hl8, j2, j3, ?_⟩
      rw [j4]
      walk_at "go"
      have ll1 : (l.erase m).length + 1 = l.length := by
        have := List.length_erase_of_mem mb
        have : 0 < l.length := List.length_pos_of_mem mb
        omega
      refine ⟨_, ?_, _, v7, l.erase m, os ++ [m], rfl, fun c u e => ?_, ((hY6.frame s7).set ho7).set hl8, upd_same, ?_, pw6.sublist List.erase_sublist, fun b hb => sub6 b (List.mem_of_mem_erase hb), ?_, ?_, rfl⟩
      · omega
      · rw [upd_ne (ne_of_none e llH), upd_ne (ne_of_none e olH)]; exact s7 _ _ (s6 _ _ e)
      · rw [upd_ne lo.symm, upd_same, List.map_append]; rfl
      · rw [List.length_append]; show os.length + 1 + _ ≤ 60; omega
      · rw [← eo, ← ll1, ord_step eb, List.append_assoc]; rfl
end
section
variable {P : Program} {w : World} {K : PySem.W.Frag} {mg : Str → Option Value} {base : Heap} {a : Ad}
/-! ### steps, reckoned -/
theorem inV_ints (x : Int) : ∀ ns : List Int, inV (.int x) (ns.map V.int) = decide (x ∈ ns)
  | [] => by simp [inV]
  | n :: ns => by
    have ih := inV_ints x ns
    unfold inV at ih ⊢
    rw [List.map_cons, List.any_cons, ih]
    show ((n == x) || decide (x ∈ ns)) = _
    by_cases c : n = x
    · subst c; simp
    · have c2 : x ≠ n := fun z => c z.symm
      simp [c, c2]
theorem flat_ints : ∀ ns : List Int, (ns.map V.int).all flatV = true
  | [] => rfl
  | n :: ns => by rw [List.map_cons, List.all_cons, flat_ints ns]; rfl
theorem g_inI {H : Hp} {Q : VK} {p : Addr} {x : Int} {ns : List Int} (e : H p = some (.lst (ns.map V.int))) (h : Q (.bl (decide (x ∈ ns))) H) : rIn K false (.int x) (.ref p) H Q := g_inL (SqL.of e) rfl (flat_ints ns) (inV_ints x ns) h
theorem g_inT {H : Hp} {Q : VK} {p : Addr} {x : Int} {ns : List Int} (e : H p = some (.tup (ns.map V.int))) (h : Q (.bl (decide (x ∈ ns))) H) : rIn K false (.int x) (.ref p) H Q :=
  ⟨p, _, rfl, .inr (SqT.of e), rfl, flat_ints ns, by rw [if_neg (by decide), inV_ints]; exact h⟩
def spSteps : Sp := fun vs H Q _ => ∃ (q gl : Addr) (b : Int) (S : Ch) (O : List Addr) (g : List Int), vs = [.ref q, .int b, .ref gl] ∧ WorldAt H q S O ∧ Good S ∧ H gl = some (.lst (g.map V.int)) ∧ b ∈ g ∧ S.get b ≠ none ∧
  ∀ (r : Addr) (H' : Hp) (ss : List Int), H r = none → Same H H' → H' r = some (.lst (ss.map V.int)) → (∀ y, y ∈ ss ↔ Ed S g b y) → ss.length ≤ 69 → Q (.ref r) H'
/-! ### what is below, reckoned -/
def BlI (S : Ch) (g : List Int) (b : Int) (q gl d : Addr) (H : Hp) (m : Nat) (σ : L2.St) (H1 : Hp) : Prop := ∃ (v5 : Option V) (wl : Addr) (kvs : List (Key × V)) (ks ws : List Int), σ = [some (.ref q), some (.int b), some (.ref gl), some (.ref d), some (.ref wl), v5] ∧ Same H H1 ∧ H wl = none ∧ H1 d = some (.dK kvs) ∧ kvs.map (·.1) = ks.map Sum.inl ∧ H1 wl = some (.lst (ws.map V.int)) ∧ Wk S g b ks ws ∧ ws.length ≤ 69 * (ks.length + 1) ∧ m = 70 * (61 - ks.length) + ws.length
def spBelow : Sp := fun vs H Q _ => ∃ (q gl : Addr) (b : Int) (S : Ch) (O : List Addr) (g : List Int), vs = [.ref q, .int b, .ref gl] ∧ WorldAt H q S O ∧ Good S ∧ H gl = some (.lst (g.map V.int)) ∧ b ∈ g ∧ (∀ x ∈ g, S.get x ≠ none) ∧ g.length ≤ 60 ∧
  ∀ (d : Addr) (H' : Hp) (kvs : List (Key × V)) (ks : List Int), H d = none → Same H H' → H' d = some (.dK kvs) → kvs.map (·.1) = ks.map Sum.inl → (∀ y, y ∈ ks ↔ Bel S g b y) → Q (.ref d) H'
end
section
variable {P : Program} {w : World} {K : PySem.W.Frag} {mg : Str → Option Value} {base : Heap} {a : Ad}
/-! ### the order, reckoned -/
theorem ord_len {S : Ch} {g : List Int} : ∀ (n : Nat) (l : List Int), (ordN S g n l).length ≤ n
  | 0, l => Nat.zero_le _
  | n + 1, l => by
    show (match freeL S g l with | [] => [] | b :: _ => b :: ordN S g n (l.erase b)).length ≤ n + 1
    cases freeL S g l with
    | nil => exact Nat.zero_le _
    | cons b r => exact Nat.succ_le_succ (ord_len n _)
theorem order_len {S : Ch} (G : Good S) : S.orderL.length ≤ 60 := Nat.le_trans (ord_len _ _) (left_len G)
theorem wwill {H : Hp} {L : LWd} {S : Ch} (hS : WSem H L S) {b : Int} {y : Bx} (e : S.get b = some y) : (valV (kvA L.W) (Sum.inl b : Key)).isSome = willB S b := by
  unfold willB
  rw [e]
  cases el : L.W.lookup b with
  | none =>
    have h := hS.w0 b y el e
    rw [kvA_none el]
    show false = !y.will.isEmpty
    rw [h]; rfl
  | some l =>
    obtain ⟨x, e1, e2, _⟩ := hS.w1 b l el
    rw [e] at e1; cases e1
    rw [kvA_some el]
    show true = !y.will.isEmpty
    cases hw : y.will with
    | nil => exact absurd hw e2
    | cons _ _ => rfl
theorem lost_get {S : Ch} {b : Int} (m : b ∈ S.lostL) : ∃ y, S.get b = some y := by
  have hin : b ∈ S.bs.map (·.1) := (List.mem_filter.mp m).1
  exact lk_there hin
def OrW (S : Ch) (G L : List Int) (q gl ll yd ol : Addr) (Y : List (Int × Addr)) (v4 : Option V) (H0 : Hp) (m : Nat) (σ : L2.St) (H1 : Hp) : Prop := ∃ (v6 : Option V) (l os : List Int), σ = [some (.ref q), some (.ref gl), some (.ref ll), some (.ref yd), v4, some (.ref ol), v6, none] ∧ Same H0 H1 ∧ YgAt H1 yd Y S G ∧ H1 ll = some (.lst (l.map V.int)) ∧ H1 ol = some (.lst (os.map V.int)) ∧ l.Pairwise (· < ·) ∧ (∀ b ∈ l, b ∈ Y.map (·.1)) ∧ os.length + l.length ≤ 60 ∧ os ++ ordN S G l.length l = ordN S G L.length L ∧ m = l.length
def spOrderW : Sp := fun vs H Q _ => ∃ (q : Addr) (S : Ch) (O : List Addr), vs = [.ref q] ∧ WorldAt H q S O ∧ Good S ∧ ∀ (r : Addr) (H' : Hp), H r = none → Same H H' → H' r = some (.lst (S.orderL.map V.int)) → Q (.ref r) H'
end
section
variable {P : Program} {w : World} {K : PySem.W.Frag} {mg : Str → Option Value} {base : Heap} {a : Ad}
/-! ### a deed of a will -/
section
variable {H H' : Hp} {p : Addr} {C : LCh} {S : Ch} {b : Int} {x : LBx}
theorem res_take (hC : CAt a.Chest a.Box H p C) (hCS : CS H C S) (e : C.B.lookup b = some x) (fr : Fr [x.a] H H') (hC' : CAt a.Chest a.Box H' p (C.setB b { x with hand := true })) :
    Fr (own p C) H H' ∧ Gr (own p C) (own p (C.setB b { x with hand := true })) H ∧ ChestAt a.Chest a.Box H' p (S.step (.take b)).2.2 (own p (C.setB b { x with hand := true })) := by
  obtain ⟨y, ey, by1, by2, by3⟩ := hCS.ss e
  have eo := own_setB (b' := { x with hand := true }) hC e rfl rfl rfl
  have fr' : Fr (own p C) H H' := fr.sub fun w hw => by
    rw [List.mem_singleton.mp hw]
    exact own_mem.mpr (.inr (.inr (.inr (ownBs_mem.mpr ⟨_, lk_mem e, .inl rfl⟩))))
  have tp := hC.tups fr'
  rw [st_take1 ey]
  exact ⟨fr', Gr.same eo, _, hC', CS.bset tp hCS ⟨L2.Paired.mapP by1 fun _ _ h => h.keep tp, rfl, L2.Paired.mapP by3 fun _ _ h => h.keep tp⟩, rfl⟩
theorem res_drop (hC : CAt a.Chest a.Box H p C) (hCS : CS H C S) (e : C.B.lookup b = some x) (c : x.hand = true) (fr : Fr [x.a] H H') (hC' : CAt a.Chest a.Box H' p (C.setB b { x with hand := false })) :
    Fr (own p C) H H' ∧ Gr (own p C) (own p (C.setB b { x with hand := false })) H ∧ ChestAt a.Chest a.Box H' p (S.step (.drop b)).2.2 (own p (C.setB b { x with hand := false })) := by
  obtain ⟨y, ey, by1, by2, by3⟩ := hCS.ss e
  have eo := own_setB (b' := { x with hand := false }) hC e rfl rfl rfl
  have fr' : Fr (own p C) H H' := fr.sub fun w hw => by
    rw [List.mem_singleton.mp hw]
    exact own_mem.mpr (.inr (.inr (.inr (ownBs_mem.mpr ⟨_, lk_mem e, .inl rfl⟩))))
  have tp := hC.tups fr'
  rw [st_drop2 ey (by rw [← by2, c]; decide)]
  exact ⟨fr', Gr.same eo, _, hC', CS.bset tp hCS ⟨L2.Paired.mapP by1 fun _ _ h => h.keep tp, rfl, L2.Paired.mapP by3 fun _ _ h => h.keep tp⟩, rfl⟩
theorem res_put {s o : Int} {g : Bool} {z : LBx} {u : Addr} (hC : CAt a.Chest a.Box H p C) (hCS : CS H C S) (e : C.B.lookup b = some x) (c0 : 0 ≤ s) (c1 : s < (x.vs.length : Int)) (ez : C.B.lookup o = some z) (fr : Fr [x.l] H H') (hut : H' u = some (.tup [.int o, .bl g])) (hC' : CAt a.Chest a.Box H' p (C.setB b { x with vs := x.vs.set s.toNat (.ref u) })) :
    Fr (own p C) H H' ∧ Gr (own p C) (own p (C.setB b { x with vs := x.vs.set s.toNat (.ref u) })) H ∧ ChestAt a.Chest a.Box H' p (S.step (.put b s o g)).2.2 (own p (C.setB b { x with vs := x.vs.set s.toNat (.ref u) })) := by
  obtain ⟨y, ey, by1, by2, by3⟩ := hCS.ss e
  have el : x.vs.length = y.sl.length := by1.length
  have eo := own_setB (b' := { x with vs := x.vs.set s.toNat (.ref u) }) hC e rfl rfl rfl
  obtain ⟨y2, ey2, _⟩ := hCS.ss ez
  rw [st_put3 ey (by rw [← el]; omega) ey2]
  have fr' : Fr (own p C) H H' := fr.sub fun w hw => by
    rw [List.mem_singleton.mp hw]
    exact own_mem.mpr (.inr (.inr (.inr (ownBs_mem.mpr ⟨_, lk_mem e, .inr (.inl rfl)⟩))))
  have tp := hC.tups fr'
  exact ⟨fr', Gr.same eo, _, hC', CS.bset tp hCS ⟨slots_set (L2.Paired.mapP by1 fun _ _ h => h.keep tp) (.tup hut) _, by2, L2.Paired.mapP by3 fun _ _ h => h.keep tp⟩, rfl⟩
theorem res_empty {s : Int} (hC : CAt a.Chest a.Box H p C) (hCS : CS H C S) (e : C.B.lookup b = some x) (c0 : 0 ≤ s) (c1 : s < (x.vs.length : Int)) (fr : Fr [x.l] H H') (hC' : CAt a.Chest a.Box H' p (C.setB b { x with vs := x.vs.set s.toNat .non })) :
    Fr (own p C) H H' ∧ Gr (own p C) (own p (C.setB b { x with vs := x.vs.set s.toNat .non })) H ∧ ChestAt a.Chest a.Box H' p (S.step (.empty b s)).2.2 (own p (C.setB b { x with vs := x.vs.set s.toNat .non })) := by
  obtain ⟨y, ey, by1, by2, by3⟩ := hCS.ss e
  have el : x.vs.length = y.sl.length := by1.length
  rw [st_empty2 ey (by rw [← el]; omega)]
  have eo := own_setB (b' := { x with vs := x.vs.set s.toNat .non }) hC e rfl rfl rfl
  have fr' : Fr (own p C) H H' := fr.sub fun w hw => by
    rw [List.mem_singleton.mp hw]
    exact own_mem.mpr (.inr (.inr (.inr (ownBs_mem.mpr ⟨_, lk_mem e, .inr (.inl rfl)⟩))))
  have tp := hC.tups fr'
  exact ⟨fr', Gr.same eo, _, hC', CS.bset tp hCS ⟨slots_set (L2.Paired.mapP by1 fun _ _ h => h.keep tp) .non _, by2, L2.Paired.mapP by3 fun _ _ h => h.keep tp⟩, rfl⟩
theorem res_will {us : List V} {ds : List Deed} {l : Addr} (hC : CAt a.Chest a.Box H p C) (hCS : CS H C S) (e : C.B.lookup b = some x) (hp : Paired (DeedV H) us ds) (c1 : ds.length ≤ 9) (c2 : ds.any Deed.isNeg = false) (hl : H l = none) (fr : Fr [x.a] H H') (hC' : CAt a.Chest a.Box H' p (C.setB b { x with w := l, ds := us })) :
    Fr (own p C) H H' ∧ Gr (own p C) (own p (C.setB b { x with w := l, ds := us })) H ∧ ChestAt a.Chest a.Box H' p (S.step (.will b ds)).2.2 (own p (C.setB b { x with w := l, ds := us })) := by
  obtain ⟨y, ey, by1, by2, by3⟩ := hCS.ss e
  rw [st_will2 ey (fun z => z.elim (fun h => by omega) (fun h => by rw [c2] at h; cases h))]
  have fr' : Fr (own p C) H H' := fr.sub fun w hw => by
    rw [List.mem_singleton.mp hw]
    exact own_mem.mpr (.inr (.inr (.inr (ownBs_mem.mpr ⟨_, lk_mem e, .inl rfl⟩))))
  have tp := hC.tups fr'
  refine ⟨fr', fun w hw => ?_, _, hC', CS.bset tp hCS ⟨L2.Paired.mapP by1 fun _ _ h => h.keep tp, by2, L2.Paired.mapP hp fun _ _ h => h.keep tp⟩, rfl⟩
  rcases own_setW hC e hw with hw | rfl
  · exact .inl hw
  · exact .inr hl
end
theorem Gr.back' {O O' : List Addr} {H H' : Hp} (f : Same H H') (g : Gr O O' H') : Gr O O' H := fun b hb => (g b hb).elim .inl fun e => .inr (free_same f e)
def spDoDeed (a : Ad) : Sp := fun vs H Q _ => ∃ (p : Addr) (b : Int) (v : V) (S : Ch) (O : List Addr) (d : Deed), vs = [.ref p, .int b, v] ∧ ChestAt a.Chest a.Box H p S O ∧ S.get b ≠ none ∧ DeedV H v d ∧ d.isNeg = false ∧
  ∀ H' O', Fr O H H' → Gr O O' H → ChestAt a.Chest a.Box H' p (S.deedDone b d) O' → Q .non H'
theorem ok_do_deed (T : Txt a K mg) : FnOk P w K mg base (CN P w) 4 a.f_do_deed a.fd_do_deed ["chest", "box", "deed"] (spDoDeed a) := by
  refine okN T.F_do_deed sc_do_deed (fun vs H Q E h => ?_) (fun cdv A outer s H vs Q E hr h => ?_)
  · obtain ⟨p, b, v, S, O, d, rfl, _⟩ := h; rfl
  · obtain ⟨p, b, v, S, O, d, rfl, ⟨C, hC, hCS, rfl⟩, hb, hd, hn, k⟩ := h
    have hu := hu_of hr
    have hob := hC.ob
    have hbC : ∃ x, C.B.lookup b = some x := by
      cases e : C.B.lookup b with
      | none => exact absurd (hCS.nn.mp e) hb
      | some x => exact ⟨x, rfl⟩
    obtain ⟨x, ex⟩ := hbC
    have hr1 : Room 1 _ := hr.mono (by decide); have hr2 : Room 2 _ := hr.mono (by decide); have hr3 : Room 3 _ := hr.mono (by decide);
    refine ⟨_, (pss_one (ps_match (pv 2) (pm_word rfl sc_do_deed.nd Caps.nil Slots.nil (pss_one (ps_expr (pe_meth (pv 0) T.cl_Chest T.m_Chest_take (ok_Chest_take T) hr2 T.b_Chest_take .nil pass0N (pa_cons (pv 1) pa_nil))))
      (pm_word rfl sc_do_deed.nd (Caps.cons Caps.nil) (Slots.cons (i := 3) (by rfl) (by rfl) Slots.nil) (pss_one (ps_if (pt_cmpR op_in_seq (pv 3) (pe_meth0 (pv 0) T.cl_Chest T.m_Chest_hands (ok_Chest_hands T) hr2 T.b_Chest_hands .nil pass0N) (by rfl)) (pss_one (ps_expr (pe_meth (pv 0) T.cl_Chest T.m_Chest_drop (ok_Chest_drop T) hr2 T.b_Chest_drop .nil pass0N (pa_cons (pv 3) pa_nil)))) pss_nil))
      (pm_word rfl sc_do_deed.nd (Caps.cons (Caps.cons (Caps.cons Caps.nil))) (Slots.cons (i := 3) (by rfl) (by rfl) (Slots.cons (i := 4) (by rfl) (by rfl) (Slots.cons (i := 5) (by rfl) (by rfl) Slots.nil))) (pss_one (ps_if (PW.pt (pw_and (pt_cmpR op_in_seq (pv 3) (pe_meth0 (pv 0) T.cl_Chest T.m_Chest_boxes (ok_Chest_boxes T) hr1 T.b_Chest_boxes .nil pass0N) (by rfl)) (pw_and1 (pt_cmpR op_lt (pv 4) (pe_meth (pv 0) T.cl_Chest T.m_Chest_size (ok_Chest_size T) hr2 T.b_Chest_size .nil pass0N (pa_cons (pv 3) pa_nil)) (nomark _))))) (pss_one (ps_expr (pe_meth (pv 0) T.cl_Chest T.m_Chest_put (ok_Chest_put T) hr3 T.b_Chest_put .nil pass0N (pa_cons (pv 3) (pa_cons (pv 4) (pa_cons (pv 1) (pa_cons (pv 5) pa_nil))))))) pss_nil))
      pm_nil))))), ?_⟩
    try dsimp only [cxOf]
    walk_at "gos"
    cases hd with
    | @up t et =>
      refine g_wordY et rfl ?_
      walk_at "gos"
      walk_at "m1"
      walk_at "gos"
      refine ⟨p, b, C, rfl, hC, fun e => (by rw [ex] at e; cases e), fun x' e H' fr hC' => ?_⟩
      obtain ⟨r1, r2, r3⟩ := res_take hC hCS e fr hC'
      walk_at "gos"
      exact k H' _ r1 r2 r3
    | @down t o et =>
      refine g_wordN et (by show (2 : Nat) ≠ 1; decide) ?_
      refine g_wordY et rfl ?_
      walk_at "gos"
      walk_at "m1"
      walk_at "gos"
      refine ⟨p, C, rfl, hC, fun q H1 hq s1 e1 => ?_⟩
      refine g_inI e1 ?_
      walk_at "gos"
      have hC1 := hC.same s1
      have hCS1 := hCS.keep fun t xs e => s1 _ _ e
      have hob1 := hC1.ob
      refine g_ite (fun c => ?_) (fun c => ?_)
      · obtain ⟨⟨n, z⟩, hz, rfl⟩ := List.mem_map.mp c
        obtain ⟨hz1, hz2⟩ := List.mem_filter.mp hz
        have ez := lk_of_mem hC.kB hz1
        have hz2 : z.hand = true := hz2
        walk_at "gos"
        walk_at "m1"
        walk_at "gos"
        refine ⟨p, n, C, rfl, hC1, fun e => (by rw [ez] at e; cases e), fun x' e => ⟨fun z' => ?_, fun hh H' fr hC' => ?_⟩⟩
        · rw [ez] at e; cases e; rw [hz2] at z'; cases z'
        · obtain ⟨r1, r2, r3⟩ := res_drop hC1 hCS1 e hh fr hC'
          walk_at "gos"
          exact k H' _ ((Fr.same s1).trans r1) (r2.back' s1) r3
      · walk_at "gos"
        have es : S.deedDone b (.down o) = S := by
          show (S.step (.drop o)).2.2 = S
          cases e : S.get o with
          | none => rw [st_drop0 e]
          | some y =>
            by_cases ch : y.hand = false
            · rw [st_drop1 e ch]
            · exfalso
              cases el : C.B.lookup o with
              | none => rw [hCS.nn.mp el] at e; cases e
              | some z =>
                obtain ⟨y2, ey2, _, h2, _⟩ := hCS.ss el
                rw [e] at ey2; cases ey2
                refine c (List.mem_map.mpr ⟨(o, z), List.mem_filter.mpr ⟨lk_mem el, ?_⟩, rfl⟩)
                show z.hand = true
                rw [h2]; cases q : y.hand with
                | true => rfl
                | false => exact absurd q ch
        rw [es] at k
        exact k H1 _ (Fr.same s1) (Gr.refl) ⟨C, hC1, hCS1, rfl⟩
    | @hang t o sl h et =>
      have ns : 0 ≤ sl := by
        have hn : (decide (o < 0) || decide (sl < 0)) = false := hn
        simp at hn; omega
      refine g_wordN et (by show (4 : Nat) ≠ 1; decide) ?_
      refine g_wordN et (by show (4 : Nat) ≠ 2; decide) ?_
      refine g_wordY et rfl ?_
      walk_at "gos"
      walk_at "m1"
      walk_at "gos"
      refine ⟨p, C, rfl, hC, fun q hq => ?_⟩
      have s1 := Same.new (o := HO.lst ((C.B.map (·.1)).map V.int)) hq
      refine g_inI upd_same ?_
      walk_at "gos"
      obtain ⟨H1, e1⟩ : ∃ H1, upd H q (.lst ((C.B.map (·.1)).map V.int)) = H1 := ⟨_, rfl⟩
      rw [e1] at s1 ⊢
      have hC1 := hC.same s1
      have hCS1 := hCS.keep fun t xs e => s1 _ _ e
      have hob1 := hC1.ob
      have out : S.deedDone b (.hang o sl h) = S → Q .non H1 := fun es => by
        rw [es] at k
        exact k H1 _ (Fr.same s1) (Gr.refl) ⟨C, hC1, hCS1, rfl⟩
      refine g_ite (fun c => ?_) (fun c => ?_)
      · obtain ⟨z, ez⟩ := lk_there c
        obtain ⟨y, ey, hy, _, _⟩ := hCS.ss ez
        have ly := hy.length
        walk_at "gos"
        walk_at "m1"
        walk_at "gos"
        refine ⟨p, o, C, rfl, hC1, fun e => (by rw [ez] at e; cases e), fun x' e => ?_⟩
        rw [ez] at e; cases e
        walk_at "gos"
        refine g_ite (fun c2 => ?_) (fun c2 => ?_)
        · walk_at "gos"
          walk_at "m1"
          walk_at "gos"
          refine ⟨p, o, sl, b, h, C, rfl, hC1, fun e => (by rw [ez] at e; cases e), fun x' e => ?_⟩
          rw [ez] at e; cases e
          refine ⟨fun c3 => (by omega), fun c3 c4 => ⟨fun e => (by rw [ex] at e; cases e), fun _ u H' hu fr hut hC' => ?_⟩⟩
          obtain ⟨r1, r2, r3⟩ := res_put hC1 hCS1 ez c3 c4 ex fr hut hC'
          walk_at "gos"
          exact k H' _ ((Fr.same s1).trans r1) (r2.back' s1) r3
        · walk_at "gos"
          refine out ?_
          show (S.step (.put o sl b h)).2.2 = S
          rw [st_put1 ey (by omega)]
      · walk_at "gos"
        refine out ?_
        show (S.step (.put o sl b h)).2.2 = S
        rw [st_put0]
        refine hCS.nn.mp (lk_none.mpr c)
/-! ### a will -/
def spDoWill (a : Ad) : Sp := fun vs H Q _ => ∃ (p : Addr) (b : Int) (S : Ch) (O : List Addr), vs = [.ref p, .int b] ∧ ChestAt a.Chest a.Box H p S O ∧ S.get b ≠ none ∧ WOk S ∧
  ∀ H' O', Fr O H H' → Gr O O' H → ChestAt a.Chest a.Box H' p (S.willDone b) O' → Q .non H'
theorem Gr.step {O O1 O2 : List Addr} {H H1 : Hp} (g : Gr O O1 H) (g1 : Gr O1 O2 H1) (f : Fr O H H1) : Gr O O2 H := fun b m => by
  rcases g1 b m with m | e
  · exact g b m
  · cases e2 : H b with
    | none => exact .inr rfl
    | some o =>
      by_cases c : b ∈ O
      · exact .inl c
      · rw [f _ _ e2 c] at e; cases e
theorem Fr.step {O O1 : List Addr} {H H1 H2 : Hp} (f : Fr O H H1) (g : Gr O O1 H) (f1 : Fr O1 H1 H2) : Fr O H H2 := fun b o e n => f1 _ _ (f _ _ e n) fun m => (g b m).elim n fun z => by rw [e] at z; cases z
theorem neg_all {ds : List Deed} (h : ds.any Deed.isNeg = false) : ∀ d ∈ ds, d.isNeg = false := fun d m => by
  cases q : d.isNeg with
  | false => rfl
  | true => rw [List.any_eq_true.mpr ⟨d, m, q⟩] at h; cases h
theorem ok_do_will (T : Txt a K mg) : FnOk P w K mg base (CN P w) 5 a.f_do_will a.fd_do_will ["chest", "box"] (spDoWill a) := by
  refine okN T.F_do_will sc_do_will (fun vs H Q E h => ?_) (fun cdv A outer s H vs Q E hr h => ?_)
  · obtain ⟨p, b, S, O, rfl, _⟩ := h; rfl
  · obtain ⟨p, b, S, O, rfl, ⟨C, hC, hCS, rfl⟩, hb, hw, k⟩ := h
    have hu := hu_of hr
    have hob := hC.ob
    have hbC : ∃ x, C.B.lookup b = some x := by
      cases e : C.B.lookup b with
      | none => exact absurd (hCS.nn.mp e) hb
      | some x => exact ⟨x, rfl⟩
    obtain ⟨x, ex⟩ := hbC
    obtain ⟨y, ey, hy1, hy2, hy3⟩ := hCS.ss ex
    have ewl : S.willOf b = y.will := by unfold Ch.willOf; rw [ey]
    obtain ⟨z9, neg⟩ := hw _ (lk_mem ey)
    have z9 : y.will.length ≤ 9 := z9
    have neg : y.will.any Deed.isNeg = false := neg
    have lds := hy3.length
    have hr2 : Room 2 _ := hr.mono (by decide); have hr4 : Room 4 _ := hr.mono (by decide);
    refine ⟨_, (pss_cons (ps_set (i := 2) sc_do_will.nd rfl (Or.inl rfl) (pe_meth (pv 0) T.cl_Chest T.m_Chest_will (ok_Chest_will T) hr2 T.b_Chest_will .nil pass0N (pa_cons (pv 1) pa_nil)))
      (pss_cons (ps_expr (pe_meth (pv 0) T.cl_Chest T.m_Chest_bequeath (ok_Chest_bequeath T) hr2 T.b_Chest_bequeath .nil pass0N (pa_cons (pv 1) (pa_cons (pe_lst pa_nil) pa_nil))))
      (pss_one (ps_for PassesOwn.leaving rfl (pi_list (pv 2)) (pg_name (i := 3) sc_do_will.nd rfl (Or.inl rfl))
      (pss_one (ps_expr (pe_call (ok_do_deed T) hr4 rfl T.mg_do_deed T.F_do_deed.kp T.b_do_deed .nil pass0N (pa_cons (pv 0) (pa_cons (pv 1) (pa_cons (pv 3) pa_nil)))))))))), ?_⟩
    try dsimp only [cxOf]
    walk_at "gos"
    walk_at "m1"
    walk_at "gos"
    refine ⟨p, b, C, rfl, hC, fun e => (by rw [ex] at e; cases e), fun x' e q hq => ?_⟩
    rw [ex] at e; cases e
    have s1 := Same.new (o := HO.lst x.ds) hq
    have hC1 := hC.same s1
    have hCS1 := hCS.keep fun t xs e => s1 _ _ e
    have hob1 := hC1.ob
    walk_at "gos"
    walk_at "m1"
    walk_at "gos"
    refine ⟨by decide, fun e hq2 => ?_⟩
    have s2 := Same.new (o := HO.lst []) hq2
    have hC2 := hC1.same s2
    have hCS2 := hCS1.keep fun t xs e => s2 _ _ e
    walk_at "gos"
    refine ⟨p, e, b, C, [], [], rfl, hC2, upd_same, Nat.zero_le _, .nil, fun e => (by rw [ex] at e; cases e), fun x' e' => ⟨fun c => ?_, fun c1 c2 wl H3 hwl fr hC3 => ?_⟩⟩
    · rcases c with c | c <;> cases c
    rw [ex] at e'; cases e'
    obtain ⟨r1, r2, r3⟩ := res_will hC2 hCS2 ex .nil c1 c2 hwl fr hC3
    have s02 := s1.trans s2
    have hq3 : H3 q = some (.lst x.ds) := r1 _ _ (s2 _ _ upd_same) fun m => by
      obtain ⟨o, ho, _⟩ := hC.dom m
      rw [hq] at ho; cases ho
    have f03 := (Fr.same (O := own p C) s02).trans r1
    have g03 := r2.back' s02
    have p3 : Paired (DeedV H3) x.ds y.will := L2.Paired.mapP hy3 fun _ _ h => h.keep (hC.tups f03)
    have hg3 : (S.step (.will b [])).2.2.get b ≠ none := (unwill_alike S b).get.mpr hb
    walk_at "gos"
    have nq0 : q ∉ own p (C.setB b { x with w := wl, ds := [] }) := fun m => (r2 q m).elim (fun m => by
      obtain ⟨o, ho, _⟩ := hC.dom m
      rw [hq] at ho; cases ho) fun z => by
      rw [s2 _ _ (upd_same (H := H) (a := q) (o := HO.lst x.ds))] at z; cases z
    refine ⟨q, rfl, ⟨_, SqL.of hq3⟩, for_list (K := K) (a := q) (xs := x.ds) (fun i σ H4 => ∃ (v3 : Option V) (O' : List Addr), σ = [some (.ref p), some (.int b), some (.ref q), v3] ∧ Fr (own p C) H H4 ∧ Gr (own p C) O' H ∧ ChestAt a.Chest a.Box H4 p ((S.unwill b).deedsDone b (y.will.take i)) O' ∧ q ∉ O' ∧ H4 q = some (.lst x.ds))
      ⟨_, _, rfl, f03, g03, r3, nq0, hq3⟩ (fun i σ H4 _ h => by obtain ⟨_, _, _, _, _, _, _, h⟩ := h; exact SqL.of h) ?_ ?_⟩
    · rintro i v σ H4 hv ⟨v3, O', rfl, f4, g4, c4, nq, q4⟩
      obtain ⟨d, hd, hdv⟩ := paired_get p3 hv
      have hdv0 := hC.tups f4
      obtain ⟨d0, hd0, hdv0'⟩ := paired_get (L2.Paired.mapP hy3 fun _ _ h => h.keep hdv0) hv
      rw [hd] at hd0; cases hd0
      walk_at "gos"
      refine ⟨p, b, v, _, O', d, rfl, c4, ?_, hdv0', neg_all neg d (List.mem_of_getElem? hd), fun H5 O5 f5 g5 c5 => ?_⟩
      · exact ((deeds_alike b _ _).get).mpr ((unwill_alike S b).get.mpr hb)
      walk_at "gos"
      have q5 : H5 q = some (.lst x.ds) := f5 _ _ q4 nq
      refine ⟨_, O5, rfl, f4.step g4 f5, g4.step g5 f4, ?_, fun m => (g5 q m).elim nq fun z => (by rw [q4] at z; cases z), q5⟩
      rw [take_snoc hd]
      unfold Ch.deedsDone at c5 ⊢
      rw [List.foldl_append]
      exact c5
    · rintro σ H4 ⟨v3, O', rfl, f4, g4, c4, nq, q4⟩
      rw [lds, List.take_length] at c4
      walk_at "gos"
      refine k H4 O' f4 g4 ?_
      unfold Ch.willDone
      rw [ewl]
      exact c4
end
section
variable {P : Program} {w : World} {K : PySem.W.Frag} {mg : Str → Option Value} {base : Heap} {a : Ad}
/-! ### boxes given up -/
theorem kvB_drop {B : List (Int × LBx)} {n : Int} : dropK (kvB B) (Sum.inl n : Key) = kvB (B.filter fun e => decide (e.1 ≠ n)) := by
  unfold dropK kvB
  rw [List.filter_map]
  congr 1
  refine List.filter_congr fun e _ => ?_
  show decide ((Sum.inl e.1 : Key) ≠ Sum.inl n) = decide (e.1 ≠ n)
  by_cases q : e.1 = n
  · simp [q]
  · simp [q]
theorem ownBs_sub {B' B : List (Int × LBx)} (h : B'.Sublist B) : (ownBs B').Sublist (ownBs B) := by
  induction h with
  | slnil => exact .slnil
  | cons x _ ih => exact ih.trans (List.sublist_append_right _ _)
  | cons_cons x _ ih => exact List.Sublist.append (List.Sublist.refl _) ih
theorem CAt.fewer {cC cB : Addr} {H H' : Hp} {p : Addr} {C : LCh} {B' : List (Int × LBx)} (A : CAt cC cB H p C) (h : B'.Sublist C.B) (h1 : H' C.d1 = some (.dK (kvB B'))) (fr : ∀ c o, H c = some o → c ≠ C.d1 → H' c = some o) : CAt cC cB H' p { C with B := B' } := by
  have nd := A.nd
  unfold own at nd
  simp only [List.nodup_cons, List.mem_cons, not_or] at nd
  obtain ⟨⟨n1, n2, n3⟩, ⟨n4, n5⟩, n6, n7⟩ := nd
  refine ⟨fr _ _ A.ob n1, h1, fr _ _ A.d2 (fun z => n4 z.symm), fun e he => (A.bx e (h.subset he)).keep fun c o hc e2 => fr _ _ e2 fun z => n5 ?_, ?_, A.kB.sublist (h.map _), fun e he => A.lB e (h.subset he), A.kR, A.lR, Nat.le_trans h.length_le A.sB, A.sR, A.nn⟩
  · rw [← z]; exact ownBs_mem.mpr ⟨e, h.subset he, by simpa [ownB] using hc⟩
  · exact A.nd.sublist (((ownBs_sub h).cons_cons _).cons_cons _ |>.cons_cons _)
theorem paired_filterP {α β : Type} {G : α → β → Prop} {f : Int → Bool} : ∀ {l : List (Int × α)} {m : List (Int × β)}, Paired (fun e f => e.1 = f.1 ∧ G e.2 f.2) l m →
    Paired (fun e f => e.1 = f.1 ∧ G e.2 f.2) (l.filter fun e => f e.1) (m.filter fun e => f e.1)
  | _, _, .nil => .nil
  | (k, u) :: l, (k', v) :: m, .cons h r => by
    obtain ⟨e, g⟩ := h
    have e : k = k' := e
    subst e
    by_cases q : f k = true
    · rw [List.filter_cons, List.filter_cons, if_pos q, if_pos q]; exact .cons ⟨rfl, g⟩ (paired_filterP r)
    · rw [List.filter_cons, List.filter_cons, if_neg q, if_neg q]; exact paired_filterP r
def Ch.fewer (S : Ch) (gs : List Int) : Ch := { S with bs := S.bs.filter fun e => decide (e.1 ∉ gs) }
theorem CS.fewer {H : Hp} {C : LCh} {S : Ch} {gs : List Int} (h : CS H C S) : CS H { C with B := C.B.filter fun e => decide (e.1 ∉ gs) } (S.fewer gs) :=
  ⟨h.nb, h.np, paired_filterP (f := fun n => decide (n ∉ gs)) h.bs, h.ps⟩
theorem filter_more {α : Type} {l : List (Int × α)} {gs : List Int} {g : Int} : (l.filter fun e => decide (e.1 ∉ gs)).filter (fun e => decide (e.1 ≠ g)) = l.filter fun e => decide (e.1 ∉ gs ++ [g]) := by
  rw [List.filter_filter]
  refine List.filter_congr fun e _ => ?_
  by_cases c : e.1 = g
  · simp [c]
  · simp [c]
/-- slots emptied, those told so far -/
def condT (gs : List Int) (A : List (Int × Int × Int × Bool)) (b : Int) (s : Nat) : Bool := A.any fun t => decide (t.1 = b ∧ t.2.1 = (s : Int) ∧ t.2.2.1 ∈ gs)
def clrT (gs : List Int) (A : List (Int × Int × Int × Bool)) (b : Int) (sl : List (Option (Int × Bool))) : List (Option (Int × Bool)) := sl.mapIdx fun s v => if condT gs A b s = true then none else v
def Ch.clr (S : Ch) (gs : List Int) (A : List (Int × Int × Int × Bool)) : Ch := { S with bs := S.bs.map fun e => (e.1, { e.2 with sl := clrT gs A e.1 e.2.sl }) }
theorem clrT_nil {gs : List Int} {b : Int} {sl : List (Option (Int × Bool))} : clrT gs [] b sl = sl := by
  unfold clrT condT
  refine List.ext_getElem? fun i => ?_
  rw [List.getElem?_mapIdx]
  cases sl[i]? <;> simp
theorem clr_nil (S : Ch) (gs : List Int) : S.clr gs [] = S := by
  unfold Ch.clr
  have : (S.bs.map fun e => ((e.1, { e.2 with sl := clrT gs [] e.1 e.2.sl }) : Int × Bx)) = S.bs := by
    rw [List.map_congr_left (g := id) fun e _ => by rw [clrT_nil]; rfl]
    exact List.map_id _
  rw [this]
theorem condT_snoc {gs : List Int} {A : List (Int × Int × Int × Bool)} {t : Int × Int × Int × Bool} {b : Int} {s : Nat} : condT gs (A ++ [t]) b s = (condT gs A b s || decide (t.1 = b ∧ t.2.1 = (s : Int) ∧ t.2.2.1 ∈ gs)) := by
  unfold condT
  rw [List.any_append]; simp
theorem clrT_skip {gs : List Int} {A : List (Int × Int × Int × Bool)} {t : Int × Int × Int × Bool} {b : Int} {sl : List (Option (Int × Bool))} (h : t.1 ≠ b ∨ t.2.2.1 ∉ gs) : clrT gs (A ++ [t]) b sl = clrT gs A b sl := by
  unfold clrT
  refine List.ext_getElem? fun i => ?_
  rw [List.getElem?_mapIdx, List.getElem?_mapIdx]
  have : decide (t.1 = b ∧ t.2.1 = (i : Int) ∧ t.2.2.1 ∈ gs) = false := decide_eq_false fun z => h.elim (fun n => n z.1) fun n => n z.2.2
  rw [condT_snoc, this, Bool.or_false]
theorem clrT_put {gs : List Int} {A : List (Int × Int × Int × Bool)} {b o : Int} {s : Nat} {g : Bool} {sl : List (Option (Int × Bool))} (h : o ∈ gs) : clrT gs (A ++ [(b, (s : Int), o, g)]) b sl = (clrT gs A b sl).set s none := by
  unfold clrT
  refine List.ext_getElem? fun i => ?_
  rw [List.getElem?_mapIdx, List.getElem?_set, List.getElem?_mapIdx, condT_snoc, List.length_mapIdx]
  by_cases c : s = i
  · subst c
    rw [if_pos rfl, decide_eq_true (show b = b ∧ (s : Int) = (s : Int) ∧ o ∈ gs from ⟨rfl, rfl, h⟩), Bool.or_true]
    by_cases l : s < sl.length
    · rw [if_pos l, List.getElem?_eq_getElem l]; rfl
    · rw [if_neg l, List.getElem?_eq_none (by omega)]; rfl
  · rw [if_neg c, decide_eq_false (show ¬ (b = b ∧ (s : Int) = (i : Int) ∧ o ∈ gs) from fun z => c (by omega)), Bool.or_false]
theorem clr_keys (S : Ch) (gs : List Int) (A : List (Int × Int × Int × Bool)) : (S.clr gs A).bs.map (·.1) = S.bs.map (·.1) := by
  unfold Ch.clr
  rw [List.map_map]; rfl
theorem clr_get {S : Ch} {gs : List Int} {A : List (Int × Int × Int × Bool)} {b : Int} {y : Bx} (pw : (S.bs.map (·.1)).Pairwise (· < ·)) (m : (b, y) ∈ S.bs) : (S.clr gs A).get b = some { y with sl := clrT gs A b y.sl } := by
  refine lk_of_mem (by rw [clr_keys]; exact pw) ?_
  exact List.mem_map.mpr ⟨(b, y), m, rfl⟩
theorem clr_skip {S : Ch} {gs : List Int} {A : List (Int × Int × Int × Bool)} {t : Int × Int × Int × Bool} (h : t.2.2.1 ∉ gs) : S.clr gs (A ++ [t]) = S.clr gs A := by
  unfold Ch.clr
  have : (S.bs.map fun e => ((e.1, { e.2 with sl := clrT gs (A ++ [t]) e.1 e.2.sl }) : Int × Bx)) = S.bs.map fun e => ((e.1, { e.2 with sl := clrT gs A e.1 e.2.sl }) : Int × Bx) :=
    List.map_congr_left fun e _ => by rw [clrT_skip (.inr h)]
  rw [this]
theorem clr_step {S : Ch} {gs : List Int} {A : List (Int × Int × Int × Bool)} {b o : Int} {s : Nat} {g : Bool} {y : Bx} (pw : (S.bs.map (·.1)).Pairwise (· < ·)) (m : (b, y) ∈ S.bs) (l : s < y.sl.length) (h : o ∈ gs) :
    ((S.clr gs A).step (.empty b (s : Int))).2.2 = S.clr gs (A ++ [(b, (s : Int), o, g)]) := by
  have e := clr_get (gs := gs) (A := A) pw m
  rw [st_empty2 e (by
    show ¬ ((s : Int) < 0 ∨ ((clrT gs A b y.sl).length : Int) ≤ s)
    unfold clrT; rw [List.length_mapIdx]; omega)]
  show (S.clr gs A).box b { sl := (clrT gs A b y.sl).set (s : Int).toNat none, hand := y.hand, will := y.will } = _
  unfold Ch.box Ch.clr setB
  rw [List.map_map]
  have : ∀ e ∈ S.bs, ((fun e : Int × Bx => if e.1 = b then (e.1, ({ sl := (clrT gs A b y.sl).set (s : Int).toNat none, hand := y.hand, will := y.will } : Bx)) else e) ∘ fun e : Int × Bx => (e.1, ({ sl := clrT gs A e.1 e.2.sl, hand := e.2.hand, will := e.2.will } : Bx))) e = (e.1, ({ sl := clrT gs (A ++ [(b, (s : Int), o, g)]) e.1 e.2.sl, hand := e.2.hand, will := e.2.will } : Bx)) := by
    rintro ⟨n, z⟩ mz
    show (if n = b then _ else _) = _
    by_cases c : n = b
    · subst c
      have ez : z = y := by
        have e1 := lk_of_mem pw mz
        rw [lk_of_mem pw m] at e1; exact (Option.some.inj e1).symm
      subst ez
      rw [if_pos rfl, clrT_put h, Int.toNat_natCast]
    · rw [if_neg c, clrT_skip (.inl fun z => c z.symm)]
  rw [List.map_congr_left this]
theorem clr_all {S : Ch} {gs : List Int} (pw : (S.bs.map (·.1)).Pairwise (· < ·)) {b : Int} {y : Bx} (m : (b, y) ∈ S.bs) : clrT gs S.tells b y.sl = y.sl.map (clearS gs) := by
  unfold clrT
  refine List.ext_getElem? fun i => ?_
  rw [List.getElem?_mapIdx, List.getElem?_map]
  cases e : y.sl[i]? with
  | none => rfl
  | some v =>
    show some (if condT gs S.tells b i = true then none else v) = some (clearS gs v)
    congr 1
    cases v with
    | none => split <;> rfl
    | some x =>
      obtain ⟨o, g⟩ := x
      show _ = if o ∈ gs then none else some (o, g)
      have key : condT gs S.tells b i = true ↔ o ∈ gs := by
        unfold condT
        rw [List.any_eq_true]
        constructor
        · rintro ⟨⟨b', s', o', g'⟩, mt, h⟩
          have h : b' = b ∧ s' = (i : Int) ∧ o' ∈ gs := by simpa using h
          obtain ⟨rfl, rfl, ho⟩ := h
          obtain ⟨y', i', my', ei, es⟩ := mem_tells.mp mt
          have : i' = i := by omega
          subst this
          have ey : y' = y := by
            have e1 := lk_of_mem pw my'
            rw [lk_of_mem pw m] at e1; exact (Option.some.inj e1).symm
          subst ey
          rw [e] at es; cases es; exact ho
        · intro ho
          exact ⟨(b, (i : Int), o, g), mem_tells.mpr ⟨y, i, m, rfl, e⟩, by simpa using ho⟩
      by_cases c : o ∈ gs
      · rw [if_pos (key.mpr c), if_pos c]
      · rw [if_neg (fun z => c (key.mp z)), if_neg c]
def goodP (gs : List Int) (e : Int × Int × Int × Int) : Bool := decide (e.2.1 ∉ gs ∧ e.2.2.1 ∉ gs ∧ e.2.2.2 ∉ gs)
theorem up_is {S : Ch} {gs : List Int} (pw : (S.bs.map (·.1)).Pairwise (· < ·)) : { (S.fewer gs).clr gs (S.fewer gs).tells with ps := S.ps.filter (goodP gs) } = S.givenUp gs := by
  unfold Ch.clr Ch.givenUp Ch.fewer goodP
  have pw2 : ((S.bs.filter fun e => decide (e.1 ∉ gs)).map (·.1)).Pairwise (· < ·) := pw.sublist (List.filter_sublist.map _)
  have : ∀ e ∈ (S.bs.filter fun e => decide (e.1 ∉ gs)), ((e.1, ({ sl := clrT gs (S.fewer gs).tells e.1 e.2.sl, hand := e.2.hand, will := e.2.will } : Bx)) : Int × Bx) = (e.1, ({ sl := e.2.sl.map (clearS gs), hand := e.2.hand, will := e.2.will } : Bx)) := fun e m => by
    rw [clr_all (S := S.fewer gs) pw2 (b := e.1) (y := e.2) m]
  have := List.map_congr_left this
  unfold Ch.fewer at this
  rw [this]
theorem pairs_snoc {S : Ch} {gs : List Int} {i : Nat} {e : Int × Int × Int × Int} (pw : (S.ps.map (·.1)).Pairwise (· < ·)) (he : S.ps[i]? = some e) :
    (goodP gs e = true → (S.ps.take i).filter (goodP gs) ++ S.ps.drop i = (S.ps.take (i + 1)).filter (goodP gs) ++ S.ps.drop (i + 1)) ∧
    (goodP gs e = false → ((S.ps.take i).filter (goodP gs) ++ S.ps.drop i).filter (fun x => decide (x.1 ≠ e.1)) = (S.ps.take (i + 1)).filter (goodP gs) ++ S.ps.drop (i + 1)) := by
  obtain ⟨l, e1⟩ := List.getElem?_eq_some_iff.mp he
  have ed : S.ps.drop i = e :: S.ps.drop (i + 1) := by rw [List.drop_eq_getElem_cons l, e1]
  rw [ed, take_snoc he, List.filter_append]
  refine ⟨fun c => ?_, fun c => ?_⟩
  · rw [show [e].filter (goodP gs) = [e] by rw [List.filter_cons, if_pos c]; rfl, List.append_assoc]; rfl
  · rw [show [e].filter (goodP gs) = [] by rw [List.filter_cons, if_neg (by rw [c]; decide)]; rfl, List.append_nil, List.filter_append, List.filter_cons, if_neg (by simp)]
    have pw2 : ((S.ps.take i ++ e :: S.ps.drop (i + 1)).map (·.1)).Pairwise (· < ·) := by rw [← ed, List.take_append_drop]; exact pw
    rw [List.map_append, List.pairwise_append] at pw2
    obtain ⟨_, h2, h3⟩ := pw2
    have h2' := (List.pairwise_cons.mp (show (e.1 :: (S.ps.drop (i + 1)).map (·.1)).Pairwise (· < ·) from h2)).1
    congr 1
    · refine List.filter_eq_self.mpr fun x mx => decide_eq_true fun z => ?_
      have := h3 x.1 (List.mem_map.mpr ⟨x, (List.mem_filter.mp mx).1, rfl⟩) e.1 (List.mem_map.mpr ⟨e, List.mem_cons_self, rfl⟩)
      omega
    · refine List.filter_eq_self.mpr fun x mx => decide_eq_true fun z => ?_
      have := h2' x.1 (List.mem_map.mpr ⟨x, mx, rfl⟩)
      omega
def spGiveUp (a : Ad) : Sp := fun vs H Q _ => ∃ (p gl : Addr) (S : Ch) (O : List Addr) (gs : List Int), vs = [.ref p, .ref gl] ∧ ChestAt a.Chest a.Box H p S O ∧ Good S ∧ H gl = some (.lst (gs.map V.int)) ∧ gl ∉ O ∧ gs.Nodup ∧ (∀ g ∈ gs, S.get g ≠ none) ∧ gs.length ≤ 60 ∧
  ∀ H' O', Fr O H H' → Gr O O' H → ChestAt a.Chest a.Box H' p (S.givenUp gs) O' → Q .non H'
theorem g_any {H : Hp} {Q : VK} {p : Addr} {bs : List Bool} (e : SqL K H p (bs.map V.bl)) (h : Q (.bl (bs.any id)) H) : rAny K [.ref p] H Q := ⟨p, bs, rfl, e, h⟩
theorem ok_Chest_give_up (T : Txt a K mg) : FnOk P w K mg base (CN P w) 4 a.f_Chest_give_up a.fd_Chest_give_up ["self", "boxes"] (spGiveUp a) := by
  refine okN T.F_Chest_give_up sc_Chest_give_up (fun vs H Q E h => ?_) (fun cdv A outer s H vs Q E hr h => ?_)
  · obtain ⟨p, gl, S, O, gs, rfl, _⟩ := h; rfl
  · obtain ⟨p, gl, S, O, gs, rfl, ⟨C, hC, hCS, rfl⟩, G, hgl, glO, gnd, gS, g60, k⟩ := h
    have hu := hu_of hr
    have hr1 : Room 1 _ := hr.mono (by decide); have hr2 : Room 2 _ := hr.mono (by decide); have hr3 : Room 3 _ := hr.mono (by decide);
    refine ⟨_, (pss_cons (ps_for PassesOwn.leaving rfl (pi_list (pv 1)) (pg_name (i := 2) sc_Chest_give_up.nd rfl (Or.inl rfl))
      (pss_one (ps_ddel (pe_fld (pv 0) rfl) (pv 2))))
      (pss_cons (ps_for PassesOwn.leaving rfl (pi_list (pe_meth0 (pv 0) T.cl_Chest T.m_Chest_tellings (ok_Chest_tellings T) hr2 T.b_Chest_tellings .nil pass0N)) (pg_tup (by rfl) (pgs_cons (pg_name (i := 2) sc_Chest_give_up.nd rfl (Or.inl rfl)) (pgs_cons (pg_name (i := 3) sc_Chest_give_up.nd rfl (Or.inl rfl)) (pgs_cons (pg_name (i := 4) sc_Chest_give_up.nd rfl (Or.inl rfl)) (pgs_cons (pg_name (i := 5) sc_Chest_give_up.nd rfl (Or.inl rfl)) pgs_nil)))))
      (pss_one (ps_if (pt_cmp (pc_dnotin hu (pv 4) (pe_fld (pv 0) rfl))) (pss_one (ps_expr (pe_meth (pv 0) T.cl_Chest T.m_Chest_empty (ok_Chest_empty T) hr3 T.b_Chest_empty .nil pass0N (pa_cons (pv 2) (pa_cons (pv 3) pa_nil))))) pss_nil)))
      (pss_one (ps_for PassesOwn.leaving rfl (pi_list (pe_meth0 (pv 0) T.cl_Chest T.m_Chest_pairs (ok_Chest_pairs T) hr1 T.b_Chest_pairs .nil pass0N)) (pg_star (i := 6) (j := 7) rfl sc_Chest_give_up.nd rfl (Or.inl rfl) (.inr rfl) rfl (Or.inl rfl) (.inr rfl))
      (pss_one (ps_if (pt_val (pe_callB (cr_any rfl) (by rfl) T.no_any (by decide +kernel) (pa_cons (pe_lc (own := [("end", 8)]) (g := gName 8) (tt := tYes) (te := (tDNotIn (tVar 8) (tFld K (tVar 0) "kept_boxes"))) (by rfl) sc_Chest_give_up.nd (pi_list (pv 7)) (blkOk_by (own := [("end", 8)]) (N := N_Chest_give_up) (sc := defScope s_Chest_give_up) (by decide +kernel)) (fun _ _ _ _ _ => (pg_name (i := 8) sc_Chest_give_up.nd rfl (Or.inl rfl))) (fun _ _ _ _ _ => pts_nil) (fun _ _ _ _ _ => (pe_cmp (pc_dnotin hu (pv 8) (pe_fld (pv 0) rfl)) rfl))) pa_nil))) (pss_one (ps_expr (pe_meth (pv 0) T.cl_Chest T.m_Chest_unpair (ok_Chest_unpair T) hr1 T.b_Chest_unpair .nil pass0N (pa_cons (pv 6) pa_nil)))) pss_nil)))))), ?_⟩
    try dsimp only [cxOf]
    walk_at "gos"
    have glk : ∀ {H1 : Hp}, Fr (own p C) H H1 → H1 gl = some (.lst (gs.map V.int)) := fun f => f _ _ hgl glO
    refine ⟨gl, rfl, ⟨_, SqL.of hgl⟩, for_list (K := K) (a := gl) (xs := gs.map V.int) (fun i σ H1 => ∃ v2 : Option V, σ = [some (.ref p), some (.ref gl), v2, none, none, none, none, none, none] ∧ Fr (own p C) H H1 ∧ CAt a.Chest a.Box H1 p { C with B := C.B.filter fun e => decide (e.1 ∉ gs.take i) })
      ⟨_, rfl, Fr.refl _ _, by rw [show (C.B.filter fun e => decide (e.1 ∉ gs.take 0)) = C.B from List.filter_eq_self.mpr fun e _ => decide_eq_true (fun z => nomatch z)]; exact hC⟩ (fun i σ H1 _ h => by obtain ⟨_, _, f, _⟩ := h; exact SqL.of (glk f)) ?_ ?_⟩
    · rintro i x σ H1 hx ⟨v2, rfl, f1, hC1⟩
      rw [List.getElem?_map] at hx
      obtain ⟨g, hg, rfl⟩ := Option.map_eq_some_iff.mp hx
      have hob1 := hC1.ob
      have gnew : g ∉ gs.take i := fun m => by
        obtain ⟨j, hj, ej⟩ := List.mem_iff_getElem.mp m
        rw [List.getElem_take] at ej
        rw [List.length_take] at hj
        obtain ⟨hi1, hi2⟩ := List.getElem?_eq_some_iff.mp hg
        have := List.getElem_inj (h₀ := (by omega : j < gs.length)) (h₁ := hi1) gnd |>.mp (ej.trans hi2.symm)
        omega
      obtain ⟨z, ez⟩ : ∃ z, (C.B.filter fun e => decide (e.1 ∉ gs.take i)).lookup g = some z := by
        refine lk_there ?_
        have : g ∈ C.B.map (·.1) := by rw [ckeys hCS]; exact get_mem.mp (gS g (List.mem_of_getElem? hg))
        obtain ⟨e, me, ee⟩ := List.mem_map.mp this
        exact List.mem_map.mpr ⟨e, List.mem_filter.mpr ⟨me, decide_eq_true (by rw [ee]; exact gnew)⟩, ee⟩
      walk_at "gos"
      refine ⟨C.d1, _, Sum.inl g, rfl, hC1.d1, rfl, by rw [kvB_some ez]; rfl, ?_⟩
      rw [kvB_drop]
      refine ⟨_, rfl, f1.trans (Fr.upd (own_mem.mpr (.inr (.inl rfl)))), ?_⟩
      have := hC1.fewer (B' := (C.B.filter fun e => decide (e.1 ∉ gs.take i)).filter fun e => decide (e.1 ≠ g)) List.filter_sublist upd_same fun c o e n => by rw [upd_ne n]; exact e
      rw [filter_more, ← take_snoc hg] at this
      rw [filter_more, ← take_snoc hg]
      exact this
    rintro σ H1 ⟨v2, rfl, f1, hC1⟩
    rw [List.length_map, List.take_length] at hC1
    have hS1 : ChestAt a.Chest a.Box H1 p (S.fewer gs) (own p { C with B := C.B.filter fun e => decide (e.1 ∉ gs) }) := ⟨_, hC1, (hCS.keep (hC.tups f1)).fewer, rfl⟩
    have g1 : Gr (own p C) (own p { C with B := C.B.filter fun e => decide (e.1 ∉ gs) }) H := fun b m => .inl (by
      rcases own_mem.mp m with m | m | m | m
      · exact own_mem.mpr (.inl m)
      · exact own_mem.mpr (.inr (.inl m))
      · exact own_mem.mpr (.inr (.inr (.inl m)))
      · exact own_mem.mpr (.inr (.inr (.inr ((ownBs_sub List.filter_sublist).subset m)))))
    generalize own p { C with B := C.B.filter fun e => decide (e.1 ∉ gs) } = O1 at hS1 g1
    have hob1 := hC1.ob
    have pw1 : ((S.fewer gs).bs.map (·.1)).Pairwise (· < ·) := G.kb.sublist (List.filter_sublist.map _)
    have k1 : ∀ o, S.get o ≠ none → (o ∈ (S.fewer gs).bs.map (·.1) ↔ o ∉ gs) := fun o ho => by
      rw [get_mem] at ho
      unfold Ch.fewer
      constructor
      · intro m
        obtain ⟨e, me, ee⟩ := List.mem_map.mp m
        have := (List.mem_filter.mp me).2
        rw [← ee]; simpa using this
      · intro n
        obtain ⟨e, me, ee⟩ := List.mem_map.mp ho
        exact List.mem_map.mpr ⟨e, List.mem_filter.mpr ⟨me, decide_eq_true (by rw [ee]; exact n)⟩, ee⟩
    have t1 : ∀ b s o h, (b, s, o, h) ∈ (S.fewer gs).tells → S.get o ≠ none := fun b s o h m => by
      obtain ⟨y, i, my, _, e⟩ := mem_tells.mp m
      exact G.sl _ (List.mem_filter.mp my).1 i o h e
    walk_at "gos"
    walk_at "m1"
    walk_at "gos"
    refine ⟨p, S.fewer gs, O1, rfl, hS1, fun q2 H2 ts hq2 s2 e2 pt lt => ?_⟩
    have hS2 := hS1.same s2
    have q2O : q2 ∉ O1 := fun m => by
      obtain ⟨o, ho, _⟩ := hS1.dom m
      rw [hq2] at ho; cases ho
    have f12 : Fr (own p C) H H2 := f1.trans (Fr.same s2)
    refine ⟨q2, rfl, ⟨_, SqL.of e2⟩, for_list (K := K) (a := q2) (xs := ts) (fun i σ H3 => ∃ (v2 v3 v4 v5 : Option V) (O3 : List Addr), σ = [some (.ref p), some (.ref gl), v2, v3, v4, v5, none, none, none] ∧ Fr O1 H2 H3 ∧ Gr O1 O3 H2 ∧ ChestAt a.Chest a.Box H3 p ((S.fewer gs).clr gs ((S.fewer gs).tells.take i)) O3)
      ⟨_, _, _, _, _, rfl, Fr.refl _ _, Gr.refl, by rw [List.take_zero, clr_nil]; exact hS2⟩ (fun i σ H3 _ h => by obtain ⟨_, _, _, _, _, _, f, _⟩ := h; exact SqL.of (f _ _ e2 q2O)) ?_ ?_⟩
    · rintro i x σ H3 hx ⟨v2, v3, v4, v5, O3, rfl, f3, g3, hS3⟩
      obtain ⟨⟨b, s, o, h⟩, hts, t, rfl, et⟩ := paired_get pt hx
      have et3 : H3 t = some _ := (f3.tups fun b m => hS2.dom m) _ _ et
      obtain ⟨C3, hC3, hCS3, rfl⟩ := id hS3
      have hob3 := hC3.ob
      have mt := List.mem_of_getElem? hts
      obtain ⟨y, si, my, rfl, ey⟩ := mem_tells.mp mt
      rw [take_snoc hts]
      refine g_gTup et3 rfl ?_
      walk_at "gos"
      refine ⟨_, _, rfl, DGet.k (k := Sum.inl o) hC3.d1, ?_⟩
      rw [valV_keys (kvB_keys C3.B), ckeys hCS3, clr_keys]
      walk_at "gos"
      refine g_iteN (fun c => ?_) (fun c => ?_)
      · have og : o ∈ gs := Classical.byContradiction fun z => c ((k1 o (t1 _ _ _ _ mt)).mpr z)
        have gy := clr_get (gs := gs) (A := (S.fewer gs).tells.take i) pw1 my
        have hex : ∃ z, C3.B.lookup b = some z := by
          cases e : C3.B.lookup b with
          | none => rw [hCS3.nn.mp e] at gy; cases gy
          | some z => exact ⟨z, rfl⟩
        obtain ⟨z, ez⟩ := hex
        obtain ⟨y3, ey3, hy3, _⟩ := hCS3.ss ez
        rw [gy] at ey3; cases ey3
        have lz : z.vs.length = y.sl.length := by
          have := hy3.length
          rw [this]; unfold clrT; rw [List.length_mapIdx]
        have lsi := (List.getElem?_eq_some_iff.mp ey).1
        walk_at "gos"
        walk_at "m1"
        walk_at "gos"
        refine ⟨p, b, (si : Int), C3, rfl, hC3, fun e => (by rw [ez] at e; cases e), fun z' e => ?_⟩
        rw [ez] at e; cases e
        refine ⟨fun c2 => (by omega), fun c2 c3 H4 fr hC4 => ?_⟩
        obtain ⟨r1, r2, r3⟩ := res_empty hC3 hCS3 ez c2 c3 fr hC4
        rw [clr_step (o := o) (g := h) pw1 my lsi og] at r3
        walk_at "gos"
        exact ⟨_, _, _, _, _, rfl, f3.step g3 r1, g3.step r2 f3, r3⟩
      · walk_at "gos"
        have og : o ∉ gs := (k1 o (t1 _ _ _ _ mt)).mp c
        rw [clr_skip og]
        exact ⟨_, _, _, _, _, rfl, f3, g3, hS3⟩
    rintro σ H3 ⟨v2, v3, v4, v5, O3, rfl, f3, g3, hS3⟩
    rw [pt.length, List.take_length] at hS3
    obtain ⟨C3, hC3, hCS3, eO3⟩ := id hS3
    have hob3 := hC3.ob
    have f13 := f1.step g1 ((Fr.same s2).trans f3)
    have g13 : Gr (own p C) O3 H := (g1.step g3 (f1.trans (Fr.same s2)))
    have kk3 : ((S.fewer gs).clr gs (S.fewer gs).tells).bs.map (·.1) = (S.fewer gs).bs.map (·.1) := clr_keys _ _ _
    generalize hT : (S.fewer gs).clr gs (S.fewer gs).tells = T3 at hS3 hCS3 kk3
    have eps : T3.ps = S.ps := by rw [← hT]; rfl
    walk_at "gos"
    walk_at "m1"
    walk_at "gos"
    refine ⟨p, C3, T3.ps, rfl, hC3, hCS3.ps, fun q4 H4 ws hq4 s4 e4 pw4 => ?_⟩
    rw [eps] at pw4
    have hS4 := hS3.same s4
    have q4O : q4 ∉ O3 := fun m => by
      obtain ⟨o, ho, _⟩ := hS3.dom m
      rw [hq4] at ho; cases ho
    refine ⟨q4, rfl, ⟨_, SqL.of e4⟩, for_list (K := K) (a := q4) (xs := ws) (fun i σ H5 => ∃ (v2 v3 v4 v5 v6 v7 : Option V) (O5 : List Addr), σ = [some (.ref p), some (.ref gl), v2, v3, v4, v5, v6, v7, none] ∧ Fr O3 H4 H5 ∧ Gr O3 O5 H4 ∧ ChestAt a.Chest a.Box H5 p { T3 with ps := (S.ps.take i).filter (goodP gs) ++ S.ps.drop i } O5)
      ⟨_, _, _, _, _, _, _, rfl, Fr.refl _ _, Gr.refl, by show ChestAt a.Chest a.Box H4 p { T3 with ps := S.ps } O3; rw [← eps]; exact hS4⟩ (fun i σ H5 _ h => by obtain ⟨_, _, _, _, _, _, _, _, f, _⟩ := h; exact SqL.of (f _ _ e4 q4O)) ?_ ?_⟩
    · rintro i x σ H5 hx ⟨v2, v3, v4, v5, v6, v7, O5, rfl, f5, g5, hS5⟩
      obtain ⟨⟨n, x1, x2, x3⟩, hps, t, rfl, et⟩ := paired_get pw4 hx
      have et5 : H5 t = some _ := (f5.tups fun b m => hS4.dom m) _ _ et
      have hmem := List.mem_of_getElem? hps
      obtain ⟨gp1, gp2, gp3⟩ := G.pr _ hmem
      obtain ⟨p1, p2⟩ := pairs_snoc (gs := gs) G.kp hps
      refine ⟨t, _, _, rfl, SqT.of et5, by show 3 ≤ 1000; decide, fun el hel => ?_⟩
      have n6 := Same.new (o := HO.lst ([x1, x2, x3].map V.int)) hel
      have hS6 := hS5.same n6
      obtain ⟨C6, hC6, hCS6, rfl⟩ := id hS6
      have hob6 := hC6.ob
      have e6 := upd_same (H := H5) (a := el) (o := HO.lst ([x1, x2, x3].map V.int))
      obtain ⟨H6, eH6⟩ : ∃ H6, upd H5 el (.lst ([x1, x2, x3].map V.int)) = H6 := ⟨_, rfl⟩
      have eH6' : upd H5 el (.lst [V.int x1, V.int x2, V.int x3]) = H6 := eH6
      rw [eH6] at n6 hS6 hC6 hCS6 hob6 e6
      rw [eH6']
      have keys6 : C6.B.map (·.1) = (S.fewer gs).bs.map (·.1) := (ckeys hCS6).trans kk3
      walk_at "gos"
      refine ⟨el, rfl, ⟨_, SqL.of e6⟩, fun D hD => lc_list (K := K) (a := el) (xs := [x1, x2, x3].map V.int) (fun j H7 => Same H6 H7 ∧ H7 D = some (.lst ((([x1, x2, x3].take j).map fun z => decide (z ∈ gs)).map V.bl))) ⟨Same.new hD, upd_same⟩ (fun j H7 _ h => SqL.of (h.1 _ _ e6)) ?_ ?_⟩
      · rintro j v H7 hv ⟨s7, d7⟩
        rw [List.getElem?_map] at hv
        obtain ⟨z, hz, rfl⟩ := Option.map_eq_some_iff.mp hv
        have j3 : j < 3 := (List.getElem?_eq_some_iff.mp hz).1
        have zS : S.get z ≠ none := by
          have := List.mem_of_getElem? hz
          simp only [List.mem_cons, List.not_mem_nil, or_false] at this
          rcases this with rfl | rfl | rfl
          · exact gp1
          · exact gp2
          · exact gp3
        have hob7 := s7 _ _ hob6
        walk_at "go"
        refine ⟨rfl, ?_⟩
        walk_at "gos"
        refine ⟨_, _, rfl, DGet.k (k := Sum.inl z) (s7 _ _ hC6.d1), ?_⟩
        rw [valV_keys (kvB_keys C6.B), keys6]
        refine ⟨_, d7, small1000 (by rw [List.length_map, List.length_map, List.length_take]; show min j 3 ≤ 1000; omega), fun c o e => ?_, ?_⟩
        · rw [upd_ne (ne_of_none e hD)]; exact s7 _ _ e
        · rw [upd_same, take_snoc hz, List.map_append, List.map_append]
          congr 3
          show [V.bl (!decide (z ∈ (S.fewer gs).bs.map (·.1)))] = [V.bl (decide (z ∈ gs))]
          congr 2
          by_cases c : z ∈ gs
          · rw [decide_eq_true c, decide_eq_false fun m => (k1 z zS).mp m c]; rfl
          · rw [decide_eq_false c, decide_eq_true ((k1 z zS).mpr c)]; rfl
      rintro H7 ⟨s7, d7⟩
      have d7 : H7 D = some (.lst ([decide (x1 ∈ gs), decide (x2 ∈ gs), decide (x3 ∈ gs)].map V.bl)) := d7
      have hC7 := hC6.same s7
      have hCS7 := hCS6.keep fun t xs e => s7 _ _ e
      have hob7 := hC7.ob
      have s57 := n6.trans s7
      have hb : ([decide (x1 ∈ gs), decide (x2 ∈ gs), decide (x3 ∈ gs)].any id) = !goodP gs (n, x1, x2, x3) := by
        unfold goodP
        by_cases c1 : x1 ∈ gs <;> by_cases c2 : x2 ∈ gs <;> by_cases c3 : x3 ∈ gs <;> simp [c1, c2, c3]
      walk_at "gos"
      refine g_any (SqL.of d7) ?_
      rw [hb]
      walk_at "gos"
      refine g_iteNB (fun c => ?_) (fun c => ?_)
      · have hlk : ∃ t', C6.R.lookup n = some t' := by
          cases e : C6.R.lookup n with
          | none =>
            exfalso
            have := hCS6.pnone.mp e
            refine lk_none.mp this (List.mem_map.mpr ⟨(n, x1, x2, x3), List.mem_append_right _ ?_, rfl⟩)
            obtain ⟨l, e1⟩ := List.getElem?_eq_some_iff.mp hps
            rw [List.drop_eq_getElem_cons l, e1]; exact List.mem_cons_self
          | some t' => exact ⟨t', rfl⟩
        obtain ⟨t', et'⟩ := hlk
        walk_at "gos"
        walk_at "m1"
        walk_at "gos"
        refine ⟨p, n, C6, rfl, hC7, fun e => (by rw [et'] at e; cases e), fun t'' e H8 fr hC8 => ?_⟩
        have fr' : Fr (own p C6) H7 H8 := fr.sub fun w hw => by
          rw [List.mem_singleton.mp hw]
          exact own_mem.mpr (.inr (.inr (.inl rfl)))
        have hS8 : ChestAt a.Chest a.Box H8 p (Ch.loose { T3 with ps := (S.ps.take i).filter (goodP gs) ++ S.ps.drop i } n) _ := ⟨_, hC8, hCS7.loose (hC7.tups fr'), rfl⟩
        have eL : Ch.loose { T3 with ps := (S.ps.take i).filter (goodP gs) ++ S.ps.drop i } n = { T3 with ps := (S.ps.take (i + 1)).filter (goodP gs) ++ S.ps.drop (i + 1) } := by
          unfold Ch.loose
          rw [← p2 c]
        rw [eL] at hS8
        walk_at "gos"
        refine ⟨_, _, _, _, _, _, _, rfl, f5.step g5 ((Fr.same s57).trans fr'), g5.step (Gr.same rfl) f5, hS8⟩
      · rw [p1 c] at hCS7
        walk_at "gos"
        exact ⟨_, _, _, _, _, _, _, rfl, f5.trans (Fr.same s57), g5, ⟨C6, hC7, hCS7, rfl⟩⟩
    · rintro σ H5 ⟨v2, v3, v4, v5, v6, v7, O5, rfl, f5, g5, hS5⟩
      rw [pw4.length, List.take_length, List.drop_length, List.append_nil, ← hT, up_is G.kb] at hS5
      walk_at "gos"
      exact k H5 O5 (f13.step g13 ((Fr.same s4).trans f5)) (g13.step (g5.back' s4) f13) hS5
end
section
variable {P : Program} {w : World} {K : PySem.W.Frag} {mg : Str → Option Value} {base : Heap} {a : Ad}
/-! ### a sweep -/
theorem g_notInI {H : Hp} {Q : VK} {p : Addr} {x : Int} {ns : List Int} (e : H p = some (.lst (ns.map V.int))) (h : Q (.bl (!decide (x ∈ ns))) H) : rIn K true (.int x) (.ref p) H Q := g_notInL (SqL.of e) rfl (flat_ints ns) (inV_ints x ns) h
noncomputable def Ch.behind (S : Ch) : Ch := S.willsDone S.orderL
noncomputable def Ch.gone (S : Ch) : List Int := S.lostL.filter fun b => decide (b ∈ S.behind.lostL)
noncomputable def Ch.stay (S : Ch) : List Int := S.lostL.filter fun b => !decide (b ∈ S.behind.lostL)
noncomputable def Ch.swept (S : Ch) : Ch := S.behind.givenUp S.gone
theorem order_mem {S : Ch} {b : Int} : b ∈ S.orderL ↔ b ∈ S.leftL := (ord_perm _ _ rfl).mem_iff
theorem order_nodup {S : Ch} (G : Good S) : S.orderL.Nodup := (ord_perm _ _ rfl).nodup_iff.mpr ((left_pw G).imp fun h => Int.ne_of_lt h)
theorem left_lost {S : Ch} {b : Int} (m : b ∈ S.leftL) : b ∈ S.lostL := (List.mem_filter.mp m).1
theorem left_will {S : Ch} {b : Int} (m : b ∈ S.leftL) : S.willOf b ≠ [] := by
  have := (List.mem_filter.mp m).2
  unfold willB at this
  unfold Ch.willOf
  cases e : S.get b with
  | none => rw [e] at this; cases this
  | some x =>
    rw [e] at this
    have : (!x.will.isEmpty) = true := this
    show x.will ≠ []
    intro z
    rw [z] at this; cases this
theorem lost_ne {S : Ch} {b : Int} (m : b ∈ S.lostL) : S.get b ≠ none := by
  obtain ⟨y, ey⟩ := lost_get m
  rw [ey]; exact fun z => nomatch z
theorem behind_alike (S : Ch) : Alike S S.behind := wills_alike _ S
theorem gone_lost {S : Ch} {b : Int} (m : b ∈ S.gone) : b ∈ S.lostL ∧ b ∈ S.behind.lostL := by
  obtain ⟨m1, m2⟩ := List.mem_filter.mp m
  exact ⟨m1, of_decide_eq_true m2⟩
theorem gone_pw {S : Ch} (G : Good S) : S.gone.Pairwise (· < ·) := (lost_pw G).sublist List.filter_sublist
theorem stay_pw {S : Ch} (G : Good S) : S.stay.Pairwise (· < ·) := (lost_pw G).sublist List.filter_sublist
theorem gone_len {S : Ch} (G : Good S) : S.gone.length ≤ 60 := Nat.le_trans (List.length_filter_le _ _) (lost_len G)
theorem stay_len {S : Ch} (G : Good S) : S.stay.length ≤ 60 := Nat.le_trans (List.length_filter_le _ _) (lost_len G)
theorem gone_nodup {S : Ch} (G : Good S) : S.gone.Nodup := (gone_pw G).imp fun h => Int.ne_of_lt h
theorem gone_get {S : Ch} {b : Int} (m : b ∈ S.gone) : S.behind.get b ≠ none := (behind_alike S).get.mpr (lost_ne (gone_lost m).1)
def spSweep (a : Ad) : Sp := fun vs H Q _ => ∃ (p : Addr) (S : Ch) (O : List Addr), vs = [.ref p] ∧ ChestAt a.Chest a.Box H p S O ∧ Good S ∧ WOk S ∧
  ∀ (t l1 l2 l3 : Addr) (H' : Hp) (O' : List Addr), (∀ c, c = l1 ∨ c = l2 ∨ c = l3 → (H c = none ∨ c ∈ O) ∧ c ∉ O') → l1 ≠ l2 → l1 ≠ l3 → l2 ≠ l3 → Fr O H H' → Gr O O' H → ChestAt a.Chest a.Box H' p S.swept O' →
    H' t = some (.tup [.ref l1, .ref l2, .ref l3]) → H' l1 = some (.lst (S.orderL.map V.int)) → H' l2 = some (.lst (S.gone.map V.int)) → H' l3 = some (.lst (S.stay.map V.int)) → Q (.ref t) H'
theorem filt_snoc {l : List Int} {f : Int → Bool} {i : Nat} {b : Int} (h : l[i]? = some b) : (f b = true → (l.take (i + 1)).filter f = (l.take i).filter f ++ [b]) ∧ (f b = false → (l.take (i + 1)).filter f = (l.take i).filter f) := by
  rw [take_snoc h, List.filter_append]
  refine ⟨fun c => ?_, fun c => ?_⟩
  · rw [List.filter_cons, if_pos c]; rfl
  · rw [List.filter_cons, if_neg (by rw [c]; decide)]; exact List.append_nil _
theorem filt_len {l : List Int} {f : Int → Bool} {i : Nat} (h : i ≤ 1000) : (((l.take i).filter f).map V.int).length ≤ 1000 := by
  rw [List.length_map]
  have := List.length_filter_le f (l.take i)
  rw [List.length_take] at this
  omega
theorem ok_sweep (T : Txt a K mg) : FnOk P w K mg base (CN P w) 7 a.f_sweep a.fd_sweep ["chest"] (spSweep a) := by
  refine okN T.F_sweep sc_sweep (fun vs H Q E h => ?_) (fun cdv A outer s H vs Q E hr h => ?_)
  · obtain ⟨p, S, O, rfl, _⟩ := h; rfl
  · obtain ⟨p, S, O, rfl, hS, G, W, k⟩ := h
    have hu := hu_of hr
    have l60 := lost_len G
    have hr4 : Room 4 _ := hr.mono (by decide); have hr5 : Room 5 _ := hr.mono (by decide); have hr6 : Room 6 _ := hr.mono (by decide);
    refine ⟨_, (pss_cons (ps_set (i := 1) sc_sweep.nd rfl (Or.inl rfl) (pe_call (ok_lost T) hr5 rfl T.mg_lost T.F_lost.kp T.b_lost .nil pass0N (pa_cons (pv 0) pa_nil)))
      (pss_cons (ps_set (i := 2) sc_sweep.nd rfl (Or.inl rfl) (pe_call (ok_order_of_wills T) hr6 rfl T.mg_order_of_wills T.F_order_of_wills.kp T.b_order_of_wills .nil pass0N (pa_cons (pv 0) pa_nil)))
      (pss_cons (ps_for PassesOwn.leaving rfl (pi_list (pv 2)) (pg_name (i := 3) sc_sweep.nd rfl (Or.inl rfl))
      (pss_one (ps_expr (pe_call (ok_do_will T) hr5 rfl T.mg_do_will T.F_do_will.kp T.b_do_will .nil pass0N (pa_cons (pv 0) (pa_cons (pv 3) pa_nil))))))
      (pss_cons (ps_set (i := 4) sc_sweep.nd rfl (Or.inr rfl) (pe_call (ok_lost T) hr5 rfl T.mg_lost T.F_lost.kp T.b_lost .nil pass0N (pa_cons (pv 0) pa_nil)))
      (pss_cons (ps_setLc (i := 5) (own := [("box", 3)]) (g := gName 3) (tt := (tTest (tOp (rIn K false) (tVar 3) (tVar 4)))) (te := (tVar 3)) (by rfl) sc_sweep.nd rfl rfl (sw_true rfl rfl rfl (by decide +kernel)) (pi_list (pv 1)) (blkOk_by (own := [("box", 3)]) (N := N_sweep) (sc := defScope s_sweep) (by decide +kernel)) (fun _ _ _ _ _ => (pg_name (i := 3) sc_sweep.nd rfl (Or.inl rfl))) (fun _ _ _ _ _ => pts_one (pt_cmpR op_in_seq (pv 3) (pv 4) (by rfl))) (fun _ _ _ _ _ => (pv 3)))
      (pss_cons (ps_setLc (i := 6) (own := [("box", 3)]) (g := gName 3) (tt := (tTest (tOp (rIn K true) (tVar 3) (tVar 4)))) (te := (tVar 3)) (by rfl) sc_sweep.nd rfl rfl (sw_true rfl rfl rfl (by decide +kernel)) (pi_list (pv 1)) (blkOk_by (own := [("box", 3)]) (N := N_sweep) (sc := defScope s_sweep) (by decide +kernel)) (fun _ _ _ _ _ => (pg_name (i := 3) sc_sweep.nd rfl (Or.inl rfl))) (fun _ _ _ _ _ => pts_one (pt_cmpR op_notIn_seq (pv 3) (pv 4) (by rfl))) (fun _ _ _ _ _ => (pv 3)))
      (pss_cons (ps_expr (pe_meth (pv 0) T.cl_Chest T.m_Chest_give_up (ok_Chest_give_up T) hr4 T.b_Chest_give_up .nil pass0N (pa_cons (pv 5) pa_nil)))
      (pss_one (ps_ret (pe_tup (pa_cons (pv 2) (pa_cons (pv 5) (pa_cons (pv 6) pa_nil))))))))))))), ?_⟩
    try dsimp only [cxOf]
    walk_at "gos"
    refine ⟨p, S, O, rfl, hS, G, fun la H1 hla s1 e1 => ?_⟩
    walk_at "gos"
    refine ⟨p, S, O, rfl, hS.same s1, G, fun ol H2 hol s2 e2 => ?_⟩
    have s02 := s1.trans s2
    have hol0 := free_same s1 hol
    have laol : la ≠ ol := ne_of_none e1 hol
    have nO : ∀ c, (c = la ∨ c = ol) → c ∉ O := fun c h m => by
      obtain ⟨o, ho, _⟩ := hS.dom m
      rcases h with rfl | rfl
      · rw [hla] at ho; cases ho
      · rw [hol0] at ho; cases ho
    walk_at "gos"
    refine ⟨ol, rfl, ⟨_, SqL.of e2⟩, for_list (K := K) (a := ol) (xs := S.orderL.map V.int) (fun i σ H3 => ∃ (v3 : Option V) (O3 : List Addr), σ = [some (.ref p), some (.ref la), some (.ref ol), v3, none, none, none] ∧ Fr O H2 H3 ∧ Gr O O3 H2 ∧ ChestAt a.Chest a.Box H3 p (S.willsDone (S.orderL.take i)) O3 ∧ (∀ c, (c = la ∨ c = ol) → c ∉ O3))
      ⟨_, O, rfl, Fr.refl _ _, Gr.refl, hS.same s02, nO⟩ (fun i σ H3 _ h => by obtain ⟨_, _, _, f, _⟩ := h; exact SqL.of (f _ _ e2 (nO _ (.inr rfl)))) ?_ ?_⟩
    · rintro i x σ H3 hx ⟨v3, O3, rfl, f3, g3, c3, n3⟩
      rw [List.getElem?_map] at hx
      obtain ⟨b, hb, rfl⟩ := Option.map_eq_some_iff.mp hx
      have hlb := left_lost (order_mem.mp (List.mem_of_getElem? hb))
      walk_at "gos"
      refine ⟨p, b, _, O3, rfl, c3, (wills_alike _ _).get.mpr (lost_ne hlb), WOk.willsDone _ W, fun H4 O4 f4 g4 c4 => ?_⟩
      walk_at "gos"
      refine ⟨_, O4, rfl, f3.step g3 f4, g3.step g4 f3, ?_, fun c h m => (g4 c m).elim (n3 c h) fun z => ?_⟩
      · rw [take_snoc hb]
        unfold Ch.willsDone at c4 ⊢
        rw [List.foldl_append]
        exact c4
      · rcases h with rfl | rfl
        · rw [f3 _ _ (s2 _ _ e1) (nO _ (.inl rfl))] at z; cases z
        · rw [f3 _ _ e2 (nO _ (.inr rfl))] at z; cases z
    rintro σ H3 ⟨v3, O3, rfl, f3, g3, c3, n3⟩
    rw [List.length_map, List.take_length] at c3
    have c3 : ChestAt a.Chest a.Box H3 p S.behind O3 := c3
    have GB : Good S.behind := Good.willsDone _ G
    have la3 := f3 _ _ (s2 _ _ e1) (nO _ (.inl rfl))
    have ol3 := f3 _ _ e2 (nO _ (.inr rfl))
    walk_at "gos"
    refine ⟨p, S.behind, O3, rfl, c3, GB, fun lb H4 hlb s4 e4 => ?_⟩
    walk_at "gos"
    have la4 := s4 _ _ la3
    refine ⟨la, rfl, ⟨_, SqL.of la4⟩, fun gu hgu => lc_list (K := K) (a := la) (xs := S.lostL.map V.int) (fun i H5 => Same H4 H5 ∧ H5 gu = some (.lst (((S.lostL.take i).filter fun b => decide (b ∈ S.behind.lostL)).map V.int))) ⟨Same.new hgu, upd_same⟩ (fun i H5 _ h => SqL.of (h.1 _ _ la4)) ?_ ?_⟩
    · rintro i x H5 hx ⟨s5, e5⟩
      rw [List.getElem?_map] at hx
      obtain ⟨b, hb, rfl⟩ := Option.map_eq_some_iff.mp hx
      have i60 : i < 60 := Nat.lt_of_lt_of_le (List.getElem?_eq_some_iff.mp hb).1 l60
      obtain ⟨q1, q2⟩ := filt_snoc (f := fun b => decide (b ∈ S.behind.lostL)) hb
      walk_at "go"
      refine ⟨rfl, ?_⟩
      walk_at "gos"
      refine g_inI (s5 _ _ e4) ?_
      walk_at "gos"
      refine g_ite (fun c => ?_) (fun c => ?_)
      · rw [q1 (decide_eq_true c)]
        walk_at "gos"
        refine ⟨_, e5, small1000 (filt_len (by omega)), fun c o e => ?_, ?_⟩
        · rw [upd_ne (ne_of_none e hgu)]; exact s5 _ _ e
        · rw [upd_same, List.map_append]; rfl
      · rw [q2 (decide_eq_false c)]
        walk_at "gos"
        exact ⟨s5, e5⟩
    rintro H5 ⟨s5, e5⟩
    rw [List.length_map, List.take_length] at e5
    have e5 : H5 gu = some (.lst (S.gone.map V.int)) := e5
    have la5 := s5 _ _ la4
    have lb5 := s5 _ _ e4
    walk_at "gos"
    refine ⟨la, rfl, ⟨_, SqL.of la5⟩, fun st hst => lc_list (K := K) (a := la) (xs := S.lostL.map V.int) (fun i H6 => Same H5 H6 ∧ H6 st = some (.lst (((S.lostL.take i).filter fun b => !decide (b ∈ S.behind.lostL)).map V.int))) ⟨Same.new hst, upd_same⟩ (fun i H6 _ h => SqL.of (h.1 _ _ la5)) ?_ ?_⟩
    · rintro i x H6 hx ⟨s6, e6⟩
      rw [List.getElem?_map] at hx
      obtain ⟨b, hb, rfl⟩ := Option.map_eq_some_iff.mp hx
      have i60 : i < 60 := Nat.lt_of_lt_of_le (List.getElem?_eq_some_iff.mp hb).1 l60
      obtain ⟨q1, q2⟩ := filt_snoc (f := fun b => !decide (b ∈ S.behind.lostL)) hb
      walk_at "go"
      refine ⟨rfl, ?_⟩
      walk_at "gos"
      refine g_notInI (s6 _ _ lb5) ?_
      walk_at "gos"
      refine g_iteN (fun c => ?_) (fun c => ?_)
      · rw [q1 (by rw [decide_eq_false c]; rfl)]
        walk_at "gos"
        refine ⟨_, e6, small1000 (filt_len (by omega)), fun c o e => ?_, ?_⟩
        · rw [upd_ne (ne_of_none e hst)]; exact s6 _ _ e
        · rw [upd_same, List.map_append]; rfl
      · rw [q2 (by rw [decide_eq_true c]; rfl)]
        walk_at "gos"
        exact ⟨s6, e6⟩
    rintro H6 ⟨s6, e6⟩
    rw [List.length_map, List.take_length] at e6
    have e6 : H6 st = some (.lst (S.stay.map V.int)) := e6
    have s36 := (s4.trans s5).trans s6
    have c6 := c3.same s36
    have gu6 := s6 _ _ e5
    have ol6 := s36 _ _ ol3
    have f06 : Fr O H H6 := ((Fr.same s02).trans f3).trans (Fr.same s36)
    have f03 : Fr O H H3 := (Fr.same s02).trans f3
    have g03 : Gr O O3 H := g3.back' s02
    have fresh : ∀ {c : Addr}, H3 c = none → (H c = none ∨ c ∈ O) ∧ c ∉ O3 := fun {c} e => by
      refine ⟨?_, fun m => ?_⟩
      · cases e2 : H c with
        | none => exact .inl rfl
        | some o =>
          by_cases m : c ∈ O
          · exact .inr m
          · rw [f03 _ _ e2 m] at e; cases e
      · obtain ⟨o, ho, _⟩ := c3.dom m
        rw [e] at ho; cases ho
    obtain ⟨fg1, fg2⟩ := fresh (free_same s4 hgu)
    obtain ⟨fs1, fs2⟩ := fresh (free_same (s4.trans s5) hst)
    have gust : gu ≠ st := ne_of_none e5 hst
    have olgu : ol ≠ gu := ne_of_none (s4 _ _ ol3) hgu
    have olst : ol ≠ st := ne_of_none ((s4.trans s5) _ _ ol3) hst
    obtain ⟨C6, hC6, _⟩ := id c6
    have hob6 := hC6.ob
    walk_at "gos"
    walk_at "m1"
    walk_at "gos"
    refine ⟨p, gu, S.behind, O3, S.gone, rfl, c6, GB, gu6, fg2, gone_nodup G, fun g m => gone_get m, gone_len G, fun H7 O7 f7 g7 c7 => ?_⟩
    have nO7 : ∀ {c : Addr} {o : HO}, c ∉ O3 → H6 c = some o → c ∉ O7 := fun {c o} n e m => (g7 c m).elim n fun z => by rw [e] at z; cases z
    have gu7 := f7 _ _ gu6 fg2
    have st7 := f7 _ _ e6 fs2
    have ol7 := f7 _ _ ol6 (n3 _ (.inr rfl))
    have f07 := f06.step g03 f7
    have g07 : Gr O O7 H := g03.step g7 f06
    walk_at "gos"
    refine ⟨by show 3 ≤ sizeLine; decide, fun t ht => ?_⟩
    have n8 := Same.new (o := HO.tup [.ref ol, .ref gu, .ref st]) ht
    refine k t ol gu st _ O7 (fun c h => ?_) olgu olst gust (f07.trans (Fr.same n8)) g07 (c7.same n8) upd_same (n8 _ _ ol7) (n8 _ _ gu7) (n8 _ _ st7)
    rcases h with rfl | rfl | rfl
    · exact ⟨.inl hol0, nO7 (n3 _ (.inr rfl)) ol6⟩
    · exact ⟨fg1, nO7 fg2 gu6⟩
    · exact ⟨fs1, nO7 fs2 e6⟩
end
section
variable {P : Program} {w : World} {K : PySem.W.Frag} {mg : Str → Option Value} {base : Heap} {a : Ad}
/-! ### a will done in the reckoning -/
theorem nd_inj {α β : Type} {f : α → β} : ∀ {l : List α} {x y : α}, (l.map f).Nodup → x ∈ l → y ∈ l → f x = f y → x = y
  | z :: l, x, y, nd, hx, hy, e => by
    obtain ⟨n1, n2⟩ := List.nodup_cons.mp nd
    rcases List.mem_cons.mp hx with h1 | h1
    · rcases List.mem_cons.mp hy with h2 | h2
      · rw [h1, h2]
      · exact absurd (List.mem_map.mpr ⟨y, h2, by rw [← e, h1]⟩) n1
    · rcases List.mem_cons.mp hy with h2 | h2
      · exact absurd (List.mem_map.mpr ⟨x, h1, by rw [e, h2]⟩) n1
      · exact nd_inj n2 h1 h2 e
section
variable {H : Hp} {q : Addr} {L : LWd} {S : Ch} {b : Int} {x : Bx}
theorem resW_take (hW : WdAt H q L) (hS : WSem H L S) (ex : S.get b = some x) : Fr (ownW q L) H (upd H L.d1 (.dK (kvH (if b ∈ L.h then L.h else L.h ++ [b])))) ∧ WorldAt (upd H L.d1 (.dK (kvH (if b ∈ L.h then L.h else L.h ++ [b])))) q (S.step (.take b)).2.2 (ownW q L) := by
  have m1 : L.d1 ∈ ownW q L := ownW_mem.mpr (.inr (.inr (.inl rfl)))
  have fr : Fr (ownW q L) H (upd H L.d1 (.dK (kvH (if b ∈ L.h then L.h else L.h ++ [b])))) := fr_upd (Fr.refl _ _) m1
  have tp := hW.tups fr
  have hin : ∀ m, m ∈ (if b ∈ L.h then L.h else L.h ++ [b]) ↔ m ∈ L.h ∨ m = b := by
    intro m
    by_cases c : b ∈ L.h
    · rw [if_pos c]; exact ⟨.inl, fun z => z.elim id fun z => z ▸ c⟩
    · rw [if_neg c]; simp
  rw [st_take1 ex]
  refine ⟨fr, _, hW.hand (h := if b ∈ L.h then L.h else L.h ++ [b]) (by
      by_cases c : b ∈ L.h
      · rw [if_pos c]; exact hW.kh
      · rw [if_neg c]
        refine List.nodup_append.mpr ⟨hW.kh, by simp, fun x hx y hy e => c ?_⟩
        have z : y = b := by simpa using hy
        rw [← z, ← e]; exact hx)
    (fun m hm => ((hin m).mp hm).elim (hW.hA m) fun z => by rw [z]; exact keyA hS ex) upd_same (fun c o hc nc => by rw [upd_ne nc]; exact hc), hS.hand (h := if b ∈ L.h then L.h else L.h ++ [b]) (g := true) tp hW.kA ex (fun m => by
    rw [hin]
    by_cases c : m = b
    · rw [if_pos c]; exact ⟨fun _ => rfl, fun _ => .inr c⟩
    · rw [if_neg c]; exact ⟨fun z => z.elim id fun z => absurd z c, .inl⟩), rfl⟩
theorem resW_drop (hW : WdAt H q L) (hS : WSem H L S) (ex : S.get b = some x) (c : b ∈ L.h) : Fr (ownW q L) H (upd H L.d1 (.dK (kvH (L.h.filter fun k => decide (k ≠ b))))) ∧ WorldAt (upd H L.d1 (.dK (kvH (L.h.filter fun k => decide (k ≠ b))))) q (S.step (.drop b)).2.2 (ownW q L) := by
  have m1 : L.d1 ∈ ownW q L := ownW_mem.mpr (.inr (.inr (.inl rfl)))
  have fr : Fr (ownW q L) H (upd H L.d1 (.dK (kvH (L.h.filter fun k => decide (k ≠ b))))) := fr_upd (Fr.refl _ _) m1
  have tp := hW.tups fr
  have hh := (hs_mem hS ex).mp c
  rw [st_drop2 ex (by rw [hh]; decide)]
  exact ⟨fr, _, hW.hand (h := L.h.filter fun k => decide (k ≠ b)) (hW.kh.sublist List.filter_sublist) (fun m hm => hW.hA m (List.mem_filter.mp hm).1) upd_same (fun c o hc nc => by rw [upd_ne nc]; exact hc), hS.hand (h := L.h.filter fun k => decide (k ≠ b)) (g := false) tp hW.kA ex (fun m => by
    by_cases c : m = b
    · rw [if_pos c]; simp [c]
    · rw [if_neg c]; simp [c]), rfl⟩
/-- the slots of a box written anew -/
theorem resW_slots {H' : Hp} {l : Addr × List V} {vs : List V} {sl : List (Option (Int × Bool))} (hW : WdAt H q L) (hS : WSem H L S) (ex : S.get b = some x) (el : L.A.lookup b = some l) (h9 : vs.length ≤ 9) (h1 : H' l.1 = some (.lst vs)) (hv : Paired (SlotV H') vs sl) (fr : ∀ c o, H c = some o → c ≠ l.1 → H' c = some o) :
    Fr (ownW q L) H H' ∧ WorldAt H' q (S.box b { x with sl := sl }) (ownW q L) := by
  have f : Fr (ownW q L) H H' := fun c o e n => fr c o e fun z => n (by rw [z]; exact ownW_mem.mpr (.inr (.inr (.inr (.inr (.inr (.inr (.inl ⟨_, lk_mem el, rfl⟩))))))))
  exact ⟨f, _, hW.slot el h9 h1 fr, hS.slot (hW.tups f) (l := l) ex hv, (ownW_slot hW el).symm⟩
theorem resW_unwill {l : Addr} {us : List V} (hW : WdAt H q L) (hS : WSem H L S) (ex : S.get b = some x) (el : L.W.lookup b = some (l, us)) : Fr (ownW q L) H (upd H L.d3 (.dK (kvA (L.W.filter fun e => decide (e.1 ≠ b))))) ∧ Gr (ownW q L) (ownW q { L with W := L.W.filter fun e => decide (e.1 ≠ b) }) H ∧
    WorldAt (upd H L.d3 (.dK (kvA (L.W.filter fun e => decide (e.1 ≠ b))))) q (S.unwill b) (ownW q { L with W := L.W.filter fun e => decide (e.1 ≠ b) }) ∧ l ∉ ownW q { L with W := L.W.filter fun e => decide (e.1 ≠ b) } ∧ l ≠ L.d3 := by
  have N := hW.ne
  have m3 : L.d3 ∈ ownW q L := ownW_mem.mpr (.inr (.inr (.inr (.inr (.inl rfl)))))
  have fr : Fr (ownW q L) H (upd H L.d3 (.dK (kvA (L.W.filter fun e => decide (e.1 ≠ b))))) := fr_upd (Fr.refl _ _) m3
  have mW := lk_mem el
  obtain ⟨a1, a2, a3, a4, a5, a6⟩ := N.a _ (hW.inW mW)
  refine ⟨fr, fun c hc => ?_, ⟨_, hW.unwill (n := b) upd_same (fun c o e z => by rw [upd_ne z]; exact e), ?_, rfl⟩, fun m => ?_, fun z => a5 z.symm⟩
  · rcases ownW_mem.mp hc with h | h | h | h | h | h | h | ⟨e, he, h⟩
    · exact .inl (ownW_mem.mpr (.inl h))
    · exact .inl (ownW_mem.mpr (.inr (.inl h)))
    · exact .inl (ownW_mem.mpr (.inr (.inr (.inl h))))
    · exact .inl (ownW_mem.mpr (.inr (.inr (.inr (.inl h)))))
    · exact .inl (ownW_mem.mpr (.inr (.inr (.inr (.inr (.inl h))))))
    · exact .inl (ownW_mem.mpr (.inr (.inr (.inr (.inr (.inr (.inl h)))))))
    · exact .inl (ownW_mem.mpr (.inr (.inr (.inr (.inr (.inr (.inr (.inl h))))))))
    · exact .inl (ownW_mem.mpr (.inr (.inr (.inr (.inr (.inr (.inr (.inr ⟨e, (List.mem_filter.mp he).1, h⟩))))))))
  · unfold Ch.unwill
    rw [st_will2 ex (by simp)]
    exact hS.will (W := L.W.filter fun e => decide (e.1 ≠ b)) (hW.tups fr) hW.kA (ds := []) ex (fun _ => lk_gone) (fun z => absurd rfl z) (fun m hm => lk_kept hm)
  · obtain ⟨n1, n2, n3⟩ := List.nodup_append.mp N.nd
    rcases ownW_mem.mp m with h | h | h | h | h | h | ⟨e, he, h⟩ | ⟨e, he, h⟩
    · exact a1 h.symm
    · exact a2 h.symm
    · exact a3 h.symm
    · exact a4 h.symm
    · exact a5 h.symm
    · exact a6 h.symm
    · exact n3 e.2.1 (List.mem_map.mpr ⟨e, he, rfl⟩) l (List.mem_map.mpr ⟨_, mW, rfl⟩) h.symm
    · obtain ⟨h1, h2⟩ := List.mem_filter.mp he
      have := nd_inj n2 h1 mW h.symm
      rw [this] at h2; simp at h2
end
def spWillDone : Sp := fun vs H Q _ => ∃ (q : Addr) (b : Int) (S : Ch) (O : List Addr), vs = [.ref q, .int b] ∧ WorldAt H q S O ∧ S.willOf b ≠ [] ∧ WOk S ∧
  ∀ H' O', Fr O H H' → Gr O O' H → WorldAt H' q (S.willDone b) O' → Q .non H'
end
section
variable {P : Program} {w : World} {K : PySem.W.Frag} {mg : Str → Option Value} {base : Heap} {a : Ad}
/-! ### boxes given up in the reckoning -/
def clrE (gs : List Int) (e : Int × Bx) : Int × Bx := (e.1, { e.2 with sl := e.2.sl.map (clearS gs) })
def bsU (gs : List Int) (l : List (Int × Bx)) (i : Nat) : List (Int × Bx) := ((l.take i).filter fun e => decide (e.1 ∉ gs)).map (clrE gs) ++ l.drop i
theorem bsU_at {gs : List Int} {l : List (Int × Bx)} {i : Nat} {b : Int} {y : Bx} (pw : (l.map (·.1)).Pairwise (· < ·)) (h : l[i]? = some (b, y)) : ∃ A D, bsU gs l i = A ++ (b, y) :: D ∧ (∀ e ∈ A, e.1 ≠ b) ∧ (∀ e ∈ D, e.1 ≠ b) ∧
    (b ∈ gs → bsU gs l (i + 1) = A ++ D) ∧ (b ∉ gs → bsU gs l (i + 1) = A ++ (b, { y with sl := y.sl.map (clearS gs) }) :: D) := by
  obtain ⟨hl, e1⟩ := List.getElem?_eq_some_iff.mp h
  have ed : l.drop i = (b, y) :: l.drop (i + 1) := by rw [List.drop_eq_getElem_cons hl, e1]
  have pw2 : ((l.take i ++ (b, y) :: l.drop (i + 1)).map (·.1)).Pairwise (· < ·) := by rw [← ed, List.take_append_drop]; exact pw
  rw [List.map_append, List.pairwise_append] at pw2
  obtain ⟨_, h2, h3⟩ := pw2
  have h2' := (List.pairwise_cons.mp (show (b :: (l.drop (i + 1)).map (·.1)).Pairwise (· < ·) from h2)).1
  refine ⟨((l.take i).filter fun e => decide (e.1 ∉ gs)).map (clrE gs), l.drop (i + 1), by unfold bsU; rw [ed], fun e m z => ?_, fun e m z => ?_, fun c => ?_, fun c => ?_⟩
  · obtain ⟨e0, m0, rfl⟩ := List.mem_map.mp m
    have := h3 e0.1 (List.mem_map.mpr ⟨e0, (List.mem_filter.mp m0).1, rfl⟩) b (List.mem_map.mpr ⟨(b, y), List.mem_cons_self, rfl⟩)
    have z : e0.1 = b := z
    omega
  · have := h2' e.1 (List.mem_map.mpr ⟨e, m, rfl⟩)
    omega
  · unfold bsU
    rw [take_snoc h, List.filter_append, show ([(b, y)].filter fun e => decide (e.1 ∉ gs)) = [] by rw [List.filter_cons, if_neg (by simpa using c)]; rfl, List.append_nil]
  · unfold bsU
    rw [take_snoc h, List.filter_append, show ([(b, y)].filter fun e => decide (e.1 ∉ gs)) = [(b, y)] by rw [List.filter_cons, if_pos (by simpa using c)]; rfl, List.map_append, List.append_assoc]
    rfl
theorem lk_at1 {α : Type} {b : Int} {y : α} {D : List (Int × α)} : ∀ {A : List (Int × α)}, (∀ e ∈ A, e.1 ≠ b) → (A ++ (b, y) :: D).lookup b = some y
  | [], _ => lk_pos
  | (k, v) :: A, h => by
    show ((k, v) :: (A ++ (b, y) :: D)).lookup b = _
    rw [lk_neg (fun z => h (k, v) List.mem_cons_self z.symm)]
    exact lk_at1 fun e m => h e (List.mem_cons_of_mem _ m)
theorem filt_app {α : Type} {b : Int} {y : α} {A D : List (Int × α)} (h1 : ∀ e ∈ A, e.1 ≠ b) (h2 : ∀ e ∈ D, e.1 ≠ b) : (A ++ (b, y) :: D).filter (fun e => decide (e.1 ≠ b)) = A ++ D := by
  rw [List.filter_append, List.filter_cons, if_neg (by simp), List.filter_eq_self.mpr fun e m => decide_eq_true (h1 e m), List.filter_eq_self.mpr fun e m => decide_eq_true (h2 e m)]
theorem resW_unbox {H : Hp} {q : Addr} {L : LWd} {S : Ch} {b : Int} {y : Bx} {l : Addr × List V} (hW : WdAt H q L) (hS : WSem H L S) (el : L.A.lookup b = some l) (ey : S.get b = some y) (hh : y.hand = false) (hw : y.will = []) :
    Fr (ownW q L) H (upd H L.d0 (.dK (kvA (L.A.filter fun e => decide (e.1 ≠ b))))) ∧ Gr (ownW q L) (ownW q { L with A := L.A.filter fun e => decide (e.1 ≠ b) }) H ∧
    WorldAt (upd H L.d0 (.dK (kvA (L.A.filter fun e => decide (e.1 ≠ b))))) q { S with bs := S.bs.filter fun e => decide (e.1 ≠ b) } (ownW q { L with A := L.A.filter fun e => decide (e.1 ≠ b) }) := by
  have N := hW.ne
  have m0 : L.d0 ∈ ownW q L := ownW_mem.mpr (.inr (.inl rfl))
  have fr : Fr (ownW q L) H (upd H L.d0 (.dK (kvA (L.A.filter fun e => decide (e.1 ≠ b))))) := fr_upd (Fr.refl _ _) m0
  have nh : b ∉ L.h := fun m => by rw [(hs_mem hS ey).mp m] at hh; cases hh
  have nw : L.W.lookup b = none := by
    cases e : L.W.lookup b with
    | none => rfl
    | some u =>
      obtain ⟨x, e1, e2, _⟩ := hS.w1 b u e
      rw [ey] at e1; cases e1; exact absurd hw e2
  have h2 := hS.keep (hW.tups fr)
  have kp : ∀ c o, H c = some o → c ≠ L.d0 → upd H L.d0 (.dK (kvA (L.A.filter fun e => decide (e.1 ≠ b)))) c = some o := fun c o e z => by rw [upd_ne z]; exact e
  have stays : ∀ n, n ≠ b → n ∈ L.A.map (·.1) → n ∈ (L.A.filter fun e => decide (e.1 ≠ b)).map (·.1) := fun n c m => by
    obtain ⟨e, me, rfl⟩ := List.mem_map.mp m
    exact List.mem_map.mpr ⟨e, List.mem_filter.mpr ⟨me, decide_eq_true c⟩, rfl⟩
  have getS : ∀ n, (Ch.get { S with bs := S.bs.filter fun e => decide (e.1 ≠ b) } n) = if n = b then none else S.get n := fun n => by
    unfold Ch.get
    by_cases c : n = b
    · rw [if_pos c, c]; exact lk_gone
    · rw [if_neg c]; exact lk_kept c
  refine ⟨fr, fun c hc => ?_, { L with A := L.A.filter fun e => decide (e.1 ≠ b) }, ⟨kp _ _ hW.ob N.q0, upd_same, kp _ _ hW.e1 N.n01.symm, kp _ _ hW.e2 N.n02.symm, kp _ _ hW.e3 N.n03.symm, kp _ _ hW.e4 N.n04.symm, fun e he => kp _ _ (hW.sA e (List.mem_filter.mp he).1) (N.a _ (hW.inA (List.mem_filter.mp he).1)).2.1.symm,
    fun e he => kp _ _ (hW.sW e he) (N.a _ (hW.inW he)).2.1.symm, ?_, hW.kA.sublist (List.filter_sublist.map _), hW.kh, hW.kR, hW.kW, fun e he => hW.lA e (List.mem_filter.mp he).1, hW.lR, fun n m => stays n (fun z => nh (z ▸ m)) (hW.hA n m),
    fun e m => stays e.1 (fun z => lk_none.mp nw (List.mem_map.mpr ⟨e, m, z⟩)) (hW.WA e m), ⟨Nat.le_trans (List.length_filter_le _ _) hW.zA.1, fun e m => hW.zA.2 e (List.mem_filter.mp m).1⟩, hW.zR, hW.zW, hW.nn⟩,
    ⟨h2.nb, h2.np, paired_filter (G := fun (u : Addr × List V) (v : Bx) => Paired (SlotV _) u.2 v.sl) h2.bs, h2.ps, fun n => ?_, fun n x e1 e2 => ?_, fun n u e1 => ?_⟩, rfl⟩
  · rcases ownW_mem.mp hc with h | h | h | h | h | h | ⟨e, he, h⟩ | h
    · exact .inl (ownW_mem.mpr (.inl h))
    · exact .inl (ownW_mem.mpr (.inr (.inl h)))
    · exact .inl (ownW_mem.mpr (.inr (.inr (.inl h))))
    · exact .inl (ownW_mem.mpr (.inr (.inr (.inr (.inl h)))))
    · exact .inl (ownW_mem.mpr (.inr (.inr (.inr (.inr (.inl h))))))
    · exact .inl (ownW_mem.mpr (.inr (.inr (.inr (.inr (.inr (.inl h)))))))
    · exact .inl (ownW_mem.mpr (.inr (.inr (.inr (.inr (.inr (.inr (.inl ⟨e, (List.mem_filter.mp he).1, h⟩))))))))
    · exact .inl (ownW_mem.mpr (.inr (.inr (.inr (.inr (.inr (.inr (.inr h))))))))
  · have nd := hW.nd
    unfold ownW at nd
    exact nd.sublist (List.Sublist.append (List.Sublist.refl _) (List.Sublist.append (List.filter_sublist.map _) (List.Sublist.refl _)))
  · rw [getS, h2.hs]
    by_cases c : n = b
    · rw [if_pos c, c, ey]
      exact ⟨fun ⟨x, e1, e2⟩ => (by cases e1; rw [hh] at e2; cases e2), fun ⟨x, e1, _⟩ => (nomatch e1)⟩
    · rw [if_neg c]
  · rw [getS] at e2
    by_cases c : n = b
    · rw [if_pos c] at e2; cases e2
    · rw [if_neg c] at e2; exact h2.w0 n x e1 e2
  · rw [getS]
    by_cases c : n = b
    · have e1 : L.W.lookup n = some u := e1
      rw [c, nw] at e1; cases e1
    · rw [if_neg c]; exact h2.w1 n u e1
def spGivenUp : Sp := fun vs H Q _ => ∃ (q gl : Addr) (S : Ch) (O : List Addr) (gs : List Int), vs = [.ref q, .ref gl] ∧ WorldAt H q S O ∧ Good S ∧ H gl = some (.lst (gs.map V.int)) ∧ gl ∉ O ∧ (∀ e ∈ S.bs, e.1 ∈ gs → e.2.hand = false ∧ e.2.will = []) ∧
  ∀ H' O', Fr O H H' → Gr O O' H → WorldAt H' q (S.givenUp gs) O' → Q .non H'
theorem box_mk (nb np : Int) (B : List (Int × Bx)) (ps : List (Int × (Int × Int × Int))) (b : Int) (Y : Bx) : Ch.box ⟨nb, np, B, ps⟩ b Y = ⟨nb, np, setB B b fun _ => Y, ps⟩ := rfl
theorem up_isW {S : Ch} {gs : List Int} : { { S with ps := S.ps.filter (goodP gs) } with bs := bsU gs S.bs S.bs.length } = S.givenUp gs := by
  unfold bsU Ch.givenUp goodP clrE
  rw [List.take_length, List.drop_length, List.append_nil]
theorem sl_snoc {gs : List Int} {sl : List (Option (Int × Bool))} {j : Nat} {v : Option (Int × Bool)} (h : sl[j]? = some v) :
    ((sl.take j).map (clearS gs) ++ sl.drop j)[j]? = some v ∧ (clearS gs v = v → (sl.take j).map (clearS gs) ++ sl.drop j = (sl.take (j + 1)).map (clearS gs) ++ sl.drop (j + 1)) ∧
    (clearS gs v = none → ((sl.take j).map (clearS gs) ++ sl.drop j).set j none = (sl.take (j + 1)).map (clearS gs) ++ sl.drop (j + 1)) := by
  obtain ⟨hl, e1⟩ := List.getElem?_eq_some_iff.mp h
  have ed : sl.drop j = v :: sl.drop (j + 1) := by rw [List.drop_eq_getElem_cons hl, e1]
  have lt : ((sl.take j).map (clearS gs)).length = j := by rw [List.length_map, List.length_take]; omega
  rw [ed, take_snoc h, List.map_append]
  refine ⟨?_, fun c => ?_, fun c => ?_⟩
  · rw [List.getElem?_append_right (by omega), lt, Nat.sub_self]; rfl
  · rw [List.append_assoc, List.map_cons, c]; rfl
  · rw [List.set_append_right _ _ (by omega), lt, Nat.sub_self, List.append_assoc, List.map_cons, c]; rfl
end
section
variable {P : Program} {w : World} {K : PySem.W.Frag} {mg : Str → Option Value} {base : Heap} {a : Ad}
/-! ### a sweep, reckoned -/
theorem come_hand {S : Ch} {b : Int} {y : Bx} (m : (b, y) ∈ S.bs) (h : y.hand = true) : b ∉ S.lostL := fun z => by
  have := (List.mem_filter.mp z).2
  exact absurd (Come.hand m h) (by simpa using this)
theorem lost_hand {S : Ch} (G : Good S) {b : Int} (m : b ∈ S.lostL) {y : Bx} (e : S.get b = some y) : y.hand = false := by
  cases q : y.hand with
  | false => rfl
  | true => exact absurd m (come_hand (lk_mem e) q)
theorem willB_of {S : Ch} {b : Int} : willB S b = !(S.willOf b).isEmpty := by
  unfold willB Ch.willOf
  cases S.get b <;> rfl
theorem gone_done {S : Ch} (G : Good S) : ∀ e ∈ S.behind.bs, e.1 ∈ S.gone → e.2.hand = false ∧ e.2.will = [] := fun e m hg => by
  obtain ⟨g1, g2⟩ := gone_lost hg
  have GB : Good S.behind := Good.willsDone _ G
  have eg : S.behind.get e.1 = some e.2 := GB.get m
  refine ⟨lost_hand GB g2 eg, ?_⟩
  have : S.behind.willOf e.1 = e.2.will := by unfold Ch.willOf; rw [eg]
  rw [← this]
  unfold Ch.behind
  rw [wills_will]
  by_cases c : e.1 ∈ S.orderL
  · rw [if_pos c]
  · rw [if_neg c]
    have nl : e.1 ∉ S.leftL := fun z => c (order_mem.mpr z)
    have : ¬ willB S e.1 = true := fun z => nl (List.mem_filter.mpr ⟨g1, z⟩)
    rw [willB_of] at this
    cases q : S.willOf e.1 with
    | nil => rfl
    | cons _ _ => rw [q] at this; exact absurd rfl this
def spSwept : Sp := fun vs H Q _ => ∃ (q : Addr) (S : Ch) (O : List Addr), vs = [.ref q] ∧ WorldAt H q S O ∧ Good S ∧ WOk S ∧
  ∀ (t l1 l2 l3 : Addr) (H' : Hp) (O' : List Addr), (∀ c, c = l1 ∨ c = l2 ∨ c = l3 → (H c = none ∨ c ∈ O) ∧ c ∉ O') → Fr O H H' → Gr O O' H → WorldAt H' q S.swept O' →
    H' t = some (.tup [.ref l1, .ref l2, .ref l3]) → H' l1 = some (.lst (S.orderL.map V.int)) → H' l2 = some (.lst (S.gone.map V.int)) → H' l3 = some (.lst (S.stay.map V.int)) → Q (.ref t) H'
/-! ### three lists of numbers -/
def spThree : Sp := fun vs H Q _ => ∃ (t l1 l2 l3 : Addr) (n1 n2 n3 : List Int), vs = [.ref t] ∧ H t = some (.tup [.ref l1, .ref l2, .ref l3]) ∧ H l1 = some (.lst (n1.map V.int)) ∧ H l2 = some (.lst (n2.map V.int)) ∧ H l3 = some (.lst (n3.map V.int)) ∧ n1.length ≤ 60 ∧ n2.length ≤ 60 ∧ n3.length ≤ 60 ∧
  ∀ H', Same H H' → Q (.bl true) H'
theorem ok_law_three (T : Txt a K mg) : FnOk P w K mg base (CN P w) 2 a.f_law_three a.fd_law_three ["_law_found"] spThree := by
  refine okN T.F_law_three sc_law_three (fun vs H Q E h => ?_) (fun cdv A outer s H vs Q E hr h => ?_)
  · obtain ⟨t, l1, l2, l3, n1, n2, n3, rfl, _⟩ := h; rfl
  · obtain ⟨t, l1, l2, l3, n1, n2, n3, rfl, ht, h1, h2, h3, z1, z2, z3, k⟩ := h
    have hr1 : Room 1 _ := hr.mono (by decide);
    refine ⟨_, (pss_cons (ps_if (PW.pt (pw_or (pt_not (pt_val (pe_callB call_isi (by rfl) T.no_isinstance (by decide +kernel) (pa_cons (pv 0) (pa_cons (pe_bltn (v := .ty "tuple") (by rfl) T.no_tuple (by decide +kernel) rfl) pa_nil))))) (pw_or1 (pt_cmpR op_ne (pe_callB call_lenS (by rfl) T.no_len (by decide +kernel) (pa_cons (pv 0) pa_nil)) pe_int (nomark _))))) (pss_one (ps_ret pe_bl)) pss_nil)
      (pss_cons (ps_for PassesOwn.leaving rfl (pi_tup (pv 0)) (pg_name (i := 1) sc_law_three.nd rfl (Or.inl rfl))
      (pss_one (ps_if (PW.pt (pw_or (pt_not (pt_val (pe_callB call_isi (by rfl) T.no_isinstance (by decide +kernel) (pa_cons (pv 1) (pa_cons (pe_bltn (v := .ty "list") (by rfl) T.no_list (by decide +kernel) rfl) pa_nil))))) (pw_or1 (pt_not (pt_val (pe_callB (cr_all rfl) (by rfl) T.no_all (by decide +kernel) (pa_cons (pe_lc (own := [("_law_box", 2)]) (g := gName 2) (tt := tYes) (te := (tCall (spWhole) [] E0 (tCons (tVar 2) tNil))) (by rfl) sc_law_three.nd (pi_list (pv 1)) (blkOk_by (own := [("_law_box", 2)]) (N := N_law_three) (sc := defScope s_law_three) (by decide +kernel)) (fun _ _ _ _ _ => (pg_name (i := 2) sc_law_three.nd rfl (Or.inl rfl))) (fun _ _ _ _ _ => pts_nil) (fun _ _ _ _ _ => (pe_call (ok_law_whole T) hr1 rfl T.mg_law_whole T.F_law_whole.kp T.b_law_whole .nil pass0N (pa_cons (pv 2) pa_nil)))) pa_nil))))))) (pss_one (ps_ret pe_bl)) pss_nil)))
      (pss_one (ps_ret pe_bl)))), ?_⟩
    try dsimp only [cxOf]
    walk_at "gos"
    refine g_isiI (TyOf.tup ht) (kit_ty (r := true) (by decide +kernel)) ?_
    walk_at "gos"
    refine g_lenT (SqT.of ht) ?_
    walk_at "gos"
    refine g_iteN (fun c => (c rfl).elim) (fun _ => ?_)
    walk_at "gos"
    refine ⟨t, rfl, ⟨_, SqT.of ht⟩, for_tup (K := K) (a := t) (xs := [.ref l1, .ref l2, .ref l3]) (fun i σ H1 => ∃ v1 : Option V, σ = [some (.ref t), v1, none] ∧ Same H H1) ⟨_, rfl, Same.refl _⟩ (fun i σ H1 _ h => by obtain ⟨_, _, s⟩ := h; exact SqT.of (s _ _ ht)) ?_ ?_⟩
    · rintro i x σ H1 hx ⟨v1, rfl, s1⟩
      have hl : ∃ (l : Addr) (ns : List Int), x = .ref l ∧ H l = some (.lst (ns.map V.int)) ∧ ns.length ≤ 60 := by
        have := List.mem_of_getElem? hx
        simp only [List.mem_cons, List.not_mem_nil, or_false] at this
        rcases this with h | h | h
        · exact ⟨l1, n1, h, h1, z1⟩
        · exact ⟨l2, n2, h, h2, z2⟩
        · exact ⟨l3, n3, h, h3, z3⟩
      obtain ⟨l, ns, rfl, hl, z⟩ := hl
      have hl1 := s1 _ _ hl
      walk_at "gos"
      refine g_isiI (TyOf.lst hl1) (kit_ty (r := true) (by decide +kernel)) ?_
      walk_at "gos"
      refine ⟨l, rfl, ⟨_, SqL.of hl1⟩, fun D hD => lc_list (K := K) (a := l) (xs := ns.map V.int) (fun j H2 => Same H1 H2 ∧ H2 D = some (.lst ((List.replicate j true).map V.bl))) ⟨Same.new hD, upd_same⟩ (fun j H2 _ h => SqL.of (h.1 _ _ hl1)) ?_ ?_⟩
      · rintro j x H2 hx ⟨s2, d2⟩
        rw [List.getElem?_map] at hx
        obtain ⟨z', hz', rfl⟩ := Option.map_eq_some_iff.mp hx
        have hj := (List.getElem?_eq_some_iff.mp hz').1
        walk_at "go"
        refine ⟨rfl, ?_⟩
        walk_at "gos"
        refine ⟨z', rfl, ?_⟩
        refine ⟨_, d2, ?_, fun c o e => ?_, ?_⟩
        · refine small1000 ?_
          rw [List.length_map, List.length_replicate]; omega
        · rw [upd_ne (ne_of_none e hD)]; exact s2 _ _ e
        · rw [upd_same, List.replicate_succ', List.map_append]; rfl
      rintro H2 ⟨s2, d2⟩
      walk_at "gos"
      refine g_all (SqL.of d2) (fun b hb => List.eq_of_mem_replicate hb) ?_
      walk_at "gos"
      exact ⟨_, rfl, s1.trans s2⟩
    · rintro σ H1 ⟨v1, rfl, s1⟩
      walk_at "gos"
      exact k _ s1
end
section
variable {P : Program} {w : World} {K : PySem.W.Frag} {mg : Str → Option Value} {base : Heap} {a : Ad}
/-! ### a sweep of both, compared; what it told is kept -/
theorem kept_step2 {H : Hp} {kp f g e : Addr} {N : List Addr} {m : Nat} {ys : List V} {ds : List PyData} {Q : VK} (hK : KeptAt H kp N m) (hm : m ≤ 1000000) (hf : H f = some (.lst ys)) (fk : f ≠ kp) (pf : Paired (C2 H) ys ds)
    (hg : H g = none) (he : upd H g (.lst ys) e = none)
    (q : ∀ H3 N', (∀ b, b ∈ N' → b ∈ N ∨ H b = none ∨ b = f) → KeptAt H3 kp N' (m + 1) → Fr [kp] H H3 → Q .non H3) :
    rAppend (.ref kp) [.ref e] (upd (upd H g (.lst ys)) e (.lst [.ref f, .ref g])) Q := by
  obtain ⟨c1, c2⟩ := none_upd he
  have fg : f ≠ g := ne_of_none hf hg
  have fe : f ≠ e := ne_of_none hf c2
  have s2 : Same H (upd (upd H g (.lst ys)) e (.lst [.ref f, .ref g])) := (Same.new hg).trans (Same.new he)
  obtain ⟨H2, e2⟩ : ∃ H2, upd (upd H g (.lst ys)) e (.lst [.ref f, .ref g]) = H2 := ⟨_, rfl⟩
  have hg2 : H2 g = some (.lst ys) := by rw [← e2, upd_ne c1.symm]; exact upd_same
  have he2 : H2 e = some (.lst [.ref f, .ref g]) := by rw [← e2]; exact upd_same
  rw [e2] at s2 ⊢
  clear e2
  have hf2 : H2 f = some (.lst ys) := s2 _ _ hf
  obtain ⟨es, hk, hl, rfl⟩ := hK
  have ke : e ≠ kp := fun z => by rw [z, hk.ob] at c2; cases c2
  have kg : g ≠ kp := fun z => by rw [z, hk.ob] at hg; cases hg
  have t2 : Tups H H2 := fun b xs z => s2 _ _ z
  have ob2 := s2 _ _ hk.ob
  have t : Tups H2 (upd H2 kp (.lst ((es.map fun e => V.ref e.1) ++ [.ref e]))) := fun b xs z => by
    rw [upd_ne (fun c => by rw [c, ob2] at z; cases z)]; exact z
  have t0 : Tups H (upd H2 kp (.lst ((es.map fun e => V.ref e.1) ++ [.ref e]))) := fun b xs z => t _ _ (t2 _ _ z)
  refine g_appendK ob2 (by rw [List.length_map]; omega) (q _ (ownK kp (es ++ [(e, f, g)])) (fun b hb => ?_) ⟨es ++ [(e, f, g)], ⟨by rw [upd_same, List.map_append]; rfl, fun x hx => ?_, fun x hx => ?_⟩, by rw [List.length_append]; show es.length + 1 ≤ m + 1; omega, rfl⟩ ((Fr.same s2).trans (Fr.upd (List.mem_singleton.mpr rfl))))
  · rcases ownK_mem.mp hb with h | ⟨x, hx, h⟩
    · exact .inl (ownK_mem.mpr (.inl h))
    · rcases List.mem_append.mp hx with hx | hx
      · exact .inl (ownK_mem.mpr (.inr ⟨x, hx, h⟩))
      · cases List.mem_singleton.mp hx
        rcases h with h | h | h
        · exact .inr (.inl (by rw [h]; exact c2))
        · exact .inr (.inr h)
        · exact .inr (.inl (by rw [h]; exact hg))
  · rcases List.mem_append.mp hx with hx | hx
    · obtain ⟨e1, ys', zs, ds', a2, a3, a4, a5⟩ := hk.en x hx
      obtain ⟨n1, n2, n3⟩ := hk.ne x hx
      exact ⟨by rw [upd_ne n1]; exact s2 _ _ e1, ys', zs, ds', by rw [upd_ne n2]; exact s2 _ _ a2, by rw [upd_ne n3]; exact s2 _ _ a3, L2.Paired.mapP a4 fun _ _ => C2.keep t0, L2.Paired.mapP a5 fun _ _ => C2.keep t0⟩
    · cases List.mem_singleton.mp hx
      exact ⟨by rw [upd_ne ke]; exact he2, ys, ys, ds, by rw [upd_ne fk]; exact hf2, by rw [upd_ne kg]; exact hg2, L2.Paired.mapP pf fun _ _ => C2.keep t0, L2.Paired.mapP pf fun _ _ => C2.keep t0⟩
  · rcases List.mem_append.mp hx with hx | hx
    · exact hk.ne x hx
    · cases List.mem_singleton.mp hx
      exact ⟨ke, fk, kg⟩
theorem dp_ints {H : Hp} : ∀ (ns : List Int), DpAll K H (ns.map V.int) (ns.map PyData.int)
  | [] => .nil
  | n :: ns => .cons (.int n) (dp_ints ns)
theorem lay_ints (ns : List Int) : Lay 1 (.list (ns.map PyData.int)) := Lay.lst fun d m => by
  obtain ⟨n, _, rfl⟩ := List.mem_map.mp m
  exact ⟨by simp [PyData.canLay0], Nat.le_refl _⟩
theorem dp_three {H : Hp} {t l1 l2 l3 : Addr} {n1 n2 n3 : List Int} (ht : H t = some (.tup [.ref l1, .ref l2, .ref l3])) (h1 : H l1 = some (.lst (n1.map V.int))) (h2 : H l2 = some (.lst (n2.map V.int))) (h3 : H l3 = some (.lst (n3.map V.int))) :
    Dp K H (.ref t) (.tuple [.list (n1.map PyData.int), .list (n2.map PyData.int), .list (n3.map PyData.int)]) :=
  .tup (SqT.of ht) (.cons (.lst (SqL.of h1) (dp_ints n1)) (.cons (.lst (SqL.of h2) (dp_ints n2)) (.cons (.lst (SqL.of h3) (dp_ints n3)) .nil)))
theorem lay_three (n1 n2 n3 : List Int) : Lay 2 (.tuple [.list (n1.map PyData.int), .list (n2.map PyData.int), .list (n3.map PyData.int)]) := Lay.tup fun d m => by
  simp only [List.mem_cons, List.not_mem_nil, or_false] at m
  rcases m with rfl | rfl | rfl <;> exact lay_ints _
end
section
variable {P : Program} {w : World} {K : PySem.W.Frag} {mg : Str → Option Value} {base : Heap} {a : Ad}
/-! ### sixty boxes, some given up, as many made again -/
theorem filt_out {l gs : List Int} (h1 : l.Nodup) (h2 : gs.Nodup) (h : ∀ g ∈ gs, g ∈ l) : (l.filter fun b => decide (b ∉ gs)).length + gs.length = l.length := by
  have p : (gs ++ l.filter fun b => decide (b ∉ gs)).Perm l := by
    refine (List.perm_ext_iff_of_nodup (List.nodup_append.mpr ⟨h2, h1.sublist List.filter_sublist, fun x hx y hy e => ?_⟩) h1).mpr fun x => ?_
    · have := (List.mem_filter.mp hy).2
      rw [← e] at this
      simp at this; exact this hx
    · rw [List.mem_append, List.mem_filter]
      by_cases c : x ∈ gs
      · exact ⟨fun _ => h x c, fun _ => .inl c⟩
      · exact ⟨fun z => z.elim (fun z => absurd z c) fun z => z.1, fun z => .inr ⟨z, by simpa using c⟩⟩
  have := p.length_eq
  rw [List.length_append] at this
  omega
theorem swept_keys (S : Ch) : S.swept.bs.map (·.1) = (S.bs.map (·.1)).filter fun b => decide (b ∉ S.gone) := by
  unfold Ch.swept
  rw [up_keys, (behind_alike S).ks]
theorem swept_nb (S : Ch) : S.swept.nb = S.nb := (behind_alike S).nb
theorem swept_len {S : Ch} (G : Good S) : S.swept.bs.length + S.gone.length = S.bs.length := by
  have e := congrArg List.length (swept_keys S)
  rw [List.length_map] at e
  have nd : (S.bs.map (·.1)).Nodup := G.kb.imp fun h => Int.ne_of_lt h
  have := filt_out (l := S.bs.map (·.1)) (gs := S.gone) nd (gone_nodup G) fun g m => get_mem.mp (lost_ne (gone_lost m).1)
  rw [List.length_map] at this
  omega
theorem Good.swept {S : Ch} (G : Good S) : Good S.swept := (Good.willsDone _ G).givenUp _
theorem WOk.swept {S : Ch} (G : WOk S) : WOk S.swept := (WOk.willsDone _ G).givenUp _
end
section
/-! ### what a sweep leaves -/
theorem clearS_nil (v : Option (Int × Bool)) : clearS [] v = v := by
  cases v with
  | none => rfl
  | some x =>
    obtain ⟨o, h⟩ := x
    show (if o ∈ ([] : List Int) then none else some (o, h)) = _
    rw [if_neg (fun z => nomatch z)]
theorem up_nil (S : Ch) : S.givenUp [] = S := by
  unfold Ch.givenUp
  have e1 : ((S.bs.filter fun e => decide (e.1 ∉ ([] : List Int))).map fun e => ((e.1, { e.2 with sl := e.2.sl.map (clearS []) }) : Int × Bx)) = S.bs := by
    have ef : (S.bs.filter fun e => decide (e.1 ∉ ([] : List Int))) = S.bs := List.filter_eq_self.mpr fun e _ => by simp
    rw [ef]
    rw [List.map_congr_left (g := id) fun e _ => by
      have : e.2.sl.map (clearS []) = e.2.sl := by rw [List.map_congr_left (g := id) fun v _ => clearS_nil v]; exact List.map_id _
      rw [this]; rfl]
    exact List.map_id _
  have e2 : (S.ps.filter fun e => decide (e.2.1 ∉ ([] : List Int) ∧ e.2.2.1 ∉ ([] : List Int) ∧ e.2.2.2 ∉ ([] : List Int))) = S.ps :=
    List.filter_eq_self.mpr fun e _ => by simp
  rw [e1, e2]
theorem sweep_id {S : Ch} (h : ∀ e ∈ S.bs, e.2.hand = true) : S.swept = S := by
  have e1 : S.lostL = [] := List.eq_nil_iff_forall_not_mem.mpr fun b m => by
    obtain ⟨y, ey⟩ := lost_get m
    exact come_hand (lk_mem ey) (h _ (lk_mem ey)) m
  have e2 : S.leftL = [] := by unfold Ch.leftL; rw [e1]; rfl
  have e3 : S.orderL = [] := by unfold Ch.orderL; rw [e2]; rfl
  have e4 : S.behind = S := by unfold Ch.behind; rw [e3]; rfl
  have e5 : S.gone = [] := by unfold Ch.gone; rw [e1]; rfl
  unfold Ch.swept
  rw [e4, e5, up_nil]
/-- in the hands, of so many slots -/
def Held (S : Ch) (i : Int) (z : Nat) : Prop := ∃ y, S.get i = some y ∧ y.hand = true ∧ y.sl.length = z
theorem held_deed {S : Ch} {i b : Int} {z : Nat} {d : Deed} (h : Held S i z) (n : d ≠ .down i) : Held (S.deedDone b d) i z := by
  obtain ⟨y, ey, hy, ly⟩ := h
  cases d with
  | up =>
    show Held (S.step (.take b)).2.2 i z
    cases e : S.get b with
    | none => rw [st_take0 e]; exact ⟨y, ey, hy, ly⟩
    | some x =>
      rw [st_take1 e]
      unfold Held
      rw [sget_box e]
      by_cases c : i = b
      · rw [if_pos c]
        rw [c, e] at ey; cases ey
        exact ⟨_, rfl, rfl, ly⟩
      · rw [if_neg c]; exact ⟨y, ey, hy, ly⟩
  | down o =>
    have no : i ≠ o := fun e => n (by rw [e])
    show Held (S.step (.drop o)).2.2 i z
    cases e : S.get o with
    | none => rw [st_drop0 e]; exact ⟨y, ey, hy, ly⟩
    | some x =>
      by_cases c : x.hand = false
      · rw [st_drop1 e c]; exact ⟨y, ey, hy, ly⟩
      · rw [st_drop2 e c]
        unfold Held
        rw [sget_box e, if_neg no]; exact ⟨y, ey, hy, ly⟩
  | hang o s g =>
    show Held (S.step (.put o s b g)).2.2 i z
    cases e : S.get o with
    | none => rw [st_put0 e]; exact ⟨y, ey, hy, ly⟩
    | some x =>
      by_cases c : s < 0 ∨ (x.sl.length : Int) ≤ s
      · rw [st_put1 e c]; exact ⟨y, ey, hy, ly⟩
      · cases eo : S.get b with
        | none => rw [st_put2 e c eo]; exact ⟨y, ey, hy, ly⟩
        | some w =>
          rw [st_put3 e c eo]
          unfold Held
          rw [sget_box e]
          by_cases q : i = o
          · rw [if_pos q]
            rw [q, e] at ey; cases ey
            exact ⟨_, rfl, hy, by rw [List.length_set]; exact ly⟩
          · rw [if_neg q]; exact ⟨y, ey, hy, ly⟩
theorem held_deeds {i b : Int} {z : Nat} : ∀ {ds : List Deed} {S : Ch}, Held S i z → Deed.down i ∉ ds → Held (S.deedsDone b ds) i z
  | [], _, h, _ => h
  | d :: ds, S, h, n => held_deeds (ds := ds) (S := S.deedDone b d) (held_deed h fun e => n (e ▸ List.mem_cons_self)) fun m => n (List.mem_cons_of_mem _ m)
theorem held_unwill {S : Ch} {i b : Int} {z : Nat} (h : Held S i z) : Held (S.unwill b) i z := by
  obtain ⟨y, ey, hy, ly⟩ := h
  unfold Ch.unwill
  cases e : S.get b with
  | none => rw [st_will0 e]; exact ⟨y, ey, hy, ly⟩
  | some x =>
    rw [st_will2 e (by simp)]
    unfold Held
    rw [sget_box e]
    by_cases c : i = b
    · rw [if_pos c]
      rw [c, e] at ey; cases ey
      exact ⟨_, rfl, hy, ly⟩
    · rw [if_neg c]; exact ⟨y, ey, hy, ly⟩
theorem held_wills {i : Int} {z : Nat} : ∀ {bs : List Int} {S : Ch}, Held S i z → (∀ b ∈ bs, Deed.down i ∉ S.willOf b) → Held (S.willsDone bs) i z
  | [], _, h, _ => h
  | b :: bs, S, h, n => held_wills (bs := bs) (S := S.willDone b) (held_deeds (held_unwill h) (n b List.mem_cons_self)) fun c m => by
    rw [will_will]
    by_cases q : c = b
    · rw [if_pos q]; exact fun z => nomatch z
    · rw [if_neg q]; exact n c (List.mem_cons_of_mem _ m)
/-- where a box stands, of so many slots -/
def There (S : Ch) (i : Int) (z : Nat) : Prop := ∃ y, S.get i = some y ∧ y.sl.length = z
theorem Held.there {S : Ch} {i : Int} {z : Nat} (h : Held S i z) : There S i z := by obtain ⟨y, e, _, l⟩ := h; exact ⟨y, e, l⟩
theorem there_deed {S : Ch} {i b : Int} {z : Nat} {d : Deed} (h : There S i z) : There (S.deedDone b d) i z := by
  obtain ⟨y, ey, ly⟩ := h
  rcases deed_box S b d with e | ⟨n, x, y', e1, _, e3, e⟩
  · rw [e]; exact ⟨y, ey, ly⟩
  · rw [e]; unfold There; rw [sget_box e1]
    by_cases c : i = n
    · rw [if_pos c]
      rw [c, e1] at ey; cases ey
      exact ⟨_, rfl, e3.trans ly⟩
    · rw [if_neg c]; exact ⟨y, ey, ly⟩
theorem there_deeds {i b : Int} {z : Nat} : ∀ {ds : List Deed} {S : Ch}, There S i z → There (S.deedsDone b ds) i z
  | [], _, h => h
  | d :: ds, S, h => there_deeds (ds := ds) (S := S.deedDone b d) (there_deed h)
theorem there_unwill {S : Ch} {i b : Int} {z : Nat} (h : There S i z) : There (S.unwill b) i z := by
  obtain ⟨y, ey, ly⟩ := h
  unfold Ch.unwill
  cases e : S.get b with
  | none => rw [st_will0 e]; exact ⟨y, ey, ly⟩
  | some x =>
    rw [st_will2 e (by simp)]
    unfold There
    rw [sget_box e]
    by_cases c : i = b
    · rw [if_pos c]
      rw [c, e] at ey; cases ey
      exact ⟨_, rfl, ly⟩
    · rw [if_neg c]; exact ⟨y, ey, ly⟩
theorem there_wills {i : Int} {z : Nat} : ∀ {bs : List Int} {S : Ch}, There S i z → There (S.willsDone bs) i z
  | [], _, h => h
  | b :: bs, S, h => there_wills (bs := bs) (S := S.willDone b) (there_deeds (there_unwill h))
theorem up_at {S : Ch} (G : Good S) {gs : List Int} {i : Int} {y : Bx} (e : S.get i = some y) (n : i ∉ gs) : (S.givenUp gs).get i = some { y with sl := y.sl.map (clearS gs) } := by
  refine lk_of_mem (G.givenUp gs).kb ?_
  exact List.mem_map.mpr ⟨(i, y), List.mem_filter.mpr ⟨lk_mem e, by simpa using n⟩, rfl⟩
theorem held_out {S : Ch} {i : Int} {z : Nat} (h : Held S i z) : i ∉ S.lostL := by
  obtain ⟨y, e, hy, _⟩ := h
  exact come_hand (lk_mem e) hy
theorem there_swept {S : Ch} (G : Good S) {i : Int} {z : Nat} (h : There S i z) (n : i ∉ S.gone) : There S.swept i z := by
  obtain ⟨y, ey, ly⟩ := there_wills (bs := S.orderL) h
  exact ⟨_, up_at (Good.willsDone S.orderL G) ey n, by show (y.sl.map _).length = z; rw [List.length_map]; exact ly⟩
theorem held_swept {S : Ch} (G : Good S) {i : Int} {z : Nat} (h : Held S i z) (n : ∀ b ∈ S.lostL, Deed.down i ∉ S.willOf b) : Held S.swept i z := by
  obtain ⟨y, ey, hy, ly⟩ := held_wills (bs := S.orderL) h fun b m => n b (left_lost (order_mem.mp m))
  exact ⟨_, up_at (Good.willsDone S.orderL G) ey fun m => held_out h (gone_lost m).1, hy, by show (y.sl.map _).length = z; rw [List.length_map]; exact ly⟩
theorem deeds_up {b : Int} {z : Nat} : ∀ {ds : List Deed} {S : Ch}, Deed.up ∈ ds → Deed.down b ∉ ds → There S b z → Held (S.deedsDone b ds) b z
  | d :: ds, S, m, n, h => by
    have n2 : Deed.down b ∉ ds := fun q => n (List.mem_cons_of_mem _ q)
    show Held ((S.deedDone b d).deedsDone b ds) b z
    by_cases c : d = .up
    · subst c
      refine held_deeds ?_ n2
      obtain ⟨y, ey, ly⟩ := h
      show Held (S.step (.take b)).2.2 b z
      rw [st_take1 ey]
      exact ⟨{ y with hand := true }, by rw [sget_box ey, if_pos rfl], rfl, ly⟩
    · exact deeds_up ((List.mem_cons.mp m).resolve_left fun e => c e.symm) n2 (there_deed h)
theorem wills_up {b : Int} {z : Nat} : ∀ {bs : List Int} {S : Ch}, b ∈ bs → Deed.up ∈ S.willOf b → (∀ c ∈ bs, Deed.down b ∉ S.willOf c) → bs.Nodup → There S b z → Held (S.willsDone bs) b z
  | c :: bs, S, m, u, n, nd, h => by
    obtain ⟨n1, n2⟩ := List.nodup_cons.mp nd
    have rest : ∀ x ∈ bs, Deed.down b ∉ (S.willDone c).willOf x := fun x mx => by
      rw [will_will]
      by_cases q : x = c
      · rw [if_pos q]; exact fun z => nomatch z
      · rw [if_neg q]; exact n x (List.mem_cons_of_mem _ mx)
    show Held ((S.willDone c).willsDone bs) b z
    by_cases q : b = c
    · subst q
      exact held_wills (deeds_up u (n b List.mem_cons_self) (there_unwill h)) rest
    · exact wills_up ((List.mem_cons.mp m).resolve_left q) (by rw [will_will, if_neg q]; exact u) rest n2 (there_deeds (there_unwill h))
theorem up_stays {S : Ch} (G : Good S) {b : Int} {z : Nat} (u : Deed.up ∈ S.willOf b) (n : ∀ c ∈ S.lostL, Deed.down b ∉ S.willOf c) (h : There S b z) : b ∉ S.gone := fun m => by
  obtain ⟨m1, m2⟩ := gone_lost m
  have ml : b ∈ S.leftL := List.mem_filter.mpr ⟨m1, by
    rw [willB_of]
    cases q : S.willOf b with
    | nil => rw [q] at u; cases u
    | cons _ _ => rfl⟩
  exact held_out (wills_up (bs := S.orderL) (order_mem.mpr ml) u (fun c mc => n c (left_lost (order_mem.mp mc))) (order_nodup G) h) m2
theorem swept_will (S : Ch) (G : Good S) (b : Int) : S.swept.willOf b = if b ∈ S.orderL ∨ b ∈ S.gone then [] else S.willOf b := by
  have GB : Good S.behind := Good.willsDone _ G
  by_cases c : b ∈ S.gone
  · rw [if_pos (.inr c)]
    unfold Ch.willOf
    cases e : S.swept.get b with
    | none => rfl
    | some x =>
      exfalso
      have : S.swept.get b ≠ none := by rw [e]; exact fun z => nomatch z
      exact (up_get.mp this).2 c
  · have e1 : S.swept.willOf b = S.behind.willOf b := by
      unfold Ch.willOf
      cases e : S.behind.get b with
      | none =>
        have : S.swept.get b = none := by
          cases e2 : S.swept.get b with
          | none => rfl
          | some x => exact absurd e (up_get.mp (by unfold Ch.swept at e2; rw [e2]; exact fun z => nomatch z)).1
        rw [this]
      | some x =>
        have := up_at GB (gs := S.gone) e c
        unfold Ch.swept
        rw [this]
    rw [e1]
    unfold Ch.behind
    rw [wills_will]
    by_cases q : b ∈ S.orderL
    · rw [if_pos q, if_pos (.inl q)]
    · rw [if_neg q, if_neg (fun z => z.elim q c)]
/-- whom wills drop -/
def Dn (S : Ch) (F : Int → Int → Prop) : Prop := ∀ b o, Deed.down o ∈ S.willOf b → F b o
theorem Dn.swept {S : Ch} {F : Int → Int → Prop} (G : Good S) (h : Dn S F) : Dn S.swept F := fun b o m => by
  rw [swept_will S G] at m
  by_cases c : b ∈ S.orderL ∨ b ∈ S.gone
  · rw [if_pos c] at m; cases m
  · rw [if_neg c] at m; exact h b o m
theorem step_will {S : Ch} (G : Good S) {d : LD} (n : ∀ b ds, d ≠ .will b ds) (m : Int) : (S.step d).2.2.willOf m = S.willOf m := by
  have bx : ∀ {b : Int} {x y : Bx}, S.get b = some x → y.will = x.will → (S.box b y).willOf m = S.willOf m := fun {b x y} e w => by
    rw [willOf_box e]
    by_cases c : m = b
    · rw [if_pos c, w, c]; unfold Ch.willOf; rw [e]
    · rw [if_neg c]
  cases d with
  | make k =>
    rw [st_make]
    by_cases c : k < 0 ∨ 9 < k
    · rw [if_pos c]
    · rw [if_neg c]
      by_cases c2 : S.bs.length = 60
      · rw [if_pos c2]
      · rw [if_neg c2]
        show (S.made k).willOf m = _
        unfold Ch.willOf
        rw [get_made G]
        by_cases q : m = S.nb
        · rw [if_pos q, q, G.nb_none (Int.le_refl _)]
        · rw [if_neg q]
  | put b s o g =>
    cases e : S.get b with
    | none => rw [st_put0 e]
    | some x =>
      by_cases c : s < 0 ∨ (x.sl.length : Int) ≤ s
      · rw [st_put1 e c]
      · cases eo : S.get o with
        | none => rw [st_put2 e c eo]
        | some y => rw [st_put3 e c eo]; exact bx e rfl
  | empty b s =>
    cases e : S.get b with
    | none => rw [st_empty0 e]
    | some x =>
      by_cases c : s < 0 ∨ (x.sl.length : Int) ≤ s
      · rw [st_empty1 e c]
      · rw [st_empty2 e c]; exact bx e rfl
  | take b =>
    cases e : S.get b with
    | none => rw [st_take0 e]
    | some x => rw [st_take1 e]; exact bx e rfl
  | drop b =>
    cases e : S.get b with
    | none => rw [st_drop0 e]
    | some x =>
      by_cases c : x.hand = false
      · rw [st_drop1 e c]
      · rw [st_drop2 e c]; exact bx e rfl
  | pair x k o =>
    rw [st_pair]
    by_cases c : S.get x = none ∨ S.get k = none ∨ S.get o = none
    · rw [if_pos c]
    · rw [if_neg c]
      by_cases c2 : S.ps.length = 60
      · rw [if_pos c2]
      · rw [if_neg c2]; rfl
  | unpair k =>
    cases e : S.ps.lookup k with
    | none => rw [st_unpair0 e]
    | some y => rw [st_unpair1 e]; rfl
  | will b ds => exact absurd rfl (n b ds)
theorem will_set {S : Ch} {b : Int} {ds : List Deed} (m : Int) : (S.step (.will b ds)).2.2.willOf m = S.willOf m ∨ (m = b ∧ (S.step (.will b ds)).2.2.willOf m = ds) := by
  cases e : S.get b with
  | none => rw [st_will0 e]; exact .inl rfl
  | some x =>
    by_cases c : 9 < ds.length ∨ ds.any Deed.isNeg = true
    · rw [st_will1 e c]; exact .inl rfl
    · rw [st_will2 e c]
      show (S.box b _).willOf m = _ ∨ (m = b ∧ (S.box b _).willOf m = _)
      rw [willOf_box e]
      by_cases q : m = b
      · rw [if_pos q]; exact .inr ⟨q, rfl⟩
      · rw [if_neg q]; exact .inl rfl
theorem Dn.step {S : Ch} {F : Int → Int → Prop} (G : Good S) (h : Dn S F) {d : LD} (hd : ∀ b ds, d = .will b ds → ∀ o, Deed.down o ∈ ds → F b o) : Dn (S.step d).2.2 F := fun b o m => by
  by_cases c : ∃ b ds, d = .will b ds
  · obtain ⟨b', ds, rfl⟩ := c
    rcases will_set (S := S) (b := b') (ds := ds) b with e | ⟨e1, e⟩
    · rw [e] at m; exact h b o m
    · rw [e] at m; rw [e1]; exact hd b' ds rfl o m
  · rw [step_will G fun b ds z => c ⟨b, ds, z⟩] at m
    exact h b o m
/-! ### the deeds that are laid can be done, swept each eighth time -/
noncomputable def swp (k : Nat) (S : Ch) : Ch := if k % 8 = 7 then S.swept else S
noncomputable def runS : Nat → Ch → List LD → Ch
  | _, S, [] => S
  | k, S, d :: ds => runS (k + 1) (swp k (S.step d).2.2) ds
def runOkS : Nat → Ch → List LD → Prop
  | _, _, [] => True
  | k, S, d :: ds => (S.step d).1 = "" ∧ runOkS (k + 1) (swp k (S.step d).2.2) ds
theorem runOkS_app : ∀ {ds1 ds2 : List LD} {k : Nat} {S : Ch}, runOkS k S ds1 → runOkS (k + ds1.length) (runS k S ds1) ds2 → runOkS k S (ds1 ++ ds2)
  | [], _, _, _, _, h => h
  | d :: ds, ds2, k, S, h, g => ⟨h.1, runOkS_app (ds1 := ds) h.2 (by rw [show k + 1 + ds.length = k + (d :: ds).length by rw [List.length_cons]; omega]; exact g)⟩
theorem runS_app : ∀ {ds1 ds2 : List LD} {k : Nat} {S : Ch}, runS k S (ds1 ++ ds2) = runS (k + ds1.length) (runS k S ds1) ds2
  | [], _, _, _ => rfl
  | d :: ds, ds2, k, S => by
    show runS (k + 1) _ (ds ++ ds2) = runS (k + (d :: ds).length) (runS (k + 1) _ ds) ds2
    rw [runS_app (ds1 := ds), show k + 1 + ds.length = k + (d :: ds).length by rw [List.length_cons]; omega]
theorem run_atS : ∀ {ds : List LD} {k : Nat} {S : Ch}, runOkS k S ds → ∀ (i : Nat) (d : LD), ds[i]? = some d → ((runS k S (ds.take i)).step d).1 = "" ∧ runS k S (ds.take (i + 1)) = swp (k + i) ((runS k S (ds.take i)).step d).2.2
  | d0 :: ds, k, S, h, 0, d, e => by cases (Option.some.inj e : d0 = d); exact ⟨h.1, rfl⟩
  | d0 :: ds, k, S, h, i + 1, d, e => by
    have := run_atS (ds := ds) h.2 i d e
    rw [show k + (i + 1) = k + 1 + i by omega]
    exact this
theorem swp_ind {I : Ch → Prop} {k : Nat} {S : Ch} (h : I S) (hs : I S.swept) : I (swp k S) := by
  unfold swp
  by_cases c : k % 8 = 7
  · rw [if_pos c]; exact hs
  · rw [if_neg c]; exact h
def F0 : Int → Int → Prop := fun _ o => o = 0
structure Pb (S : Ch) (m c : Nat) : Prop where
  ph : Ph S m 0 c
  W : WOk S
  dn : Dn S F0
theorem Pb.swp {S : Ch} {m c k : Nat} (h : Pb S m c) : LW.swp k S = S := by
  unfold LW.swp
  by_cases q : k % 8 = 7
  · rw [if_pos q]
    refine sweep_id fun e me => ?_
    have lb := h.ph.G.lb e me
    obtain ⟨y, ey, _, hy⟩ := h.ph.bx e.1 lb.1 (by rw [← h.ph.nb]; exact lb.2)
    have := h.ph.G.get (show (e.1, e.2) ∈ S.bs from me)
    rw [ey] at this; cases this
    exact hy lb.1
  · rw [if_neg q]
theorem Pb.makes : ∀ (n k : Nat) {S : Ch} {m : Nat}, Pb S m 0 → m + n ≤ 60 → runOkS k S (List.replicate n (.make 3)) ∧ Pb (runS k S (List.replicate n (.make 3))) (m + n) 0
  | 0, k, S, m, h, _ => ⟨trivial, h⟩
  | n + 1, k, S, m, h, l => by
    obtain ⟨ok, h2⟩ := h.ph.make (by omega)
    have P2 : Pb (S.step (.make 3)).2.2 (m + 1) 0 := ⟨h2, h.W.any _, h.dn.step h.ph.G fun b ds z => nomatch z⟩
    rw [List.replicate_succ]
    have es := P2.swp (k := k)
    obtain ⟨h3, h4⟩ := Pb.makes n (k + 1) (S := LW.swp k (S.step (.make 3)).2.2) (by rw [es]; exact P2) (by omega)
    exact ⟨⟨ok, h3⟩, by rw [show m + (n + 1) = m + 1 + n by omega]; exact h4⟩
theorem willL_dn {many b way : Int} : ∀ o, Deed.down o ∈ willL many b way → o = 0 := fun o m => by
  unfold willL at m
  split at m
  · simp at m
  · split at m
    · simp at m
    · simp at m; exact m
theorem Pb.boxL {S : Ch} {m c k : Nat} {far step b : Int} (h : Pb S m c) (m0 : 0 < m) (l : c < 60) (b0 : 0 ≤ b) (b1 : b < m) : runOkS k S (boxL far m step b) ∧ Pb (runS k S (boxL far m step b)) m (c + 1) := by
  have ho := fmod_in (x := b + step) (m := (m : Int)) (by omega)
  have first : ∀ d ds, (∀ b ds, d ≠ .will b ds) → ((S.step d).1 = "" ∧ Ph (S.step d).2.2 m 0 (c + 1)) → ds = (if mixF far (b + 3) 2 = 1 then [LD.will b (willL m b (mixF far b 5))] else []) → runOkS k S (d :: ds) ∧ Pb (runS k S (d :: ds)) m (c + 1) := by
    rintro d ds nw ⟨ok, h2⟩ rfl
    have P2 : Pb (S.step d).2.2 m (c + 1) := ⟨h2, h.W.any _, h.dn.step h.ph.G fun b ds z => absurd z (nw b ds)⟩
    have es := P2.swp (k := k)
    by_cases c1 : mixF far (b + 3) 2 = 1
    · rw [if_pos c1]
      have hw := willL_ok (many := m) (b := b) (way := mixF far b 5) (by omega)
      obtain ⟨ok2, h3⟩ := h2.will b0 b1 hw.1 hw.2
      have P3 : Pb ((S.step d).2.2.step (.will b (willL m b (mixF far b 5)))).2.2 m (c + 1) := ⟨h3, P2.W.any _, P2.dn.step P2.ph.G fun b' ds z o mo => by cases z; exact willL_dn o mo⟩
      have es3 := P3.swp (k := k + 1)
      refine ⟨⟨ok, by rw [es]; exact ok2, trivial⟩, ?_⟩
      show Pb (LW.swp (k + 1) ((LW.swp k (S.step d).2.2).step _).2.2) m (c + 1)
      rw [es, es3]; exact P3
    · rw [if_neg c1]
      refine ⟨⟨ok, trivial⟩, ?_⟩
      show Pb (LW.swp k (S.step d).2.2) m (c + 1)
      rw [es]; exact P2
  unfold LW.boxL
  refine first _ _ ?_ ?_ rfl
  · intro b' ds; split <;> exact fun z => nomatch z
  by_cases c1 : mixF far b 5 = 1
  · rw [if_pos c1]
    have h2 := mixF_in (c := far) (k := b + 1) (m := 2) (by decide)
    rcases (by omega : mixF far (b + 1) 2 = 0 ∨ mixF far (b + 1) 2 = 1) with e | e
    · rw [e, Int.zero_mul]; exact h.ph.pair l (by omega) (by omega) b0 b1 ho.1 ho.2
    · rw [e, Int.one_mul]; exact h.ph.pair l (by omega) (by omega) b0 b1 ho.1 ho.2
  · rw [if_neg c1]
    have h3 := mixF_in (c := far) (k := b + 2) (m := 3) (by decide)
    obtain ⟨ok, h4⟩ := h.ph.put (g := decide (mixF far b 5 > 0)) b0 b1 h3.1 h3.2 ho.1 ho.2
    exact ⟨ok, h4.mono (by omega)⟩
theorem Pb.boxes {m : Nat} {far step : Int} (m0 : 0 < m) (m60 : m ≤ 60) : ∀ (n k : Nat) {S : Ch}, Pb S m 0 → n ≤ m → runOkS k S ((rngL n).flatMap (LW.boxL far m step)) ∧ Pb (runS k S ((rngL n).flatMap (LW.boxL far m step))) m n
  | 0, k, S, h, _ => ⟨trivial, h⟩
  | n + 1, k, S, h, l => by
    obtain ⟨h1, h2⟩ := Pb.boxes m0 m60 (far := far) (step := step) n k h (by omega)
    rw [rngL_succ, List.flatMap_append, List.flatMap_singleton, runS_app]
    obtain ⟨h3, h4⟩ := h2.boxL (far := far) (step := step) (b := (n : Int)) m0 (by omega) (by omega) (by omega)
    exact ⟨runOkS_app h1 h3, h4⟩
/-- those from j on in the hands; j = 0: all that there are -/
structure Pc (S : Ch) (m c : Nat) (j : Int) : Prop where
  G : Good S
  W : WOk S
  nb : S.nb = (m : Int)
  bx : ∀ i : Int, j ≤ i → i < m → Held S i 3
  dn : Dn S F0
  ln : S.bs.length ≤ m
  ps : S.ps.length ≤ c
theorem swept_ps {S : Ch} {c : Nat} (h : S.ps.length ≤ c) : S.swept.ps.length ≤ c := by
  have e : S.behind.ps = S.ps := (behind_alike S).ps
  refine Nat.le_trans (List.length_filter_le _ _) ?_
  rw [e]; exact h
theorem Pc.swp {S : Ch} {m c k : Nat} {j : Int} (h : Pc S m c j) (j0 : 0 ≤ j) : Pc (LW.swp k S) m c j := by
  refine swp_ind (I := fun S => Pc S m c j) h ?_
  by_cases q : j = 0
  · have : S.swept = S := sweep_id fun e me => by
      have lb := h.G.lb e me
      obtain ⟨y, ey, hy, _⟩ := h.bx e.1 (by omega) (by rw [← h.nb]; exact lb.2)
      have := h.G.get (show (e.1, e.2) ∈ S.bs from me)
      rw [ey] at this; cases this
      exact hy
    rw [this]; exact h
  · refine ⟨h.G.swept, h.W.swept, (swept_nb S).trans h.nb, fun i i0 i1 => held_swept h.G (h.bx i i0 i1) fun b _ m => ?_, h.dn.swept h.G, ?_, swept_ps h.ps⟩
    · have := h.dn b i m
      have : i = 0 := this
      omega
    · have := swept_len h.G; have := h.ln; omega
theorem Pc.dropL {S : Ch} {m c k : Nat} {far b : Int} (h : Pc S m c b) (b0 : 0 ≤ b) (b1 : b < m) : runOkS k S (dropL far b) ∧ Pc (runS k S (dropL far b)) m c (b + 1) := by
  unfold LW.dropL
  by_cases c1 : mixF far (b + 4) 6 > 0
  · rw [if_pos c1]
    obtain ⟨x, e, hx, lx⟩ := h.bx b (Int.le_refl _) b1
    have ok := ok_drop e hx
    refine ⟨⟨ok, trivial⟩, ?_⟩
    have G' := h.G.any (.drop b)
    have W' := h.W.any (.drop b)
    have dn' := h.dn.step h.G (d := .drop b) fun b ds z => nomatch z
    show Pc (LW.swp k (S.step (.drop b)).2.2) m c (b + 1)
    refine Pc.swp ?_ (by omega)
    rw [st_drop2 e (by rw [hx]; decide)] at G' W' dn' ⊢
    refine ⟨G', W', h.nb, fun i i0 i1 => ?_, dn', by show (setB S.bs b fun _ => _).length ≤ m; rw [setB_len]; exact h.ln, h.ps⟩
    obtain ⟨y, ey, hy, ly⟩ := h.bx i (by omega) i1
    unfold Held
    rw [sget_box e, if_neg (by omega)]
    exact ⟨y, ey, hy, ly⟩
  · rw [if_neg c1]
    exact ⟨trivial, h.G, h.W, h.nb, fun i i0 i1 => h.bx i (by omega) i1, h.dn, h.ln, h.ps⟩
theorem Pc.drops {m c : Nat} {far : Int} : ∀ (n k : Nat) {S : Ch}, Pc S m c 0 → n ≤ m → runOkS k S ((rngL n).flatMap (LW.dropL far)) ∧ Pc (runS k S ((rngL n).flatMap (LW.dropL far))) m c n
  | 0, k, S, h, _ => ⟨trivial, h⟩
  | n + 1, k, S, h, l => by
    obtain ⟨h1, h2⟩ := Pc.drops (far := far) n k h (by omega)
    rw [rngL_succ, List.flatMap_append, List.flatMap_singleton, runS_app]
    obtain ⟨h3, h4⟩ := h2.dropL (k := k + ((rngL n).flatMap (LW.dropL far)).length) (far := far) (by omega) (by omega)
    exact ⟨runOkS_app h1 h3, h4⟩
/-- the tail: those of A in the hands, of so many slots -/
structure Pq (S : Ch) (n : Int) (F : Int → Int → Prop) (A : List (Int × Nat)) (c : Nat) : Prop where
  G : Good S
  W : WOk S
  nb : S.nb = n
  dn : Dn S F
  hs : ∀ e ∈ A, Held S e.1 e.2
  nf : ∀ e ∈ A, ∀ b, F b e.1 → ∃ e' ∈ A, e'.1 = b
  ln : (S.bs.length : Int) ≤ n
  ps : S.ps.length ≤ c
theorem Pq.swp {S : Ch} {n : Int} {F : Int → Int → Prop} {A : List (Int × Nat)} {c k : Nat} (h : Pq S n F A c) : Pq (LW.swp k S) n F A c := by
  refine swp_ind (I := fun S => Pq S n F A c) h ⟨h.G.swept, h.W.swept, (swept_nb S).trans h.nb, h.dn.swept h.G, fun e me => held_swept h.G (h.hs e me) fun b mb m => ?_, h.nf, ?_, swept_ps h.ps⟩
  · obtain ⟨e', me', eb⟩ := h.nf e me b (h.dn b _ m)
    exact held_out (h.hs e' me') (by rw [eb]; exact mb)
  · have := swept_len h.G; have := h.ln; omega
theorem Pq.make {S : Ch} {n : Int} {F : Int → Int → Prop} {A : List (Int × Nat)} {c k : Nat} {z : Int} (h : Pq S n F A c) (z0 : 0 ≤ z) (z9 : z ≤ 9) (l : n < 60) (hF : ∀ b, F b n → ∃ e' ∈ A ++ [(n, z.toNat)], e'.1 = b) (hA : ∀ e ∈ A, e.1 < n) :
    (S.step (.make z)).1 = "" ∧ Pq (LW.swp k (S.step (.make z)).2.2) (n + 1) F (A ++ [(n, z.toNat)]) c := by
  have l60 : S.bs.length < 60 := by have := h.ln; omega
  have ok := ok_make (S := S) z0 z9 l60
  refine ⟨ok, Pq.swp ?_⟩
  have G' := h.G.any (.make z)
  have W' := h.W.any (.make z)
  have dn' := h.dn.step h.G (d := .make z) fun b ds z => nomatch z
  rw [step_make z0 z9 l60] at G' W' dn' ⊢
  refine ⟨G', W', by show S.nb + 1 = _; rw [h.nb], dn', fun e me => ?_, fun e me b f => ?_, ?_, h.ps⟩
  · unfold Held
    rw [get_made h.G, h.nb]
    rcases List.mem_append.mp me with me | me
    · obtain ⟨y, ey, hy, ly⟩ := h.hs e me
      rw [if_neg (by have := hA e me; omega)]
      exact ⟨y, ey, hy, ly⟩
    · rw [List.mem_singleton.mp me, if_pos rfl]
      exact ⟨_, rfl, rfl, by show (List.replicate z.toNat none).length = z.toNat; rw [List.length_replicate]⟩
  · rcases List.mem_append.mp me with me | me
    · obtain ⟨e', m', eb⟩ := h.nf e me b f
      exact ⟨e', List.mem_append_left _ m', eb⟩
    · rw [List.mem_singleton.mp me] at f; exact hF b f
  · show ((S.bs ++ [_]).length : Int) ≤ n + 1
    rw [List.length_append]; have := h.ln; show ((S.bs.length + 1 : Nat) : Int) ≤ _; omega
theorem Pc.tail {S : Ch} {m c k : Nat} {far : Int} (h : Pc S m c m) (hm : far / 9 % 6 = 2 → m + 3 ≤ 60 ∧ c < 60) (m1 : 0 < m) : runOkS k S (tailL far m) := by
  unfold tailL
  by_cases c1 : far / 9 % 6 = 2
  · rw [if_pos c1]
    obtain ⟨m57, c60⟩ := hm c1
    have P0 : Pq S m F0 [] c := ⟨h.G, h.W, h.nb, h.dn, fun e m => (nomatch m), fun e m => (nomatch m), by have := h.ln; omega, h.ps⟩
    obtain ⟨k1, P1⟩ := P0.make (k := k) (z := 1) (by decide) (by decide) (by omega) (fun b f => by have f : (m : Int) = 0 := f; omega) (fun e m => nomatch m)
    refine ⟨k1, ?_⟩
    obtain ⟨k2, P2⟩ := P1.make (k := k + 1) (z := 2) (by decide) (by decide) (by omega) (fun b f => by have f : (m : Int) + 1 = 0 := f; omega) (fun e me => by rw [List.mem_singleton.mp me]; show (m : Int) < _; omega)
    refine ⟨k2, ?_⟩
    obtain ⟨k3, P3⟩ := P2.make (k := k + 1 + 1) (z := 1) (by decide) (by decide) (by omega) (fun b f => by have f : (m : Int) + 1 + 1 = 0 := f; omega) (fun e me => by
      simp only [List.nil_append, List.cons_append, List.mem_cons, List.not_mem_nil, or_false] at me
      rcases me with rfl | rfl
      · show (m : Int) < _; omega
      · show (m : Int) + 1 < _; omega)
    refine ⟨k3, ?_⟩
    generalize LW.swp (k + 1 + 1) _ = S3 at P3 ⊢
    have q0 := P3.hs ((m : Int), 1) (by simp)
    have q1 := P3.hs ((m : Int) + 1, 2) (by simp)
    have q2 := P3.hs ((m : Int) + 1 + 1, 1) (by simp)
    rw [show (m : Int) + 1 + 1 = m + 2 by omega] at q2
    have ne : ∀ {S : Ch} {b : Int} {z : Nat}, There S b z → S.get b ≠ none := fun ⟨y, e, _⟩ => by rw [e]; exact fun z => nomatch z
    have lp3 := P3.ps
    have k4 := ok_pair (ne q0.there) (ne q1.there) (ne q2.there) (by omega)
    refine ⟨k4, ?_⟩
    have e4 : S3.step (.pair (m : Int) (m + 1) (m + 2)) = (("" : Str), some S3.np, S3.tied m (m + 1) (m + 2)) := by
      rw [st_pair, if_neg (fun z => z.elim (ne q0.there) fun z => z.elim (ne q1.there) (ne q2.there)), if_neg (by omega)]
    have P4' : Pq (S3.step (.pair (m : Int) (m + 1) (m + 2))).2.2 (m + 3) F0 [((m : Int), 1), ((m : Int) + 1, 2), ((m : Int) + 2, 1)] (c + 1) := by
      have G' := P3.G.any (.pair (m : Int) (m + 1) (m + 2))
      have W' := P3.W.any (.pair (m : Int) (m + 1) (m + 2))
      have dn' := P3.dn.step P3.G (d := .pair (m : Int) (m + 1) (m + 2)) fun b ds z => nomatch z
      rw [e4] at G' W' dn' ⊢
      refine ⟨G', W', by show S3.nb = _; rw [P3.nb]; omega, dn', fun e me => ?_, fun e me b f => ?_, by show (S3.bs.length : Int) ≤ _; have := P3.ln; omega, by show (S3.ps ++ [_]).length ≤ c + 1; rw [List.length_append, List.length_singleton]; omega⟩
      · simp only [List.mem_cons, List.not_mem_nil, or_false] at me
        rcases me with rfl | rfl | rfl
        · exact q0
        · exact q1
        · exact q2
      · simp only [List.mem_cons, List.not_mem_nil, or_false] at me
        have f : e.1 = 0 := f
        rcases me with rfl | rfl | rfl
        · have f : (m : Int) = 0 := f; omega
        · have f : (m : Int) + 1 = 0 := f; omega
        · have f : (m : Int) + 2 = 0 := f; omega
    have P4 := P4'.swp (k := k + 1 + 1 + 1)
    generalize LW.swp (k + 1 + 1 + 1) _ = S4 at P4 ⊢
    clear P4' e4 k4 lp3 q0 q1 q2 P3
    have q0 := P4.hs ((m : Int), 1) (by simp)
    have q1 := P4.hs ((m : Int) + 1, 2) (by simp)
    have q2 := P4.hs ((m : Int) + 2, 1) (by simp)
    have gw : ([Deed.up, .down (m : Int)] : List Deed).any Deed.isNeg = false := by
      show (false || (decide ((m : Int) < 0) || false)) = false
      rw [decide_eq_false (by omega)]; rfl
    have k5 := ok_will (ds := [.up, .down (m : Int)]) (ne q1.there) (by show 2 ≤ 9; decide) gw
    refine ⟨k5, ?_⟩
    -- the will given
    have P5' : Pq (S4.step (.will (m + 1) [.up, .down (m : Int)])).2.2 (m + 3) (fun b o => o = 0 ∨ (b = (m : Int) + 1 ∧ o = m)) [((m : Int), 1), ((m : Int) + 1, 2), ((m : Int) + 2, 1)] (c + 1) ∧ (S4.step (.will (m + 1) [.up, .down (m : Int)])).2.2.willOf (m + 1) = [.up, .down (m : Int)] := by
      have G' := P4.G.any (.will (m + 1) [.up, .down (m : Int)])
      have W' := P4.W.any (.will (m + 1) [.up, .down (m : Int)])
      have dn0 : Dn S4 (fun b o => o = 0 ∨ (b = (m : Int) + 1 ∧ o = m)) := fun b o z => .inl (P4.dn b o z)
      have dn' := dn0.step P4.G (d := .will (m + 1) [.up, .down (m : Int)]) fun b ds z o mo => by
        cases z
        simp at mo
        exact .inr ⟨rfl, mo⟩
      obtain ⟨y1, ey1, hy1, ly1⟩ := q1
      rw [st_will2 ey1 (fun z => z.elim (fun z => absurd z (by show ¬ (9 < 2); decide)) fun z => by rw [gw] at z; cases z)] at G' W' dn' ⊢
      refine ⟨⟨G', W', P4.nb, dn', fun e me => ?_, fun e me b f => ?_, by show ((setB S4.bs _ fun _ => _).length : Int) ≤ _; rw [setB_len]; exact P4.ln, P4.ps⟩, ?_⟩
      · unfold Held
        rw [sget_box ey1]
        by_cases q : e.1 = (m : Int) + 1
        · rw [if_pos q]
          obtain ⟨y, ey, hy, ly⟩ := P4.hs e me
          rw [q, ey1] at ey; cases ey
          exact ⟨_, rfl, hy, ly⟩
        · rw [if_neg q]; exact P4.hs e me
      · rcases f with f | ⟨f, _⟩
        · obtain ⟨e', me', eb⟩ := P4.nf e me b f
          exact ⟨e', me', eb⟩
        · exact ⟨((m : Int) + 1, 2), by simp, f.symm⟩
      · rw [willOf_box ey1, if_pos rfl]
    obtain ⟨P5', w5'⟩ := P5'
    have P5 := P5'.swp (k := k + 1 + 1 + 1 + 1)
    have w5 : (LW.swp (k + 1 + 1 + 1 + 1) (S4.step (.will (m + 1) [.up, .down (m : Int)])).2.2).willOf (m + 1) = [.up, .down (m : Int)] := by
      refine swp_ind (I := fun S => S.willOf ((m : Int) + 1) = [.up, .down (m : Int)]) w5' ?_
      have out := held_out (P5'.hs ((m : Int) + 1, 2) (by simp))
      rw [swept_will _ P5'.G, if_neg]
      · exact w5'
      · exact fun z => z.elim (fun z => out (left_lost (order_mem.mp z))) fun z => out (gone_lost z).1
    generalize LW.swp (k + 1 + 1 + 1 + 1) _ = S5 at P5 w5 ⊢
    clear P5' w5' k5 q0 q1 q2 P4
    have q0 := P5.hs ((m : Int), 1) (by simp)
    have q1 := P5.hs ((m : Int) + 1, 2) (by simp)
    have q2 := P5.hs ((m : Int) + 2, 1) (by simp)
    obtain ⟨y1, ey1, hy1, ly1⟩ := q1
    have k6 := ok_drop ey1 hy1
    refine ⟨k6, ?_⟩
    have G6 := P5.G.any (.drop ((m : Int) + 1))
    have dn6 := P5.dn.step P5.G (d := .drop ((m : Int) + 1)) fun b ds z => nomatch z
    have w6 : (S5.step (.drop ((m : Int) + 1))).2.2.willOf (m + 1) = [.up, .down (m : Int)] := by rw [step_will P5.G (d := .drop ((m : Int) + 1)) fun b ds z => nomatch z]; exact w5
    rw [st_drop2 ey1 (by rw [hy1]; decide)] at G6 dn6 w6 ⊢
    have h0 : Held (S5.box ((m : Int) + 1) { y1 with hand := false }) m 1 := by
      obtain ⟨y, ey, hy, ly⟩ := q0
      unfold Held
      rw [sget_box ey1, if_neg (by omega)]; exact ⟨y, ey, hy, ly⟩
    have h2 : Held (S5.box ((m : Int) + 1) { y1 with hand := false }) (m + 2) 1 := by
      obtain ⟨y, ey, hy, ly⟩ := q2
      unfold Held
      rw [sget_box ey1, if_neg (by omega)]; exact ⟨y, ey, hy, ly⟩
    have t1 : There (S5.box ((m : Int) + 1) { y1 with hand := false }) (m + 1) 2 := ⟨{ y1 with hand := false }, by rw [sget_box ey1, if_pos rfl], ly1⟩
    show runOkS _ (LW.swp _ (S5.box ((m : Int) + 1) { y1 with hand := false })) _
    generalize S5.box ((m : Int) + 1) { y1 with hand := false } = S6 at G6 dn6 w6 h0 h2 t1 ⊢
    have no1 : ∀ {T : Ch}, Dn T (fun b o => o = 0 ∨ (b = (m : Int) + 1 ∧ o = m)) → ∀ c, Deed.down ((m : Int) + 1) ∉ T.willOf c := fun h c z => by
      rcases h c _ z with e | ⟨_, e⟩ <;> omega
    have no2 : ∀ {T : Ch}, Dn T (fun b o => o = 0 ∨ (b = (m : Int) + 1 ∧ o = m)) → ∀ c, Deed.down ((m : Int) + 2) ∉ T.willOf c := fun h c z => by
      rcases h c _ z with e | ⟨_, e⟩ <;> omega
    have put : ∀ {T : Ch}, There T m 1 → There T (m + 1) 2 → (T.step (.put ((m : Int) + 1) 0 m (decide (far / 54 % 2 = 1)))).1 = "" := fun {T} a b => by
      obtain ⟨y, ey, ly⟩ := b
      exact ok_put ey (by decide) (by rw [ly]; decide) (ne a)
    by_cases ck : (k + 1 + 1 + 1 + 1 + 1) % 8 = 7
    · have e6 : LW.swp (k + 1 + 1 + 1 + 1 + 1) S6 = S6.swept := by unfold LW.swp; rw [if_pos ck]
      rw [e6]
      have a0 : There S6.swept m 1 := there_swept G6 h0.there fun z => held_out h0 (gone_lost z).1
      have a1 : There S6.swept (m + 1) 2 := there_swept G6 t1 (up_stays G6 (by rw [w6]; exact List.mem_cons_self) (fun c _ => no1 dn6 c) t1)
      obtain ⟨y2, ey2, hy2, ly2⟩ := held_swept G6 h2 fun b _ => no2 dn6 b
      refine ⟨ok_drop ey2 hy2, ?_⟩
      have e7 : ∀ T, LW.swp (k + 1 + 1 + 1 + 1 + 1 + 1) T = T := fun T => by unfold LW.swp; rw [if_neg (by omega)]
      rw [st_drop2 ey2 (by rw [hy2]; decide)]
      show runOkS _ (LW.swp _ (S6.swept.box ((m : Int) + 2) _)) _
      rw [e7]
      have keep : ∀ {i : Int} {z : Nat}, There S6.swept i z → There (S6.swept.box ((m : Int) + 2) { y2 with hand := false }) i z := fun {i z} ⟨y, ey, ly⟩ => by
        unfold There
        rw [sget_box ey2]
        by_cases q : i = (m : Int) + 2
        · rw [if_pos q]
          rw [q, ey2] at ey; cases ey
          exact ⟨_, rfl, ly⟩
        · rw [if_neg q]; exact ⟨y, ey, ly⟩
      exact ⟨put (keep a0) (keep a1), trivial⟩
    · have e6 : LW.swp (k + 1 + 1 + 1 + 1 + 1) S6 = S6 := by unfold LW.swp; rw [if_neg ck]
      rw [e6]
      obtain ⟨y2, ey2, hy2, ly2⟩ := h2
      refine ⟨ok_drop ey2 hy2, ?_⟩
      have G7 := G6.any (.drop ((m : Int) + 2))
      have dn7 := dn6.step G6 (d := .drop ((m : Int) + 2)) fun b ds z => nomatch z
      have w7 : (S6.step (.drop ((m : Int) + 2))).2.2.willOf (m + 1) = [.up, .down (m : Int)] := by rw [step_will G6 (d := .drop ((m : Int) + 2)) fun b ds z => nomatch z]; exact w6
      rw [st_drop2 ey2 (by rw [hy2]; decide)] at G7 dn7 w7 ⊢
      show runOkS _ (LW.swp _ (S6.box ((m : Int) + 2) { y2 with hand := false })) _
      have b0 : Held (S6.box ((m : Int) + 2) { y2 with hand := false }) m 1 := by
        obtain ⟨y, ey, hy, ly⟩ := h0
        unfold Held
        rw [sget_box ey2, if_neg (by omega)]; exact ⟨y, ey, hy, ly⟩
      have b1 : There (S6.box ((m : Int) + 2) { y2 with hand := false }) (m + 1) 2 := by
        obtain ⟨y, ey, ly⟩ := t1
        unfold There
        rw [sget_box ey2, if_neg (by omega)]; exact ⟨y, ey, ly⟩
      have G7 : Good (S6.box ((m : Int) + 2) { y2 with hand := false }) := G7
      have dn7 : Dn (S6.box ((m : Int) + 2) { y2 with hand := false }) (fun b o => o = 0 ∨ (b = (m : Int) + 1 ∧ o = m)) := dn7
      have w7 : (S6.box ((m : Int) + 2) { y2 with hand := false }).willOf (m + 1) = [.up, .down (m : Int)] := w7
      generalize S6.box ((m : Int) + 2) { y2 with hand := false } = S7 at G7 dn7 w7 b0 b1 ⊢
      refine ⟨?_, trivial⟩
      refine swp_ind (I := fun T => (T.step (.put ((m : Int) + 1) 0 m (decide (far / 54 % 2 = 1)))).1 = "") (put b0.there b1) ?_
      exact put (there_swept G7 b0.there fun z => held_out b0 (gone_lost z).1) (there_swept G7 b1 (up_stays G7 (by rw [w7]; exact List.mem_cons_self) (fun c _ => no1 dn7 c) b1))
  · rw [if_neg c1]; trivial
theorem laid_okS (far : Int) : runOkS 0 ⟨0, 0, [], []⟩ (laidF far) := by
  unfold laidF
  have hm : 3 ≤ manyL far ∧ manyL far ≤ 60 ∧ (far / 9 % 6 = 2 → manyL far ≤ 11) := by
    unfold manyL
    by_cases c : far / 9 % 6 = 1
    · rw [if_pos c]
      have := Int.emod_nonneg (far / 54) (b := 11) (by decide)
      have := Int.emod_lt_of_pos (far / 54) (b := 11) (by decide)
      exact ⟨by omega, by omega, fun z => by omega⟩
    · rw [if_neg c]
      have := Int.emod_nonneg far (b := 9) (by decide)
      have := Int.emod_lt_of_pos far (b := 9) (by decide)
      exact ⟨by omega, by omega, fun z => by omega⟩
  obtain ⟨h3, h60, h11⟩ := hm
  generalize hM : (manyL far).toNat = M
  have eM : manyL far = (M : Int) := by omega
  rw [eM]
  have P0 : Pb ⟨0, 0, [], []⟩ 0 0 := ⟨⟨Good.empty, rfl, rfl, fun i i0 i1 => by omega, Nat.zero_le _⟩, fun e m => (nomatch m), fun b o m => by
    unfold Ch.willOf Ch.get at m
    rw [show List.lookup b ([] : List (Int × Bx)) = none from rfl] at m
    cases m⟩
  obtain ⟨a1, a2⟩ := P0.makes M 0 (by omega)
  rw [Nat.zero_add] at a2
  obtain ⟨b1, b2⟩ := Pb.boxes (m := M) (far := far) (step := stepL far) (by omega) (by omega) M (0 + (List.replicate M (LD.make 3)).length) a2 (Nat.le_refl _)
  have P3 : Pc _ M M 0 := ⟨b2.ph.G, b2.W, b2.ph.nb, fun i i0 i1 => by
    obtain ⟨y, ey, ly, hy⟩ := b2.ph.bx i i0 i1
    exact ⟨y, ey, hy i0, ly⟩, b2.dn, by rw [b2.ph.len]; exact Nat.le_refl _, b2.ph.ps⟩
  obtain ⟨d1, d2⟩ := Pc.drops (far := far) M (0 + (List.replicate M (LD.make 3) ++ (rngL M).flatMap (LW.boxL far M (stepL far))).length) P3 (Nat.le_refl _)
  refine runOkS_app (runOkS_app (runOkS_app a1 b1) ?_) ?_
  · rw [runS_app]; exact d1
  · rw [runS_app, runS_app]
    exact d2.tail (far := far) (fun z => ⟨by have := h11 z; omega, by have := h11 z; omega⟩) (by omega)
end
section
variable {P : Program} {w : World} {K : PySem.W.Frag} {mg : Str → Option Value} {base : Heap} {a : Ad}
/-! ### two chests, their reckonings, what was kept -/
structure Inv4 (a : Ad) (H0 H : Hp) (Fx : Addr → Prop) (pA qA : Addr) (SA : Ch) (OA : List Addr) (pB qB : Addr) (SB : Ch) (OB : List Addr) (kp : Addr) (N : List Addr) (m : Nat) : Prop where
  A : Both a H pA qA SA OA
  B : Both a H pB qB SB OB
  K : KeptAt H kp N m
  ab : ∀ b, b ∈ OA → b ∉ OB
  an : ∀ b, b ∈ OA → b ∉ N
  bn : ∀ b, b ∈ OB → b ∉ N
  fx : ∀ l, Fx l → (∃ o, H l = some o) ∧ l ∉ OA ∧ l ∉ OB ∧ l ∉ N
  fr : ∀ l o, Fx l → H0 l = some o → H l = some o
  tp : Tups H0 H
section
variable {H0 H H' : Hp} {Fx : Addr → Prop} {pA qA pB qB kp : Addr} {SA SB S' : Ch} {OA OB O' N N' : List Addr} {m m' : Nat}
theorem Inv4.swap (h : Inv4 a H0 H Fx pA qA SA OA pB qB SB OB kp N m) : Inv4 a H0 H Fx pB qB SB OB pA qA SA OA kp N m :=
  ⟨h.B, h.A, h.K, fun b x y => h.ab b y x, h.bn, h.an, fun l x => ⟨(h.fx l x).1, (h.fx l x).2.2.1, (h.fx l x).2.1, (h.fx l x).2.2.2⟩, h.fr, h.tp⟩
theorem Inv4.same (h : Inv4 a H0 H Fx pA qA SA OA pB qB SB OB kp N m) (s : Same H H') : Inv4 a H0 H' Fx pA qA SA OA pB qB SB OB kp N m :=
  ⟨h.A.same s, h.B.same s, h.K.same s, h.ab, h.an, h.bn, fun l x => ⟨(h.fx l x).1.elim fun o e => ⟨o, s _ _ e⟩, (h.fx l x).2⟩, fun l o x e => s _ _ (h.fr l o x e), fun t xs e => s _ _ (h.tp _ _ e)⟩
theorem Inv4.step (h : Inv4 a H0 H Fx pA qA SA OA pB qB SB OB kp N m) (f : Fr OA H H') (g : Gr OA O' H) (b : Both a H' pA qA S' O') : Inv4 a H0 H' Fx pA qA S' O' pB qB SB OB kp N m := by
  have t : Tups H H' := f.tups fun b z => h.A.dom z
  exact ⟨b, h.B.keep f t fun b x y => h.ab b y x, h.K.keep f t fun b x y => h.an b y x,
    fun b x y => gr_out g (fun z => h.ab b z y) ((h.B.dom y).elim fun o z => ⟨o, z.1⟩) x, fun b x y => gr_out g (fun z => h.an b z y) ((h.K.dom y).elim fun o z => ⟨o, z.1⟩) x, h.bn,
    fun l x => ⟨(h.fx l x).1.elim fun o e => ⟨o, f _ _ e (h.fx l x).2.1⟩, gr_out g (h.fx l x).2.1 (h.fx l x).1, (h.fx l x).2.2⟩, fun l o x e => f _ _ (h.fr l o x e) (h.fx l x).2.1, fun t' xs e => t _ _ (h.tp _ _ e)⟩
theorem Inv4.swept (h : Inv4 a H0 H Fx pA qA SA OA pB qB SB OB kp N m) (f : Fr (kp :: OA) H H') (g : Gr OA O' H) (n : ∀ b, b ∈ N' → b ∈ N ∨ H b = none ∨ b ∈ OA) (on : ∀ b, b ∈ O' → b ∉ N') (b : Both a H' pA qA S' O') (k : KeptAt H' kp N' m') : Inv4 a H0 H' Fx pA qA S' O' pB qB SB OB kp N' m' := by
  have t : Tups H H' := f.tups fun b z => by
    rcases List.mem_cons.mp z with rfl | z
    · exact h.K.dom h.K.kpN
    · exact h.A.dom z
  have bo : ∀ b, b ∈ OB → b ∉ kp :: OA := fun b x z => by
    rcases List.mem_cons.mp z with z | z
    · exact h.bn b x (z ▸ h.K.kpN)
    · exact h.ab b z x
  refine ⟨b, h.B.keep f t bo, k, fun b x y => gr_out g (fun z => h.ab b z y) ((h.B.dom y).elim fun o z => ⟨o, z.1⟩) x, on, fun b x y => ?_, fun l x => ?_, fun l o x e => ?_, fun t' xs e => t _ _ (h.tp _ _ e)⟩
  · rcases n b y with z | z | z
    · exact h.bn b x z
    · obtain ⟨o, ho, _⟩ := h.B.dom x
      rw [z] at ho; cases ho
    · exact h.ab b z x
  · obtain ⟨⟨o, e⟩, x1, x2, x3⟩ := h.fx l x
    have nf : l ∉ kp :: OA := fun z => by
      rcases List.mem_cons.mp z with z | z
      · exact x3 (z ▸ h.K.kpN)
      · exact x1 z
    refine ⟨⟨o, f _ _ e nf⟩, gr_out g x1 ⟨o, e⟩, x2, fun y => ?_⟩
    rcases n l y with z | z | z
    · exact x3 z
    · rw [e] at z; cases z
    · exact x1 z
  · obtain ⟨_, x1, _, x3⟩ := h.fx l x
    refine f _ _ (h.fr l o x e) fun z => ?_
    rcases List.mem_cons.mp z with z | z
    · exact x3 (z ▸ h.K.kpN)
    · exact x1 z
end
end
section
variable {P : Program} {w : World} {K : PySem.W.Frag} {mg : Str → Option Value} {base : Heap} {a : Ad}
/-! ### what a chest tells, as a reckoning -/
def ViewAt (H : Hp) (q : Addr) (S : Ch) (O : List Addr) : Prop := ∃ L, WdAt H q L ∧ WSem H L S ∧ O = ownW q L ∧ L.tl = []
theorem ViewAt.world {H : Hp} {q : Addr} {S : Ch} {O : List Addr} (h : ViewAt H q S O) : WorldAt H q S O := h.elim fun L z => ⟨L, z.1, z.2.1, z.2.2.1⟩
/-- slots as told so far -/
structure SlA (H0 H : Hp) (S : Ch) (A : AL) (i : Nat) : Prop where
  pr : Paired (fun e f => e.1 = f.1 ∧ Paired (SlotV H) e.2.2 f.2.sl) A (S.bs.take i)
  nd : (A.map (·.2.1)).Nodup
  at' : ∀ e ∈ A, H e.2.1 = some (.lst e.2.2) ∧ H0 e.2.1 = none
theorem SlA.same {H0 H H' : Hp} {S : Ch} {A : AL} {i : Nat} (h : SlA H0 H S A i) (s : Same H H') : SlA H0 H' S A i :=
  ⟨L2.Paired.mapP h.pr fun _ _ k => ⟨k.1, L2.Paired.mapP k.2 fun _ _ => SlotV.keep fun t xs e => s _ _ e⟩, h.nd, fun e m => ⟨s _ _ (h.at' e m).1, (h.at' e m).2⟩⟩
theorem SlA.setd {H0 H : Hp} {S : Ch} {A : AL} {i : Nat} {d : Addr} {kvs kvs' : List (Key × V)} (h : SlA H0 H S A i) (e : H d = some (.dK kvs)) : SlA H0 (upd H d (.dK kvs')) S A i := by
  have t : Tups H (upd H d (.dK kvs')) := fun b xs z => by rw [upd_ne (fun c => by rw [c, e] at z; cases z)]; exact z
  refine ⟨L2.Paired.mapP h.pr fun _ _ k => ⟨k.1, L2.Paired.mapP k.2 fun _ _ => SlotV.keep t⟩, h.nd, fun x m => ⟨?_, (h.at' x m).2⟩⟩
  rw [upd_ne (fun c => by have := (h.at' x m).1; rw [c, e] at this; cases this)]
  exact (h.at' x m).1
structure WlA (H0 H : Hp) (S : Ch) (W : AL) (i : Nat) : Prop where
  ks : W.map (·.1) = ((S.bs.take i).filter fun e => !e.2.will.isEmpty).map (·.1)
  pr : ∀ e ∈ W, ∃ x, (e.1, x) ∈ S.bs ∧ x.will ≠ [] ∧ Paired (DeedV H) e.2.2 x.will
  nd : (W.map (·.2.1)).Nodup
  at' : ∀ e ∈ W, H e.2.1 = some (.lst e.2.2) ∧ H0 e.2.1 = none ∧ e.2.2.length ≤ 9
theorem WlA.same {H0 H H' : Hp} {S : Ch} {A : AL} {i : Nat} (h : WlA H0 H S A i) (s : Same H H') : WlA H0 H' S A i :=
  ⟨h.ks, fun e m => (h.pr e m).elim fun x z => ⟨x, z.1, z.2.1, L2.Paired.mapP z.2.2 fun _ _ => DeedV.keep fun t xs e => s _ _ e⟩, h.nd, fun e m => ⟨s _ _ (h.at' e m).1, (h.at' e m).2⟩⟩
theorem WlA.setd {H0 H : Hp} {S : Ch} {A : AL} {i : Nat} {d : Addr} {kvs kvs' : List (Key × V)} (h : WlA H0 H S A i) (e : H d = some (.dK kvs)) : WlA H0 (upd H d (.dK kvs')) S A i := by
  have t : Tups H (upd H d (.dK kvs')) := fun b xs z => by rw [upd_ne (fun c => by rw [c, e] at z; cases z)]; exact z
  refine ⟨h.ks, fun x m => (h.pr x m).elim fun y z => ⟨y, z.1, z.2.1, L2.Paired.mapP z.2.2 fun _ _ => DeedV.keep t⟩, h.nd, fun x m => ⟨?_, (h.at' x m).2⟩⟩
  rw [upd_ne (fun c => by have := (h.at' x m).1; rw [c, e] at this; cases this)]
  exact (h.at' x m).1
theorem nd_snoc {α : Type} {l : List α} {x : α} (h : l.Nodup) (n : x ∉ l) : (l ++ [x]).Nodup := List.nodup_append.mpr ⟨h, by simp, fun y hy z hz e => n (by rw [← List.mem_singleton.mp hz, ← e]; exact hy)⟩
def spView (a : Ad) : Sp := fun vs H Q _ => ∃ (p : Addr) (S : Ch) (O : List Addr), vs = [.ref p] ∧ ChestAt a.Chest a.Box H p S O ∧ Good S ∧ WOk S ∧
  ∀ (q : Addr) (H' : Hp) (O' : List Addr), Same H H' → ViewAt H' q S O' → (∀ b, b ∈ O' → H b = none) → Q (.ref q) H'
theorem eqv_nil {ds : List PyData} : PyData.eqv (.list ds) (.list []) = ds.isEmpty := by
  cases ds with
  | nil => simp [PyData.eqv, PyData.eqvAll]
  | cons d ds => simp [PyData.eqv, PyData.eqvAll]
theorem ok_law_view (T : Txt a K mg) : FnOk P w K mg base (CN P w) 4 a.f_law_view a.fd_law_view ["_law_chest"] (spView a) := by
  refine okN T.F_law_view sc_law_view (fun vs H Q E h => ?_) (fun cdv A outer s H vs Q E hr h => ?_)
  · obtain ⟨p, S, O, rfl, _⟩ := h; rfl
  · obtain ⟨p, S, O, rfl, ⟨C, hC, hCS, rfl⟩, G, Wk, k⟩ := h
    have hu := hu_of hr
    have hob := hC.ob
    have zb := G.zb
    have lC := hCS.blen
    have kC := ckeys hCS
    have nin : ∀ {b : Addr} {H1 : Hp}, Same H H1 → H1 b = none → b ∉ own p C := fun s e m => by
      obtain ⟨o, ho, _⟩ := hC.dom m
      rw [s _ _ ho] at e; cases e
    have hr1 : Room 1 _ := hr.mono (by decide); have hr2 : Room 2 _ := hr.mono (by decide); have hr3 : Room 3 _ := hr.mono (by decide);
    refine ⟨_, (pss_cons (ps_set (i := 1) sc_law_view.nd rfl (Or.inl rfl) pe_dnewK)
      (pss_cons (ps_for PassesOwn.leaving rfl (pi_list (pe_meth0 (pv 0) T.cl_Chest T.m_Chest_boxes (ok_Chest_boxes T) hr1 T.b_Chest_boxes .nil pass0N)) (pg_name (i := 2) sc_law_view.nd rfl (Or.inr rfl))
      (pss_one (ps_dput hu (pv 1) (pv 2) (pe_lc (own := [("_law_slot", 7)]) (g := gName 7) (tt := tYes) (te := (tMeth a.Chest "told" (spTold a) [] E0 (tVar 0) (tCons (tVar 2) (tCons (tVar 7) tNil)))) (by rfl) sc_law_view.nd (pi_range1 (by rfl) T.no_range (pa_cons (pe_meth (pv 0) T.cl_Chest T.m_Chest_size (ok_Chest_size T) hr2 T.b_Chest_size .nil pass0N (pa_cons (pv 2) pa_nil)) pa_nil)) (blkOk_by (own := [("_law_slot", 7)]) (N := N_law_view) (sc := defScope s_law_view) (by decide +kernel)) (fun _ _ _ _ _ => (pg_name (i := 7) sc_law_view.nd rfl (Or.inl rfl))) (fun _ _ _ _ _ => pts_nil) (fun _ _ _ _ _ => (pe_meth (pv 0) T.cl_Chest T.m_Chest_told (ok_Chest_told T) hr3 T.b_Chest_told .nil pass0N (pa_cons (pv 2) (pa_cons (pv 7) pa_nil))))) rfl)))
      (pss_cons (ps_set (i := 3) sc_law_view.nd rfl (Or.inl rfl) pe_dnewK)
      (pss_cons (ps_for PassesOwn.leaving rfl (pi_list (pe_meth0 (pv 0) T.cl_Chest T.m_Chest_hands (ok_Chest_hands T) hr2 T.b_Chest_hands .nil pass0N)) (pg_name (i := 2) sc_law_view.nd rfl (Or.inr rfl))
      (pss_one (ps_dput hu (pv 3) (pv 2) pe_bl rfl)))
      (pss_cons (ps_set (i := 4) sc_law_view.nd rfl (Or.inl rfl) pe_dnewK)
      (pss_cons (ps_for PassesOwn.leaving rfl (pi_list (pe_meth0 (pv 0) T.cl_Chest T.m_Chest_pairs (ok_Chest_pairs T) hr1 T.b_Chest_pairs .nil pass0N)) (pg_name (i := 5) sc_law_view.nd rfl (Or.inl rfl))
      (pss_one (ps_dput hu (pv 4) (pe_ix ix_tup (pv 5) pe_int (fun _ _ => rfl)) (pe_slice (sl_tupK (K := K) rfl) (pv 5) (po_some pe_int) po_none) rfl)))
      (pss_cons (ps_set (i := 6) sc_law_view.nd rfl (Or.inl rfl) pe_dnewK)
      (pss_cons (ps_for PassesOwn.leaving rfl (pi_list (pe_meth0 (pv 0) T.cl_Chest T.m_Chest_boxes (ok_Chest_boxes T) hr1 T.b_Chest_boxes .nil pass0N)) (pg_name (i := 2) sc_law_view.nd rfl (Or.inr rfl))
      (pss_one (ps_if (pt_cmpR (op_neD hr.units) (pe_meth (pv 0) T.cl_Chest T.m_Chest_will (ok_Chest_will T) hr2 T.b_Chest_will .nil pass0N (pa_cons (pv 2) pa_nil)) (pe_lst pa_nil) (nomark _)) (pss_one (ps_dput hu (pv 6) (pv 2) (pe_meth (pv 0) T.cl_Chest T.m_Chest_will (ok_Chest_will T) hr2 T.b_Chest_will .nil pass0N (pa_cons (pv 2) pa_nil)) rfl)) pss_nil)))
      (pss_one (ps_ret (pe_lst (pa_cons (pv 1) (pa_cons (pv 3) (pa_cons (pv 4) (pa_cons (pv 6) pa_nil))))))))))))))), ?_⟩
    try dsimp only [cxOf]
    walk_at "gos"
    intro d0 hd0
    have n0 := Same.new (o := HO.dK []) hd0
    have e00 := upd_same (H := H) (a := d0) (o := HO.dK [])
    obtain ⟨H0, eH0⟩ : ∃ H0, upd H d0 (.dK []) = H0 := ⟨_, rfl⟩
    rw [eH0] at n0 e00 ⊢
    clear eH0
    have hob0 := n0 _ _ hob
    walk_at "gos"
    walk_at "m1"
    walk_at "gos"
    refine ⟨p, C, rfl, hC.same n0, fun r1 hr1 => ?_⟩
    rw [kC]
    have n1 := Same.new (o := HO.lst ((S.bs.map (·.1)).map V.int)) hr1
    have er1 := upd_same (H := H0) (a := r1) (o := HO.lst ((S.bs.map (·.1)).map V.int))
    have e01 := n1 _ _ e00
    obtain ⟨H1, eH1⟩ : ∃ H1, upd H0 r1 (.lst ((S.bs.map (·.1)).map V.int)) = H1 := ⟨_, rfl⟩
    rw [eH1] at n1 er1 e01 ⊢
    clear eH1
    have s01 := n0.trans n1
    have r1H : H r1 = none := free_same n0 hr1
    have d0r1 : d0 ≠ r1 := ne_of_none e00 hr1
    refine ⟨r1, rfl, ⟨_, SqL.of er1⟩, for_list (K := K) (a := r1) (xs := (S.bs.map (·.1)).map V.int) (fun i σ H2 => ∃ (v2 : Option V) (A : AL), σ = [some (.ref p), some (.ref d0), v2, none, none, none, none, none] ∧ Fr [d0] H1 H2 ∧ H2 d0 = some (.dK (kvA A)) ∧ SlA H1 H2 S A i)
      ⟨_, [], rfl, Fr.refl _ _, e01, ⟨.nil, List.nodup_nil, fun e m => (nomatch m)⟩⟩ (fun i σ H2 _ h => by obtain ⟨_, _, _, f, _⟩ := h; exact SqL.of (f _ _ er1 fun z => d0r1 (List.mem_singleton.mp z).symm)) ?_ ?_⟩
    · rintro i x σ H2 hx ⟨v2, A, rfl, f2, e2, hA⟩
      rw [List.map_map, List.getElem?_map] at hx
      obtain ⟨⟨b, y⟩, hb, rfl⟩ := Option.map_eq_some_iff.mp hx
      have i60 : i < 60 := Nat.lt_of_lt_of_le (List.getElem?_eq_some_iff.mp hb).1 zb
      have s02 : Same H H2 := fun c o e => f2 _ _ (s01 _ _ e) fun z => by rw [List.mem_singleton.mp z, hd0] at e; cases e
      have hC2 := hC.same s02
      have hob2 := hC2.ob
      have eyS : S.get b = some y := G.get (List.mem_of_getElem? hb)
      obtain ⟨bx, ebx⟩ : ∃ bx, C.B.lookup b = some bx := by
        cases e : C.B.lookup b with
        | none => rw [hCS.nn.mp e] at eyS; cases eyS
        | some bx => exact ⟨bx, rfl⟩
      obtain ⟨y', ey', py, _, _⟩ := hCS.ss ebx
      rw [eyS] at ey'; cases ey'
      have l9 := (hC.bx _ (lk_mem ebx)).sz.1
      have l9 : bx.vs.length ≤ 9 := l9
      have lA : A.length ≤ 60 := by
        have := hA.pr.length
        rw [List.length_take] at this; omega
      walk_at "gos"
      walk_at "m1"
      walk_at "gos"
      refine ⟨p, b, C, rfl, hC2, fun e => (by rw [ebx] at e; cases e), fun bx' e => ?_⟩
      rw [ebx] at e; cases e
      walk_at "gos"
      refine ⟨_, rfl, by omega, by omega, fun D hD => lc_range (lo := 0) (n := (bx.vs.length : Int).toNat) (fun j H3 => Same H2 H3 ∧ H3 D = some (.lst (bx.vs.take j))) ⟨Same.new hD, upd_same⟩ ?_ ?_⟩
      · rintro j H3 hj ⟨s3, d3⟩
        rw [Int.toNat_natCast] at hj
        have hC3 := hC2.same s3
        have hob3 := hC3.ob
        have ev : bx.vs[j]? = some bx.vs[j] := List.getElem?_eq_getElem hj
        walk_at "go"
        refine ⟨rfl, ?_⟩
        walk_at "gos"
        walk_at "m1"
        walk_at "gos"
        refine ⟨p, b, _, C, rfl, hC3, fun e => (by rw [ebx] at e; cases e), fun bx' e => ?_⟩
        rw [ebx] at e; cases e
        refine ⟨fun z => (by omega), fun z0 z1 v hv => ?_⟩
        have ej : (0 + (j : Int)).toNat = j := by omega
        rw [ej] at hv
        refine ⟨_, d3, small1000 (by rw [List.length_take]; omega), fun c o e => ?_, ?_⟩
        · rw [upd_ne (ne_of_none e hD)]; exact s3 _ _ e
        · rw [upd_same, take_snoc hv]
      rintro H3 ⟨s3, d3⟩
      rw [Int.toNat_natCast, List.take_length] at d3
      have hAkeys : A.map (·.1) = (S.bs.take i).map (·.1) := keys_eq (fun _ _ k => k.1) hA.pr
      have hnone : A.lookup b = none := by
        refine lk_none.mpr fun m => ?_
        rw [hAkeys] at m
        obtain ⟨⟨b', y'⟩, m1, e1⟩ := List.mem_map.mp m
        obtain ⟨j, hj, ej⟩ := List.mem_iff_getElem.mp m1
        rw [List.getElem_take] at ej
        rw [List.length_take] at hj
        obtain ⟨hi1, hi2⟩ := List.getElem?_eq_some_iff.mp hb
        have := List.pairwise_iff_getElem.mp G.kb j i (by rw [List.length_map]; omega) (by rw [List.length_map]; exact hi1) (by omega)
        rw [List.getElem_map, List.getElem_map, ej, hi2] at this
        have e1 : b' = b := e1
        have this : b' < b := this
        omega
      have Dd0 : D ≠ d0 := fun z => by rw [z, e2] at hD; cases hD
      walk_at "gos"
      refine ⟨_, _, rfl, DPut.k (k := Sum.inl b) (s3 _ _ e2) (small1000 (by rw [kvA_len]; omega)), ?_⟩
      rw [kvA_new (vs := bx.vs) hnone]
      have hA3 := (hA.same s3).setd (kvs' := kvA (A ++ [(b, D, bx.vs)])) (s3 _ _ e2)
      have t3 : Tups H (upd H3 d0 (.dK (kvA (A ++ [(b, D, bx.vs)])))) := fun u xs z => by
        rw [upd_ne (fun c => by rw [c, hd0] at z; cases z)]; exact s3 _ _ (s02 _ _ z)
      have eD3 : upd H3 d0 (.dK (kvA (A ++ [(b, D, bx.vs)]))) D = some (.lst bx.vs) := by rw [upd_ne Dd0]; exact d3
      refine ⟨_, _, rfl, (f2.trans (Fr.same s3)).trans (Fr.upd (List.mem_singleton.mpr rfl)), upd_same, ?_, ?_, fun e m => ?_⟩
      · rw [take_snoc hb]
        exact Paired.snoc hA3.pr ⟨rfl, L2.Paired.mapP py fun _ _ h => h.keep t3⟩
      · rw [List.map_append]
        refine nd_snoc hA.nd fun m => ?_
        obtain ⟨e, me, ee⟩ := List.mem_map.mp m
        have := (hA.at' e me).1
        rw [ee, hD] at this; cases this
      · rcases List.mem_append.mp m with m | m
        · exact hA3.at' e m
        · rw [List.mem_singleton.mp m]
          refine ⟨eD3, ?_⟩
          exact f2.free hD fun z => Dd0 (List.mem_singleton.mp z)
    rintro σ H2 ⟨v2, A, rfl, f2, e2, hA⟩
    have lbs : ((S.bs.map (·.1)).map V.int).length = S.bs.length := by rw [List.length_map, List.length_map]
    rw [lbs] at hA
    have hAp := hA.pr
    rw [List.take_length] at hAp
    have s02 : Same H H2 := fun c o e => f2 _ _ (s01 _ _ e) fun z => by rw [List.mem_singleton.mp z, hd0] at e; cases e
    have er12 := f2 _ _ er1 fun z => d0r1 (List.mem_singleton.mp z).symm
    walk_at "gos"
    intro d1 hd1
    have n3 := Same.new (o := HO.dK []) hd1
    have e13 := upd_same (H := H2) (a := d1) (o := HO.dK [])
    obtain ⟨H3, eH3⟩ : ∃ H3, upd H2 d1 (.dK []) = H3 := ⟨_, rfl⟩
    rw [eH3] at n3 e13 ⊢
    clear eH3
    have s03 := s02.trans n3
    have hC3 := hC.same s03
    have hob3 := hC3.ob
    have d1H : H d1 = none := free_same s02 hd1
    walk_at "gos"
    walk_at "m1"
    walk_at "gos"
    refine ⟨p, C, rfl, hC3, fun r2 H4 hr2 s4 e4 => ?_⟩
    have e14 := s4 _ _ e13
    have hh60 : ((C.B.filter fun e => e.2.hand).map (·.1)).length ≤ 60 := by
      rw [List.length_map]
      have := List.length_filter_le (fun e : Int × LBx => e.2.hand) C.B
      have := hC.sB
      omega
    have hnd : ((C.B.filter fun e => e.2.hand).map (·.1)).Nodup := (hC.kB.sublist (List.Sublist.map _ List.filter_sublist)).imp fun h => Int.ne_of_lt h
    have hsub : ∀ n, n ∈ (C.B.filter fun e => e.2.hand).map (·.1) → n ∈ S.bs.map (·.1) := fun n m => by
      rw [← kC]
      obtain ⟨e, me, rfl⟩ := List.mem_map.mp m
      exact List.mem_map.mpr ⟨e, (List.mem_filter.mp me).1, rfl⟩
    have hhand : ∀ n, n ∈ (C.B.filter fun e => e.2.hand).map (·.1) ↔ ∃ x, S.get n = some x ∧ x.hand = true := fun n => by
      constructor
      · intro m
        obtain ⟨⟨n', z⟩, hz, rfl⟩ := List.mem_map.mp m
        obtain ⟨hz1, hz2⟩ := List.mem_filter.mp hz
        obtain ⟨y, ey, _, h2, _⟩ := hCS.ss (lk_of_mem hC.kB hz1)
        exact ⟨y, ey, by rw [← h2]; exact hz2⟩
      · rintro ⟨y, ey, hy⟩
        cases e : C.B.lookup n with
        | none => rw [hCS.nn.mp e] at ey; cases ey
        | some b =>
          obtain ⟨z, ez, _, h2, _⟩ := hCS.ss e
          rw [ey] at ez; cases ez
          exact List.mem_map.mpr ⟨(n, b), List.mem_filter.mpr ⟨lk_mem e, by show b.hand = true; rw [h2]; exact hy⟩, rfl⟩
    generalize hHs : (C.B.filter fun e => e.2.hand).map (·.1) = hs at hh60 hnd hsub hhand e4
    have d1r2 : d1 ≠ r2 := ne_of_none e13 hr2
    refine ⟨r2, rfl, ⟨_, SqL.of e4⟩, for_list (K := K) (a := r2) (xs := hs.map V.int) (fun i σ H5 => ∃ v2 : Option V, σ = [some (.ref p), some (.ref d0), v2, some (.ref d1), none, none, none, none] ∧ Fr [d1] H4 H5 ∧ H5 d1 = some (.dK (kvH (hs.take i))))
      ⟨_, rfl, Fr.refl _ _, e14⟩ (fun i σ H5 _ h => by obtain ⟨_, _, f, _⟩ := h; exact SqL.of (f _ _ e4 fun z => d1r2 (List.mem_singleton.mp z).symm)) ?_ ?_⟩
    · rintro i x σ H5 hx ⟨v2, rfl, f5, e5⟩
      rw [List.getElem?_map] at hx
      obtain ⟨n, hn, rfl⟩ := Option.map_eq_some_iff.mp hx
      have i60 : i < 60 := Nat.lt_of_lt_of_le (List.getElem?_eq_some_iff.mp hn).1 hh60
      have hnew : n ∉ hs.take i := fun m => by
        obtain ⟨j, hj, ej⟩ := List.mem_iff_getElem.mp m
        rw [List.getElem_take] at ej
        rw [List.length_take] at hj
        obtain ⟨hi1, hi2⟩ := List.getElem?_eq_some_iff.mp hn
        have := List.getElem_inj (h₀ := (by omega : j < hs.length)) (h₁ := hi1) hnd |>.mp (ej.trans hi2.symm)
        omega
      walk_at "gos"
      refine ⟨_, _, rfl, DPut.k (k := Sum.inl n) e5 (small1000 (by rw [kvH_len, List.length_take]; omega)), ?_⟩
      rw [kvH_put, if_neg hnew, ← take_snoc hn]
      exact ⟨_, rfl, f5.trans (Fr.upd (List.mem_singleton.mpr rfl)), upd_same⟩
    rintro σ H5 ⟨v2, rfl, f5, e15⟩
    rw [List.length_map, List.take_length] at e15
    have f25 : ∀ b o, H2 b = some o → H5 b = some o := fun b o e => f5 _ _ (s4 _ _ (n3 _ _ e)) fun z => by rw [List.mem_singleton.mp z, hd1] at e; cases e
    have s05 : Same H H5 := fun b o e => f25 _ _ (s02 _ _ e)
    have hA5 : SlA H1 H5 S A S.bs.length := hA.same f25
    have e05 := f25 _ _ e2
    have er15 := f25 _ _ er12
    walk_at "gos"
    intro d2 hd2
    have n6 := Same.new (o := HO.dK []) hd2
    have e26 := upd_same (H := H5) (a := d2) (o := HO.dK [])
    obtain ⟨H6, eH6⟩ : ∃ H6, upd H5 d2 (.dK []) = H6 := ⟨_, rfl⟩
    rw [eH6] at n6 e26 ⊢
    clear eH6
    have s06 := s05.trans n6
    have hC6 := hC.same s06
    have hob6 := hC6.ob
    have d2H : H d2 = none := free_same s05 hd2
    walk_at "gos"
    walk_at "m1"
    walk_at "gos"
    refine ⟨p, C, S.ps, rfl, hC6, (hCS.keep fun t xs e => s06 _ _ e).ps, fun r3 H7 ws hr3 s7 e7 pw7 => ?_⟩
    have zp := G.zp
    have e27 := s7 _ _ e26
    have d2r3 : d2 ≠ r3 := ne_of_none e26 hr3
    have lws := pw7.length
    refine ⟨r3, rfl, ⟨_, SqL.of e7⟩, for_list (K := K) (a := r3) (xs := ws) (fun i σ H8 => ∃ (v2 v5 : Option V) (R : List (Int × Addr)), σ = [some (.ref p), some (.ref d0), v2, some (.ref d1), some (.ref d2), v5, none, none] ∧ Fr [d2] H7 H8 ∧ H8 d2 = some (.dK (kvR R)) ∧ Paired (fun e f => e.1 = f.1 ∧ PairV H8 e.2 f.2) R (S.ps.take i))
      ⟨_, _, [], rfl, Fr.refl _ _, e27, .nil⟩ (fun i σ H8 _ h => by obtain ⟨_, _, _, _, f, _⟩ := h; exact SqL.of (f _ _ e7 fun z => d2r3 (List.mem_singleton.mp z).symm)) ?_ ?_⟩
    · rintro i x σ H8 hx ⟨v2, v5, R, rfl, f8, e8, hR⟩
      obtain ⟨⟨n, x1, x2, x3⟩, hps, t, rfl, et⟩ := paired_get pw7 hx
      have i60 : i < 60 := by have := (List.getElem?_eq_some_iff.mp hx).1; omega
      have t78 : Tups H7 H8 := f8.tups fun b m => by rw [List.mem_singleton.mp m]; exact ⟨_, e27, fun _ z => nomatch z⟩
      have et8 := t78 _ _ et
      have lR : R.length ≤ 60 := by
        have := hR.length
        rw [List.length_take] at this; omega
      have hRkeys : R.map (·.1) = (S.ps.take i).map (·.1) := keys_eq (fun _ _ k => k.1) hR
      have hlt : ∀ e ∈ R, e.1 < n := fun e me => by
        have : e.1 ∈ (S.ps.take i).map (·.1) := by rw [← hRkeys]; exact List.mem_map.mpr ⟨e, me, rfl⟩
        obtain ⟨⟨n', y'⟩, m1, e1⟩ := List.mem_map.mp this
        obtain ⟨j, hj, ej⟩ := List.mem_iff_getElem.mp m1
        rw [List.getElem_take] at ej
        rw [List.length_take] at hj
        obtain ⟨hi1, hi2⟩ := List.getElem?_eq_some_iff.mp hps
        have := List.pairwise_iff_getElem.mp G.kp j i (by rw [List.length_map]; omega) (by rw [List.length_map]; exact hi1) (by omega)
        rw [List.getElem_map, List.getElem_map, ej, hi2] at this
        have e1 : n' = e.1 := e1
        rw [← e1]; exact this
      walk_at "gos"
      refine ⟨1, rfl, ?_⟩
      walk_at "gos"
      refine ⟨t, _, rfl, SqT.of et8, (fun z => absurd z.1 (by show ¬ (1 = 0); decide)), fun v hv => ?_⟩
      rw [show cutV [V.int (n, x1, x2, x3).1, V.int (n, x1, x2, x3).2.1, V.int (n, x1, x2, x3).2.2.1, V.int (n, x1, x2, x3).2.2.2] (some 1) none = [V.int x1, .int x2, .int x3] from rfl]
      have n9 := Same.new (o := HO.tup [.int x1, .int x2, .int x3]) hv
      have et9 := n9 _ _ et8
      walk_at "gos"
      refine ⟨_, _, rfl, DPut.k (k := Sum.inl n) (n9 _ _ e8) (small1000 (by rw [kvR_len]; omega)), ?_⟩
      rw [kvR_put hlt]
      have vd2 : v ≠ d2 := fun z => by rw [z, e8] at hv; cases hv
      have t9 : Tups H8 (upd (upd H8 v (.tup [.int x1, .int x2, .int x3])) d2 (.dK (kvR (R ++ [(n, v)])))) := fun u xs z => by
        rw [upd_ne (fun c => by rw [c, e8] at z; cases z)]; exact n9 _ _ z
      refine ⟨_, _, R ++ [(n, v)], rfl, (f8.trans (Fr.same n9)).trans (Fr.upd (List.mem_singleton.mpr rfl)), upd_same, ?_⟩
      rw [take_snoc hps]
      exact Paired.snoc (L2.Paired.mapP hR fun _ _ z => ⟨z.1, t9 _ _ z.2⟩) ⟨rfl, by show upd _ _ _ v = _; rw [upd_ne vd2]; exact upd_same⟩
    rintro σ H8 ⟨v2, v5, R, rfl, f8, e28, hR⟩
    rw [lws, List.take_length] at hR
    have f58 : ∀ b o, H5 b = some o → H8 b = some o := fun b o e => f8 _ _ (s7 _ _ (n6 _ _ e)) fun z => by rw [List.mem_singleton.mp z, hd2] at e; cases e
    have s08 : Same H H8 := fun b o e => f58 _ _ (s05 _ _ e)
    have hA8 := hA5.same f58
    have e08 := f58 _ _ e05
    have e18 := f58 _ _ e15
    have er18 := f58 _ _ er15
    walk_at "gos"
    intro d3 hd3
    have n9 := Same.new (o := HO.dK []) hd3
    have e39 := upd_same (H := H8) (a := d3) (o := HO.dK [])
    obtain ⟨H9, eH9⟩ : ∃ H9, upd H8 d3 (.dK []) = H9 := ⟨_, rfl⟩
    rw [eH9] at n9 e39 ⊢
    clear eH9
    have s09 := s08.trans n9
    have hC9 := hC.same s09
    have hob9 := hC9.ob
    have d3H : H d3 = none := free_same s08 hd3
    walk_at "gos"
    walk_at "m1"
    walk_at "gos"
    refine ⟨p, C, rfl, hC9, fun r4 hr4 => ?_⟩
    rw [kC]
    have n10 := Same.new (o := HO.lst ((S.bs.map (·.1)).map V.int)) hr4
    have er4 := upd_same (H := H9) (a := r4) (o := HO.lst ((S.bs.map (·.1)).map V.int))
    have e310 := n10 _ _ e39
    have d3r4 : d3 ≠ r4 := ne_of_none e39 hr4
    obtain ⟨H10, eH10⟩ : ∃ H10, upd H9 r4 (.lst ((S.bs.map (·.1)).map V.int)) = H10 := ⟨_, rfl⟩
    rw [eH10] at n10 er4 e310 ⊢
    clear eH10
    have s10 := s09.trans n10
    refine ⟨r4, rfl, ⟨_, SqL.of er4⟩, for_list (K := K) (a := r4) (xs := (S.bs.map (·.1)).map V.int) (fun i σ H11 => ∃ (v2 : Option V) (W : AL), σ = [some (.ref p), some (.ref d0), v2, some (.ref d1), some (.ref d2), v5, some (.ref d3), none] ∧ Fr [d3] H10 H11 ∧ H11 d3 = some (.dK (kvA W)) ∧ WlA H10 H11 S W i)
      ⟨_, [], rfl, Fr.refl _ _, e310, ⟨rfl, fun e m => (nomatch m), List.nodup_nil, fun e m => (nomatch m)⟩⟩ (fun i σ H11 _ h => by obtain ⟨_, _, _, f, _⟩ := h; exact SqL.of (f _ _ er4 fun z => d3r4 (List.mem_singleton.mp z).symm)) ?_ ?_⟩
    · rintro i x σ H11 hx ⟨v2, W, rfl, f11, e11, hW⟩
      rw [List.map_map, List.getElem?_map] at hx
      obtain ⟨⟨b, y⟩, hb, rfl⟩ := Option.map_eq_some_iff.mp hx
      have i60 : i < 60 := Nat.lt_of_lt_of_le (List.getElem?_eq_some_iff.mp hb).1 zb
      have s011 : Same H H11 := fun c o e => f11 _ _ (s10 _ _ e) fun z => by rw [List.mem_singleton.mp z, d3H] at e; cases e
      have hC11 := hC.same s011
      have hob11 := hC11.ob
      have hmem := List.mem_of_getElem? hb
      have eyS : S.get b = some y := G.get hmem
      obtain ⟨bx, ebx⟩ : ∃ bx, C.B.lookup b = some bx := by
        cases e : C.B.lookup b with
        | none => rw [hCS.nn.mp e] at eyS; cases eyS
        | some bx => exact ⟨bx, rfl⟩
      obtain ⟨y', ey', _, _, pd⟩ := hCS.ss ebx
      rw [eyS] at ey'; cases ey'
      have w9 := (hC.bx _ (lk_mem ebx)).sz.2
      have w9 : bx.ds.length ≤ 9 := w9
      have lpd := pd.length
      walk_at "gos"
      walk_at "m1"
      walk_at "gos"
      refine ⟨p, b, C, rfl, hC11, fun e => (by rw [ebx] at e; cases e), fun bx' e u hu1 => ?_⟩
      rw [ebx] at e; cases e
      have n12 := Same.new (o := HO.lst bx.ds) hu1
      have eu12 := upd_same (H := H11) (a := u) (o := HO.lst bx.ds)
      obtain ⟨H12, eH12⟩ : ∃ H12, upd H11 u (.lst bx.ds) = H12 := ⟨_, rfl⟩
      rw [eH12] at n12 eu12 ⊢
      clear eH12
      walk_at "gos"
      refine ⟨by decide, fun z hz => ?_⟩
      have n13 := Same.new (o := HO.lst []) hz
      have ez13 := upd_same (H := H12) (a := z) (o := HO.lst [])
      obtain ⟨H13, eH13⟩ : ∃ H13, upd H12 z (.lst []) = H13 := ⟨_, rfl⟩
      rw [eH13] at n13 ez13 ⊢
      clear eH13
      have s1113 := n12.trans n13
      have s013 := s011.trans s1113
      have pd13 : Paired (DeedV H13) bx.ds y.will := L2.Paired.mapP pd fun _ _ h => h.keep fun t xs e => s013 _ _ e
      have c13 := c2_deeds pd13
      walk_at "gos"
      refine g_neD (d := .list (y.will.map Deed.data)) (e := .list []) (.lst (SqL.of (n13 _ _ eu12)) (dp_all (fun _ _ => C2.dp) c13)) (.lst (SqL.of ez13) .nil) ((Lay.lst (n := 2) (paired_right_all (G := Lay 2) (fun _ _ => C2.lay) c13)).shaped (by decide)) (by decide) ?_
      rw [eqv_nil]
      have hW13 := hW.same s1113
      have e13' := s1113 _ _ e11
      walk_at "gos"
      refine g_iteNB (fun c => ?_) (fun c => ?_)
      · have wne : y.will ≠ [] := fun z => by rw [z] at c; cases c
        have hC13 := hC.same s013
        have hob13 := hC13.ob
        have lW : W.length ≤ 60 := by
          have := congrArg List.length hW.ks
          rw [List.length_map, List.length_map] at this
          have := List.length_filter_le (fun e : Int × Bx => !e.2.will.isEmpty) (S.bs.take i)
          rw [List.length_take] at this
          omega
        have hnone : W.lookup b = none := by
          refine lk_none.mpr fun m => ?_
          rw [hW.ks] at m
          obtain ⟨⟨b', y'⟩, m1, e1⟩ := List.mem_map.mp m
          obtain ⟨j, hj, ej⟩ := List.mem_iff_getElem.mp (List.mem_filter.mp m1).1
          rw [List.getElem_take] at ej
          rw [List.length_take] at hj
          obtain ⟨hi1, hi2⟩ := List.getElem?_eq_some_iff.mp hb
          have := List.pairwise_iff_getElem.mp G.kb j i (by rw [List.length_map]; omega) (by rw [List.length_map]; exact hi1) (by omega)
          rw [List.getElem_map, List.getElem_map, ej, hi2] at this
          have e1 : b' = b := e1
          have this : b' < b := this
          omega
        walk_at "gos"
        walk_at "m1"
        walk_at "gos"
        refine ⟨p, b, C, rfl, hC13, fun e => (by rw [ebx] at e; cases e), fun bx' e D hD => ?_⟩
        rw [ebx] at e; cases e
        have n14 := Same.new (o := HO.lst bx.ds) hD
        have Dd3 : D ≠ d3 := fun z => by rw [z, e13'] at hD; cases hD
        walk_at "gos"
        refine ⟨_, _, rfl, DPut.k (k := Sum.inl b) (n14 _ _ e13') (small1000 (by rw [kvA_len]; omega)), ?_⟩
        rw [kvA_new (vs := bx.ds) hnone]
        have hW14 := (hW13.same n14).setd (kvs' := kvA (W ++ [(b, D, bx.ds)])) (n14 _ _ e13')
        have t14 : Tups H13 (upd (upd H13 D (.lst bx.ds)) d3 (.dK (kvA (W ++ [(b, D, bx.ds)])))) := fun u xs z => by
          rw [upd_ne (fun c => by rw [c, e13'] at z; cases z)]; exact n14 _ _ z
        refine ⟨_, W ++ [(b, D, bx.ds)], rfl, ((f11.trans (Fr.same s1113)).trans (Fr.same n14)).trans (Fr.upd (List.mem_singleton.mpr rfl)), upd_same, ?_, fun e m => ?_, ?_, fun e m => ?_⟩
        · rw [take_snoc hb, List.filter_append, List.map_append, List.map_append, hW.ks, show ([(b, y)].filter fun e : Int × Bx => !e.2.will.isEmpty) = [(b, y)] by rw [List.filter_cons, if_pos (by rw [show ((b, y) : Int × Bx).2.will.isEmpty = false by cases q : y.will with | nil => exact absurd q wne | cons _ _ => simp [q]]; rfl)]; rfl]
          rfl
        · rcases List.mem_append.mp m with m | m
          · exact hW14.pr e m
          · rw [List.mem_singleton.mp m]
            exact ⟨y, hmem, wne, L2.Paired.mapP pd13 fun _ _ h => h.keep t14⟩
        · rw [List.map_append]
          refine nd_snoc hW.nd fun m => ?_
          obtain ⟨e, me, ee⟩ := List.mem_map.mp m
          have := (hW13.at' e me).1
          rw [ee, hD] at this; cases this
        · rcases List.mem_append.mp m with m | m
          · exact hW14.at' e m
          · rw [List.mem_singleton.mp m]
            refine ⟨by show upd _ _ _ D = _; rw [upd_ne Dd3]; exact upd_same, ?_, w9⟩
            exact f11.free (free_same s1113 hD) fun z => Dd3 (List.mem_singleton.mp z)
      · walk_at "gos"
        have we : y.will = [] := by
          have : (y.will.map Deed.data).isEmpty = true := c
          cases q : y.will with
          | nil => rfl
          | cons _ _ => rw [q] at this; cases this
        refine ⟨_, W, rfl, f11.trans (Fr.same s1113), e13', ?_, hW13.pr, hW13.nd, hW13.at'⟩
        rw [take_snoc hb, List.filter_append, show ([(b, y)].filter fun e : Int × Bx => !e.2.will.isEmpty) = [] by rw [List.filter_cons, if_neg (by rw [show ((b, y) : Int × Bx).2.will = [] from we]; decide)]; rfl, List.append_nil]
        exact hW.ks
    rintro σ H11 ⟨v2, W, rfl, f11, e311, hW⟩
    rw [lbs] at hW
    have hWk := hW.ks
    rw [List.take_length] at hWk
    have f811 : ∀ b o, H8 b = some o → H11 b = some o := fun b o e => f11 _ _ (n10 _ _ (n9 _ _ e)) fun z => by rw [List.mem_singleton.mp z, hd3] at e; cases e
    have s011 : Same H H11 := fun b o e => f811 _ _ (s08 _ _ e)
    have hA11 := hA8.same f811
    have hAp11 := hA11.pr
    rw [List.take_length] at hAp11
    walk_at "gos"
    refine ⟨by show 4 ≤ sizeLine; decide, fun q hq => ?_⟩
    have n12 := Same.new (o := HO.lst [.ref d0, .ref d1, .ref d2, .ref d3]) hq
    have eA : A.map (·.1) = S.bs.map (·.1) := keys_eq (fun _ _ k => k.1) hAp
    have eR : R.map (·.1) = S.ps.map (·.1) := keys_eq (fun _ _ k => k.1) hR
    have eWsub : (W.map (·.1)).Sublist (S.bs.map (·.1)) := by rw [hWk]; exact List.filter_sublist.map _
    have x0 := f811 _ _ e08
    have x1 := f811 _ _ e18
    have x2 := f811 _ _ e28
    have xr := f811 _ _ er18
    -- what is new when
    have dA : ∀ e ∈ A, H5 e.2.1 = some (.lst e.2.2) ∧ H8 e.2.1 = some (.lst e.2.2) ∧ H11 e.2.1 = some (.lst e.2.2) ∧ H2 e.2.1 = some (.lst e.2.2) := fun e m => ⟨(hA5.at' e m).1, (hA8.at' e m).1, (hA11.at' e m).1, (hA.at' e m).1⟩
    have nAd0 : ∀ e ∈ A, e.2.1 ≠ d0 := fun e m z => by have := (dA e m).2.2.1; rw [z, x0] at this; cases this
    have nAr : ∀ e ∈ A, e.2.1 ≠ r1 := fun e m z => by have := (hA.at' e m).2; rw [z, er1] at this; cases this
    have nAd1 : ∀ e ∈ A, e.2.1 ≠ d1 := fun e m z => by have := (dA e m).2.2.1; rw [z, x1] at this; cases this
    have nAd2 : ∀ e ∈ A, e.2.1 ≠ d2 := fun e m z => by have := (dA e m).2.2.1; rw [z, x2] at this; cases this
    have nAd3 : ∀ e ∈ A, e.2.1 ≠ d3 := fun e m z => by have := (dA e m).2.2.1; rw [z, e311] at this; cases this
    have dW : ∀ e ∈ W, H11 e.2.1 = some (.lst e.2.2) ∧ H10 e.2.1 = none := fun e m => ⟨(hW.at' e m).1, (hW.at' e m).2.1⟩
    have n810 : ∀ b o, H8 b = some o → H10 b = some o := fun b o e => n10 _ _ (n9 _ _ e)
    have nWx : ∀ e ∈ W, ∀ c o, H8 c = some o → e.2.1 ≠ c := fun e m c o h z => by have := (dW e m).2; rw [z, n810 _ _ h] at this; cases this
    have nWd3 : ∀ e ∈ W, e.2.1 ≠ d3 := fun e m z => by have := (dW e m).1; rw [z, e311] at this; cases this
    have qx : ∀ c o, H11 c = some o → q ≠ c := fun c o h z => by rw [z, h] at hq; cases hq
    have d01 : d0 ≠ d1 := ne_of_none e2 hd1
    have d02 : d0 ≠ d2 := ne_of_none e05 hd2
    have d03 : d0 ≠ d3 := ne_of_none e08 hd3
    have d12 : d1 ≠ d2 := ne_of_none e15 hd2
    have d13 : d1 ≠ d3 := ne_of_none e18 hd3
    have d23 : d2 ≠ d3 := ne_of_none e28 hd3
    have r1d1 : r1 ≠ d1 := ne_of_none er12 hd1
    have r1d2 : r1 ≠ d2 := ne_of_none er15 hd2
    have r1d3 : r1 ≠ d3 := ne_of_none er18 hd3
    have t12 : Tups H11 (upd H11 q (.lst [.ref d0, .ref d1, .ref d2, .ref d3])) := fun u xs z => n12 _ _ z
    have wsem : ∀ H', Same H11 H' → WSem H' ⟨d0, d1, d2, d3, r1, C.nb, C.np, A, hs, R, W, [], (S.bs.map (·.1)).map V.int⟩ S := fun H' sx => by
      have tx : Tups H11 H' := fun u xs z => sx _ _ z
      refine ⟨hCS.nb, hCS.np, L2.Paired.mapP hAp11 fun _ _ z => ⟨z.1, L2.Paired.mapP z.2 fun _ _ => SlotV.keep tx⟩, L2.Paired.mapP hR fun _ _ z => ⟨z.1, sx _ _ (f811 _ _ z.2)⟩, hhand, fun n x e1 e2 => ?_, fun n l e1 => ?_⟩
      · by_cases c : x.will = []
        · exact c
        · exfalso
          refine lk_none.mp (show W.lookup n = none from e1) ?_
          rw [hWk]
          refine List.mem_map.mpr ⟨(n, x), List.mem_filter.mpr ⟨lk_mem e2, ?_⟩, rfl⟩
          show (!x.will.isEmpty) = true
          cases q : x.will with
          | nil => exact absurd q c
          | cons _ _ => rfl
      · obtain ⟨x, m1, m2, m3⟩ := hW.pr _ (lk_mem (show W.lookup n = some l from e1))
        exact ⟨x, G.get m1, m2, L2.Paired.mapP m3 fun _ _ => DeedV.keep tx⟩
    have fin : ∀ H', Same H11 H' → H' q = some (.lst [.ref d0, .ref d1, .ref d2, .ref d3]) → WdAt H' q ⟨d0, d1, d2, d3, r1, C.nb, C.np, A, hs, R, W, [], (S.bs.map (·.1)).map V.int⟩ := fun H' sx eq => by
      refine ⟨eq, sx _ _ x0, sx _ _ x1, sx _ _ x2, sx _ _ e311, sx _ _ xr, fun e m => sx _ _ (dA e m).2.2.1, fun e m => sx _ _ (dW e m).1, ?_, by rw [eA]; exact G.kb, hnd, by rw [eR]; exact G.kp, (G.kb.sublist eWsub).imp fun h => Int.ne_of_lt h, fun e m => ?_, fun e m => ?_, fun n m => by rw [eA]; exact hsub n m, fun e m => ?_, ⟨?_, fun e m => ?_⟩, ?_, fun e m => (hW.at' e m).2.2, ?_⟩
      · unfold ownW
        refine List.nodup_append.mpr ⟨?_, List.nodup_append.mpr ⟨hA.nd, hW.nd, fun x hx y hy e => ?_⟩, fun x hx y hy e => ?_⟩
        · simp only [List.nodup_cons, List.mem_cons, List.not_mem_nil, or_false, not_or, not_false_eq_true, List.nodup_nil, and_true]
          exact ⟨⟨qx _ _ x0, qx _ _ x1, qx _ _ x2, qx _ _ e311, qx _ _ xr⟩, ⟨d01, d02, d03, d0r1⟩, ⟨d12, d13, r1d1.symm⟩, ⟨d23, r1d2.symm⟩, r1d3.symm⟩
        · obtain ⟨ea, ma, rfl⟩ := List.mem_map.mp hx
          obtain ⟨ew, mw, rfl⟩ := List.mem_map.mp hy
          exact nWx ew mw _ _ (dA ea ma).2.1 e.symm
        · rcases List.mem_append.mp hy with hy | hy
          · obtain ⟨ea, ma, rfl⟩ := List.mem_map.mp hy
            simp only [List.mem_cons, List.not_mem_nil, or_false] at hx
            rcases hx with h | h | h | h | h | h
            · exact qx _ _ (dA ea ma).2.2.1 (h ▸ e)
            · exact nAd0 ea ma (by rw [← e, h])
            · exact nAd1 ea ma (by rw [← e, h])
            · exact nAd2 ea ma (by rw [← e, h])
            · exact nAd3 ea ma (by rw [← e, h])
            · exact nAr ea ma (by rw [← e, h])
          · obtain ⟨ew, mw, rfl⟩ := List.mem_map.mp hy
            simp only [List.mem_cons, List.not_mem_nil, or_false] at hx
            rcases hx with h | h | h | h | h | h
            · exact qx _ _ (dW ew mw).1 (h ▸ e)
            · exact nWx ew mw _ _ e08 (by rw [← e, h])
            · exact nWx ew mw _ _ e18 (by rw [← e, h])
            · exact nWx ew mw _ _ e28 (by rw [← e, h])
            · exact nWd3 ew mw (by rw [← e, h])
            · exact nWx ew mw _ _ er18 (by rw [← e, h])
      · have : e.1 ∈ S.bs.map (·.1) := by rw [← eA]; exact List.mem_map.mpr ⟨e, m, rfl⟩
        obtain ⟨f, mf, ef⟩ := List.mem_map.mp this
        have := G.lb f mf
        rw [← ef]; show 0 ≤ f.1 ∧ f.1 < C.nb; rw [hCS.nb]; exact this
      · have : e.1 ∈ S.ps.map (·.1) := by rw [← eR]; exact List.mem_map.mpr ⟨e, m, rfl⟩
        obtain ⟨f, mf, ef⟩ := List.mem_map.mp this
        have := G.lp f mf
        rw [← ef]; show 0 ≤ f.1 ∧ f.1 < C.np; rw [hCS.np]; exact this
      · rw [eA]; exact eWsub.subset (List.mem_map.mpr ⟨e, m, rfl⟩)
      · show A.length ≤ 60
        have := congrArg List.length eA
        rw [List.length_map, List.length_map] at this; omega
      · obtain ⟨i, hi, ei⟩ := List.mem_iff_getElem.mp m
        obtain ⟨f, hf, h1, h2⟩ := paired_get hAp (i := i) (x := e) (by rw [← ei]; exact List.getElem?_eq_getElem hi)
        have := G.zs f (List.mem_of_getElem? hf)
        rw [h2.length]; exact this
      · show R.length ≤ 60
        have := congrArg List.length eR
        rw [List.length_map, List.length_map] at this; omega
      · show 0 ≤ C.nb ∧ 0 ≤ C.np
        rw [hCS.nb, hCS.np]; exact G.nn
    refine k q _ _ (s011.trans n12) ⟨_, fin _ n12 upd_same, wsem _ n12, rfl, rfl⟩ fun b m => ?_
    have back : ∀ {c : Addr} {H' : Hp}, Same H H' → H' c = none → H c = none := fun s e => free_same s e
    rcases ownW_mem.mp m with h | h | h | h | h | h | ⟨e, me, h⟩ | ⟨e, me, h⟩
    · rw [h]; exact back s011 hq
    · rw [h]; exact hd0
    · rw [h]; exact d1H
    · rw [h]; exact d2H
    · rw [h]; exact d3H
    · rw [h]; exact r1H
    · rw [h]; exact back s01 (hA.at' e me).2
    · rw [h]; exact back s10 (dW e me).2
end
section
variable {P : Program} {w : World} {K : PySem.W.Frag} {mg : Str → Option Value} {base : Heap} {a : Ad}
/-! ### one chest and what stays -/
structure Inv1 (a : Ad) (H0 H : Hp) (Fx : Addr → Prop) (p : Addr) (S : Ch) (O : List Addr) : Prop where
  C : ChestAt a.Chest a.Box H p S O
  fx : ∀ l, Fx l → (∃ o, H l = some o) ∧ l ∉ O
  fr : ∀ l o, Fx l → H0 l = some o → H l = some o
  tp : Tups H0 H
section
variable {H0 H H' : Hp} {Fx : Addr → Prop} {p : Addr} {S S' : Ch} {O O' : List Addr}
theorem Inv1.same (h : Inv1 a H0 H Fx p S O) (s : Same H H') : Inv1 a H0 H' Fx p S O :=
  ⟨h.C.same s, fun l x => ⟨(h.fx l x).1.elim fun o e => ⟨o, s _ _ e⟩, (h.fx l x).2⟩, fun l o x e => s _ _ (h.fr l o x e), fun t xs e => s _ _ (h.tp _ _ e)⟩
theorem Inv1.step (h : Inv1 a H0 H Fx p S O) (f : Fr O H H') (g : Gr O O' H) (c : ChestAt a.Chest a.Box H' p S' O') : Inv1 a H0 H' Fx p S' O' := by
  have t : Tups H H' := f.tups fun b z => h.C.dom z
  exact ⟨c, fun l x => ⟨(h.fx l x).1.elim fun o e => ⟨o, f _ _ e (h.fx l x).2⟩, gr_out g (h.fx l x).2 (h.fx l x).1⟩, fun l o x e => f _ _ (h.fr l o x e) (h.fx l x).2, fun t' xs e => t _ _ (h.tp _ _ e)⟩
end
theorem view5 {H H' : Hp} {q q2 cm : Addr} {L : LWd} {S : Ch} {x : V} (hW : WdAt H q L) (hS : WSem H L S) (s : Same H H') (ecm : H cm = some (.lst [.int S.nb, x])) (nc : cm ∉ ownW q L) (n2 : H q2 = none) (e2 : H' q2 = some (.lst [.ref L.d0, .ref L.d1, .ref L.d2, .ref L.d3, .ref cm])) :
    World5 H' q2 S (ownW q2 { L with l4 := cm, tl := [.ref cm], o4 := [.int S.nb, x] }) := by
  have t : Tups H H' := fun u xs z => s _ _ z
  have hs := hS.keep t
  have inO : ∀ {c : Addr}, c ∈ ownW q L → q2 ≠ c := fun {c} m z => by
    obtain ⟨o, ho, _⟩ := hW.dom m
    rw [← z, n2] at ho; cases ho
  have cmO : ∀ {c : Addr}, c ∈ ownW q L → c ≠ cm := fun {c} m z => nc (z ▸ m)
  have N := hW.ne
  have ncm : q2 ≠ cm := fun z => by rw [← z, n2] at ecm; cases ecm
  have m0 : L.d0 ∈ ownW q L := ownW_mem.mpr (.inr (.inl rfl))
  have m1 : L.d1 ∈ ownW q L := ownW_mem.mpr (.inr (.inr (.inl rfl)))
  have m2 : L.d2 ∈ ownW q L := ownW_mem.mpr (.inr (.inr (.inr (.inl rfl))))
  have m3 : L.d3 ∈ ownW q L := ownW_mem.mpr (.inr (.inr (.inr (.inr (.inl rfl)))))
  have mr : ∀ c, c ∈ L.A.map (·.2.1) ++ L.W.map (·.2.1) → c ∈ ownW q L := fun c m => List.mem_append_right _ m
  refine ⟨{ L with l4 := cm, tl := [.ref cm], o4 := [.int S.nb, x] }, ⟨e2, s _ _ hW.e0, s _ _ hW.e1, s _ _ hW.e2, s _ _ hW.e3, s _ _ ecm, fun e he => s _ _ (hW.sA e he), fun e he => s _ _ (hW.sW e he), ?_, hW.kA, hW.kh, hW.kR, hW.kW, hW.lA, hW.lR, hW.hA, hW.WA, hW.zA, hW.zR, hW.zW, hW.nn⟩, ⟨hs.nb, hs.np, hs.bs, hs.ps, hs.hs, hs.w0, hs.w1⟩, rfl, rfl, x, ?_⟩
  · unfold ownW
    refine List.nodup_append.mpr ⟨?_, N.nd, fun x hx y hy e => ?_⟩
    · simp only [List.nodup_cons, List.mem_cons, List.not_mem_nil, or_false, not_or, not_false_eq_true, List.nodup_nil, and_true]
      exact ⟨⟨inO m0, inO m1, inO m2, inO m3, ncm⟩, ⟨N.n01, N.n02, N.n03, cmO m0⟩, ⟨N.n12, N.n13, cmO m1⟩, ⟨N.n23, cmO m2⟩, cmO m3⟩
    · obtain ⟨a1, a2, a3, a4, a5, a6⟩ := N.a y hy
      simp only [List.mem_cons, List.not_mem_nil, or_false] at hx
      rcases hx with h | h | h | h | h | h
      · exact inO (mr y hy) (by rw [← h, e])
      · exact a2 (by rw [← h, e])
      · exact a3 (by rw [← h, e])
      · exact a4 (by rw [← h, e])
      · exact a5 (by rw [← h, e])
      · exact cmO (mr y hy) (by rw [← h, e])
  · show ([.int S.nb, x] : List V) = [.int L.nb, x]
    rw [hS.nb]
theorem step_nb {S : Ch} {d : LD} (ok : (S.step d).1 = "") : (S.step d).2.2.nb = S.nb + (match d with | .make _ => 1 | _ => 0) := by
  cases d with
  | make n =>
    rw [st_make] at ok ⊢
    by_cases c : n < 0 ∨ 9 < n
    · rw [if_pos c] at ok; exact absurd (show ("slot" : Str) = "" from ok) (by decide +kernel)
    · rw [if_neg c] at ok ⊢
      by_cases c2 : S.bs.length = 60
      · rw [if_pos c2] at ok; exact absurd (show ("many" : Str) = "" from ok) (by decide +kernel)
      · rw [if_neg c2]; rfl
  | put b s o g =>
    rw [Int.add_zero]
    cases e : S.get b with
    | none => rw [st_put0 e]
    | some x =>
      by_cases c : s < 0 ∨ (x.sl.length : Int) ≤ s
      · rw [st_put1 e c]
      · cases eo : S.get o with
        | none => rw [st_put2 e c eo]
        | some y => rw [st_put3 e c eo]; rfl
  | empty b s =>
    rw [Int.add_zero]
    cases e : S.get b with
    | none => rw [st_empty0 e]
    | some x =>
      by_cases c : s < 0 ∨ (x.sl.length : Int) ≤ s
      · rw [st_empty1 e c]
      · rw [st_empty2 e c]; rfl
  | take b =>
    rw [Int.add_zero]
    cases e : S.get b with
    | none => rw [st_take0 e]
    | some x => rw [st_take1 e]; rfl
  | drop b =>
    rw [Int.add_zero]
    cases e : S.get b with
    | none => rw [st_drop0 e]
    | some x =>
      by_cases c : x.hand = false
      · rw [st_drop1 e c]
      · rw [st_drop2 e c]; rfl
  | pair x k o =>
    rw [Int.add_zero, st_pair]
    by_cases c : S.get x = none ∨ S.get k = none ∨ S.get o = none
    · rw [if_pos c]
    · rw [if_neg c]
      by_cases c2 : S.ps.length = 60
      · rw [if_pos c2]
      · rw [if_neg c2]; rfl
  | unpair n =>
    rw [Int.add_zero]
    cases e : S.ps.lookup n with
    | none => rw [st_unpair0 e]
    | some y => rw [st_unpair1 e]; rfl
  | will b ds =>
    rw [Int.add_zero]
    cases e : S.get b with
    | none => rw [st_will0 e]
    | some x =>
      by_cases c : 9 < ds.length ∨ ds.any Deed.isNeg = true
      · rw [st_will1 e c]
      · rw [st_will2 e c]; rfl
end
section
variable {P : Program} {w : World} {K : PySem.W.Frag} {mg : Str → Option Value} {base : Heap} {a : Ad}
/-! ### the wills that stand, in a book -/
structure WlsAt (H : Hp) (w : Addr) (W : AL) (S : Ch) : Prop where
  ob : H w = some (.dK (kvA W))
  sW : ∀ e ∈ W, H e.2.1 = some (.lst e.2.2)
  nw : ∀ e ∈ W, e.2.1 ≠ w
  kW : (W.map (·.1)).Nodup
  zW : ∀ e ∈ W, e.2.2.length ≤ 9
  w0 : ∀ n, W.lookup n = none → S.willOf n = []
  w1 : ∀ n l, W.lookup n = some l → S.willOf n ≠ [] ∧ Paired (DeedV H) l.2 (S.willOf n)
def DwAt (H : Hp) (w : Addr) (S : Ch) (N : List Addr) : Prop := ∃ W, WlsAt H w W S ∧ N = w :: W.map (·.2.1)
section
variable {H H' : Hp} {w : Addr} {S S' : Ch} {N : List Addr}
theorem DwAt.dom (h : DwAt H w S N) {b : Addr} (m : b ∈ N) : ∃ o, H b = some o ∧ ∀ xs, o ≠ .tup xs := by
  obtain ⟨W, h, rfl⟩ := h
  rcases List.mem_cons.mp m with rfl | m
  · exact ⟨_, h.ob, fun _ z => nomatch z⟩
  · obtain ⟨e, me, rfl⟩ := List.mem_map.mp m
    exact ⟨_, h.sW e me, fun _ z => nomatch z⟩
theorem DwAt.keep {O2 : List Addr} (h : DwAt H w S N) (f : Fr O2 H H') (t : Tups H H') (d : ∀ b, b ∈ N → b ∉ O2) : DwAt H' w S N := by
  obtain ⟨W, h, rfl⟩ := h
  exact ⟨W, ⟨f _ _ h.ob (d _ List.mem_cons_self), fun e m => f _ _ (h.sW e m) (d _ (List.mem_cons_of_mem _ (List.mem_map.mpr ⟨e, m, rfl⟩))), h.nw, h.kW, h.zW, h.w0, fun n l e => ⟨(h.w1 n l e).1, L2.Paired.mapP (h.w1 n l e).2 fun _ _ k => k.keep t⟩⟩, rfl⟩
theorem DwAt.same (h : DwAt H w S N) (s : Same H H') : DwAt H' w S N := h.keep (O2 := []) (Fr.same s) (fun t xs e => s _ _ e) (fun _ _ m => nomatch m)
theorem DwAt.sem (h : DwAt H w S N) (e : ∀ n, S'.willOf n = S.willOf n) : DwAt H w S' N := by
  obtain ⟨W, h, rfl⟩ := h
  exact ⟨W, ⟨h.ob, h.sW, h.nw, h.kW, h.zW, fun n z => (e n).trans (h.w0 n z), fun n l z => by rw [e n]; exact h.w1 n l z⟩, rfl⟩
theorem WlsAt.same {W : AL} (h : WlsAt H w W S) (s : Same H H') : WlsAt H' w W S :=
  ⟨s _ _ h.ob, fun e m => s _ _ (h.sW e m), h.nw, h.kW, h.zW, h.w0, fun n l e => ⟨(h.w1 n l e).1, L2.Paired.mapP (h.w1 n l e).2 fun _ _ k => k.keep fun t xs z => s _ _ z⟩⟩
theorem WlsAt.len {W : AL} (h : WlsAt H w W S) (G : Good S) : W.length ≤ 60 := by
  have := nodup_len h.kW (ys := S.bs.map (·.1)) fun n m => by
    obtain ⟨e, me, rfl⟩ := List.mem_map.mp m
    refine get_mem.mp fun z => ?_
    have e1 : W.lookup e.1 ≠ none := fun q => lk_none.mp q m
    cases q : W.lookup e.1 with
    | none => exact e1 q
    | some l =>
      have := (h.w1 _ _ q).1
      unfold Ch.willOf at this
      rw [z] at this; exact this rfl
  rw [List.length_map, List.length_map] at this
  exact Nat.le_trans this G.zb
theorem WlsAt.less {W W' : AL} {b : Int} (h : WlsAt H w W S) (m : ∀ e ∈ W', e ∈ W ∧ e.1 ≠ b) (lk : ∀ n, W'.lookup n = if n = b then none else W.lookup n) (kd : (W'.map (·.1)).Nodup) (e : H' w = some (.dK (kvA W'))) (fr : ∀ c o, H c = some o → c ≠ w → H' c = some o) (ws : ∀ n, S'.willOf n = if n = b then [] else S.willOf n) : WlsAt H' w W' S' := by
  have t : Tups H H' := fun u xs z => fr _ _ z fun c => by rw [c, h.ob] at z; cases z
  refine ⟨e, fun x mx => fr _ _ (h.sW x (m x mx).1) (h.nw x (m x mx).1), fun x mx => h.nw x (m x mx).1, kd, fun x mx => h.zW x (m x mx).1, fun n z => ?_, fun n l z => ?_⟩
  · rw [ws]
    by_cases c : n = b
    · rw [if_pos c]
    · rw [if_neg c]
      rw [lk, if_neg c] at z
      exact h.w0 n z
  · rw [lk] at z
    by_cases c : n = b
    · rw [if_pos c] at z; cases z
    · rw [if_neg c] at z
      rw [ws, if_neg c]
      exact ⟨(h.w1 n l z).1, L2.Paired.mapP (h.w1 n l z).2 fun _ _ k => k.keep t⟩
theorem WlsAt.put {W : AL} {b : Int} {D : Addr} {us : List V} {ds : List Deed} (h : WlsAt H w W S) (e : H' w = some (.dK (kvA (putW W b D us)))) (eD : H' D = some (.lst us)) (nD : D ≠ w) (z9 : us.length ≤ 9) (nd : ds ≠ []) (pu : Paired (DeedV H') us ds) (fr : ∀ c o, H c = some o → c ≠ w → H' c = some o) (ws : ∀ n, S'.willOf n = if n = b then ds else S.willOf n) : WlsAt H' w (putW W b D us) S' := by
  have t : Tups H H' := fun u xs z => fr _ _ z fun c => by rw [c, h.ob] at z; cases z
  refine ⟨e, fun x mx => ?_, fun x mx => ?_, putW_nd h.kW, fun x mx => ?_, fun n z => ?_, fun n l z => ?_⟩
  · rcases putW_mem mx with rfl | ⟨m, _⟩
    · exact eD
    · exact fr _ _ (h.sW x m) (h.nw x m)
  · rcases putW_mem mx with rfl | ⟨m, _⟩
    · exact nD
    · exact h.nw x m
  · rcases putW_mem mx with rfl | ⟨m, _⟩
    · exact z9
    · exact h.zW x m
  · rw [putW_lk] at z
    rw [ws]
    by_cases c : n = b
    · rw [if_pos c] at z; cases z
    · rw [if_neg c] at z
      rw [if_neg c]
      exact h.w0 n z
  · rw [putW_lk] at z
    rw [ws]
    by_cases c : n = b
    · rw [if_pos c] at z ⊢
      cases z
      exact ⟨nd, pu⟩
    · rw [if_neg c] at z
      rw [if_neg c]
      exact ⟨(h.w1 n l z).1, L2.Paired.mapP (h.w1 n l z).2 fun _ _ k => k.keep t⟩
theorem filt_keys {W : AL} {b : Int} (h : (W.map (·.1)).Nodup) : ((W.filter fun e => decide (e.1 ≠ b)).map (·.1)).Nodup := h.sublist (List.filter_sublist.map _)
theorem lk_filt {W : AL} {b n : Int} : (W.filter fun e => decide (e.1 ≠ b)).lookup n = if n = b then none else W.lookup n := by
  by_cases c : n = b
  · rw [if_pos c, c]; exact lk_gone
  · rw [if_neg c]; exact lk_kept c
/-- one taken out -/
theorem WlsAt.pop {b : Int} (W : AL) (h : WlsAt H w W S) (ws : ∀ n, S'.willOf n = if n = b then [] else S.willOf n) : WlsAt (upd H w (.dK (kvA (W.filter fun e => decide (e.1 ≠ b))))) w (W.filter fun e => decide (e.1 ≠ b)) S' :=
  h.less (fun e m => ⟨(List.mem_filter.mp m).1, by simpa using (List.mem_filter.mp m).2⟩) (fun n => lk_filt) (filt_keys h.kW) upd_same (fun c o e n => by rw [upd_ne n]; exact e) ws
end
/-! ### what a deed makes of wills -/
theorem stepd_will {S : Ch} (G : Good S) {d : LD} (ok : (S.step d).1 = "") (n : Int) : (S.step d).2.2.willOf n = (match d with | .will b ds => if n = b then ds else S.willOf n | _ => S.willOf n) := by
  have old : ∀ {b : Int} {x y : Bx}, S.get b = some x → y.will = x.will → (S.box b y).willOf n = S.willOf n := fun {b x y} e q => by
    rw [willOf_box e]
    by_cases c : n = b
    · rw [if_pos c, q, c]; unfold Ch.willOf; rw [e]
    · rw [if_neg c]
  cases d with
  | make m =>
    rw [st_make] at ok ⊢
    by_cases c : m < 0 ∨ 9 < m
    · rw [if_pos c] at ok; exact absurd (show ("slot" : Str) = "" from ok) (by decide +kernel)
    · rw [if_neg c] at ok ⊢
      by_cases c2 : S.bs.length = 60
      · rw [if_pos c2] at ok; exact absurd (show ("many" : Str) = "" from ok) (by decide +kernel)
      · rw [if_neg c2]
        show (S.made m).willOf n = S.willOf n
        unfold Ch.willOf
        have app : ∀ l : List (Int × Bx), (∀ e ∈ l, e.1 ≠ S.nb) → (l ++ [(S.nb, (⟨List.replicate m.toNat none, true, []⟩ : Bx))]).lookup n = match l.lookup n with | some x => some x | none => if n = S.nb then some ⟨List.replicate m.toNat none, true, []⟩ else none := by
          intro l
          induction l with
          | nil =>
            intro _
            by_cases c : n = S.nb
            · rw [c]; show ([(S.nb, _)] : List (Int × Bx)).lookup S.nb = _; rw [lk_pos]; simp
            · show ([(S.nb, _)] : List (Int × Bx)).lookup n = _; rw [lk_neg c]; simp [c]
          | cons e r ih =>
            intro h
            obtain ⟨k, y⟩ := e
            show ((k, y) :: (r ++ _)).lookup n = _
            by_cases z : n = k
            · rw [z, lk_pos, lk_pos]
            · rw [lk_neg z, lk_neg z]; exact ih fun e m => h e (List.mem_cons_of_mem _ m)
        have e1 : (S.made m).get n = _ := app S.bs fun e m z => by have := (G.lb e m).2; omega
        rw [e1]
        show (match (match S.get n with | some x => some x | none => _) with | some x => x.will | none => []) = _
        cases S.get n with
        | some x => rfl
        | none =>
          by_cases c : n = S.nb
          · simp only [if_pos c]
          · simp only [if_neg c]
  | put b s o g =>
    cases e : S.get b with
    | none => rw [st_put0 e]
    | some x =>
      by_cases c : s < 0 ∨ (x.sl.length : Int) ≤ s
      · rw [st_put1 e c]
      · cases eo : S.get o with
        | none => rw [st_put2 e c eo]
        | some y => rw [st_put3 e c eo]; exact old (x := x) e rfl
  | empty b s =>
    cases e : S.get b with
    | none => rw [st_empty0 e]
    | some x =>
      by_cases c : s < 0 ∨ (x.sl.length : Int) ≤ s
      · rw [st_empty1 e c]
      · rw [st_empty2 e c]; exact old (x := x) e rfl
  | take b =>
    cases e : S.get b with
    | none => rw [st_take0 e]
    | some x => rw [st_take1 e]; exact old (x := x) e rfl
  | drop b =>
    cases e : S.get b with
    | none => rw [st_drop0 e]
    | some x =>
      by_cases c : x.hand = false
      · rw [st_drop1 e c]
      · rw [st_drop2 e c]; exact old (x := x) e rfl
  | pair x k o =>
    rw [st_pair]
    by_cases c : S.get x = none ∨ S.get k = none ∨ S.get o = none
    · rw [if_pos c]
    · rw [if_neg c]
      by_cases c2 : S.ps.length = 60
      · rw [if_pos c2]
      · rw [if_neg c2]; rfl
  | unpair m =>
    cases e : S.ps.lookup m with
    | none => rw [st_unpair0 e]
    | some y => rw [st_unpair1 e]; rfl
  | will b ds =>
    cases e : S.get b with
    | none => rw [st_will0 e] at ok; exact absurd (show ("box" : Str) = "" from ok) (by decide +kernel)
    | some x =>
      by_cases c : 9 < ds.length ∨ ds.any Deed.isNeg = true
      · rw [st_will1 e c] at ok; exact absurd (show ("will" : Str) = "" from ok) (by decide +kernel)
      · rw [st_will2 e c]
        exact willOf_box e
theorem lk_up {gs : List Int} {n : Int} : ∀ l : List (Int × Bx), ((l.filter fun e => decide (e.1 ∉ gs)).map fun e => (e.1, { e.2 with sl := e.2.sl.map (clearS gs) })).lookup n = if n ∈ gs then none else (l.lookup n).map fun y => { y with sl := y.sl.map (clearS gs) }
  | [] => by by_cases c : n ∈ gs <;> simp [c]
  | (k, y) :: r => by
    by_cases m : k ∈ gs
    · rw [List.filter_cons_of_neg (by simpa using m), lk_up r]
      by_cases c : n ∈ gs
      · rw [if_pos c, if_pos c]
      · rw [if_neg c, if_neg c, lk_neg (fun z => c (by rw [z]; exact m))]
    · rw [List.filter_cons_of_pos (by simpa using m), List.map_cons]
      by_cases z : n = k
      · rw [z, lk_pos, if_neg m, lk_pos]; rfl
      · rw [lk_neg z, lk_neg z]; exact lk_up r
theorem up_will {S : Ch} {gs : List Int} {n : Int} : (S.givenUp gs).willOf n = if n ∈ gs then [] else S.willOf n := by
  unfold Ch.willOf
  rw [show (S.givenUp gs).get n = _ from lk_up S.bs]
  by_cases c : n ∈ gs
  · rw [if_pos c, if_pos c]
  · rw [if_neg c, if_neg c]
    show (match (S.get n).map (fun y : Bx => ({ y with sl := y.sl.map (clearS gs) } : Bx)) with | some x => x.will | none => []) = _
    cases S.get n <;> rfl
theorem swept_behind {S : Ch} (G : Good S) (n : Int) : S.swept.willOf n = S.behind.willOf n := by
  unfold Ch.swept
  rw [up_will]
  by_cases c : n ∈ S.gone
  · rw [if_pos c]
    unfold Ch.willOf
    cases e : S.behind.get n with
    | none => rfl
    | some x => exact ((gone_done G (n, x) (lk_mem e) c).2).symm
  · rw [if_neg c]
theorem order_sorted {S : Ch} (G : Good S) {ys : List Int} (p : ys.Perm S.orderL) (s : ys.Pairwise (· ≤ ·)) : ys = S.leftL := perm_sorted (p.trans (ord_perm _ _ rfl)) s (left_pw G)
def spOnce (a : Ad) : Sp := fun vs H Q _ => ∃ (p b : Addr) (S : Ch) (O N : List Addr), vs = [.ref p, .ref b] ∧ ChestAt a.Chest a.Box H p S O ∧ Good S ∧ WOk S ∧ DwAt H b S N ∧ (∀ c, c ∈ O → c ∉ N) ∧
  ∀ H' O' N', Fr (b :: O) H H' → Gr O O' H → (∀ c, c ∈ N' → c ∈ N) → ChestAt a.Chest a.Box H' p S.swept O' → DwAt H' b S.swept N' → Q (.bl true) H'
theorem WlsAt.isin {H : Hp} {w : Addr} {W : AL} {S : Ch} (h : WlsAt H w W S) (b : Int) : (valV (kvA W) (Sum.inl b : Key)).isSome = willB S b := by
  rw [willB_of]
  cases e : W.lookup b with
  | none => rw [kvA_none e, h.w0 b e]; rfl
  | some l =>
    rw [kvA_some e]
    have := (h.w1 b l e).1
    cases q : S.willOf b with
    | nil => exact absurd q this
    | cons _ _ => rfl
theorem ints_sameN {H : Hp} {Q : VK} {f g : Addr} {ns : List Int} (ef : H f = some (.lst (ns.map V.int))) (eg : H g = some (.lst (ns.map V.int))) (h : Q (.bl false) H) : rNeD K (.ref f) (.ref g) H Q :=
  g_neDS (.lst (SqL.of ef) (dp_ints ns)) (.lst (SqL.of eg) (dp_ints ns)) ((lay_ints ns).shaped (by decide)) h
theorem ok_law_once (T : Txt a K mg) : FnOk P w K mg base (CN P w) 8 a.f_law_once a.fd_law_once ["_law_chest", "_law_wills"] (spOnce a) := by
  refine okN T.F_law_once sc_law_once (fun vs H Q E h => ?_) (fun cdv A outer s H vs Q E hr h => ?_)
  · obtain ⟨p, b, S, O, N, rfl, _⟩ := h; rfl
  · obtain ⟨p, wd, S, O, N, rfl, hS, G, W, hD, dj, k⟩ := h
    have hu := hu_of hr
    have ol := order_len G
    have gl := gone_len G
    have ll := lost_len G
    have nO : ∀ c, H c = none → c ∉ O := fun c e m => by
      obtain ⟨o, ho, _⟩ := hS.dom m
      rw [e] at ho; cases ho
    have hr1 : Room 1 _ := hr.mono (by decide); have hr2 : Room 2 _ := hr.mono (by decide); have hr5 : Room 5 _ := hr.mono (by decide); have hr6 : Room 6 _ := hr.mono (by decide); have hr7 : Room 7 _ := hr.mono (by decide);
    refine ⟨_, (pss_cons (ps_set (i := 2) sc_law_once.nd rfl (Or.inl rfl) (pe_call (ok_lost T) hr5 rfl T.mg_lost T.F_lost.kp T.b_lost .nil pass0N (pa_cons (pv 0) pa_nil)))
      (pss_cons (ps_set (i := 3) sc_law_once.nd rfl (Or.inl rfl) (pe_call (ok_order_of_wills T) hr6 rfl T.mg_order_of_wills T.F_order_of_wills.kp T.b_order_of_wills .nil pass0N (pa_cons (pv 0) pa_nil)))
      (pss_cons (ps_set (i := 4) sc_law_once.nd rfl (Or.inl rfl) (pe_call (ok_sweep T) hr7 rfl T.mg_sweep T.F_sweep.kp T.b_sweep .nil pass0N (pa_cons (pv 0) pa_nil)))
      (pss_cons (ps_if (PW.pt (pw_or (pt_not (pt_val (pe_call (ok_law_three T) hr2 rfl T.mg_law_three T.F_law_three.kp T.b_law_three .nil pass0N (pa_cons (pv 4) pa_nil)))) (pw_or (pt_not (pt_val (pe_call (ok_law_numbers T) hr2 rfl T.mg_law_numbers T.F_law_numbers.kp T.b_law_numbers .nil pass0N (pa_cons (pv 3) (pa_cons (pe_ix ix_tup (pv 4) pe_int (fun _ _ => rfl)) pa_nil))))) (pw_or1 (pt_cmpR op_ne (RZ.pe_lenSetI (by rfl) T.no_len (by rfl) T.no_set (pe_ix ix_tup (pv 4) pe_int (fun _ _ => rfl))) (pe_callB call_lenS (by rfl) T.no_len (by decide +kernel) (pa_cons (pe_ix ix_tup (pv 4) pe_int (fun _ _ => rfl)) pa_nil)) (nomark _)))))) (pss_one (ps_ret pe_bl)) pss_nil)
      (pss_cons (ps_if (pt_cmpR (op_neD hr.units) (pe_callB cr_sortedI (by rfl) T.no_sorted (by decide +kernel) (pa_cons (pe_ix ix_tup (pv 4) pe_int (fun _ _ => rfl)) pa_nil)) (pe_lc (own := [("_law_box", 5)]) (g := gName 5) (tt := (tB (tDIn (tVar 5) (tVar 1)))) (te := (tVar 5)) (by rfl) sc_law_once.nd (pi_list (pv 2)) (blkOk_by (own := [("_law_box", 5)]) (N := N_law_once) (sc := defScope s_law_once) (by decide +kernel)) (fun _ _ _ _ _ => (pg_name (i := 5) sc_law_once.nd rfl (Or.inl rfl))) (fun _ _ _ _ _ => pts_one (pt_cmp (pc_din hu (pv 5) (pv 1)))) (fun _ _ _ _ _ => (pv 5))) (nomark _)) (pss_one (ps_ret pe_bl)) pss_nil)
      (pss_cons (ps_for PassesOwn.leaving rfl (pi_list (pe_ix ix_tup (pv 4) pe_int (fun _ _ => rfl))) (pg_name (i := 5) sc_law_once.nd rfl (Or.inl rfl))
      (pss_one (ps_expr (pe_dpop1 (pv 1) (pv 5) (by constructor <;> rfl)))))
      (pss_cons (ps_if (pt_val (pe_callB (cr_any rfl) (by rfl) T.no_any (by decide +kernel) (pa_cons (pe_lc (own := [("_law_box", 5)]) (g := gName 5) (tt := tYes) (te := (tDIn (tVar 5) (tVar 1))) (by rfl) sc_law_once.nd (pi_list (pe_ix ix_tup (pv 4) pe_int (fun _ _ => rfl))) (blkOk_by (own := [("_law_box", 5)]) (N := N_law_once) (sc := defScope s_law_once) (by decide +kernel)) (fun _ _ _ _ _ => (pg_name (i := 5) sc_law_once.nd rfl (Or.inl rfl))) (fun _ _ _ _ _ => pts_nil) (fun _ _ _ _ _ => (pe_cmp (pc_din hu (pv 5) (pv 1)) rfl))) pa_nil))) (pss_one (ps_ret pe_bl)) pss_nil)
      (pss_one (ps_ret (pe_callB (cr_all rfl) (by rfl) T.no_all (by decide +kernel) (pa_cons (pe_lc (own := [("_law_box", 5)]) (g := gName 5) (tt := tYes) (te := (tOp (rEqD K) (tMeth a.Chest "will" (spWill a) [] E0 (tVar 0) (tCons (tVar 5) tNil)) _)) (by rfl) sc_law_once.nd (pi_list (pe_meth0 (pv 0) T.cl_Chest T.m_Chest_boxes (ok_Chest_boxes T) hr1 T.b_Chest_boxes .nil pass0N)) (blkOk_by (own := [("_law_box", 5)]) (N := N_law_once) (sc := defScope s_law_once) (by decide +kernel)) (fun _ _ _ _ _ => (pg_name (i := 5) sc_law_once.nd rfl (Or.inl rfl))) (fun _ _ _ _ _ => pts_nil) (fun _ _ _ _ _ => (pe_cmpR (op_eqD hr.units) (pe_meth (pv 0) T.cl_Chest T.m_Chest_will (ok_Chest_will T) hr2 T.b_Chest_will .nil pass0N (pa_cons (pv 5) pa_nil)) (pe_dget2 hu (pv 1) (pv 5) (pe_lst pa_nil) (by constructor <;> rfl)) (nomark _)))) pa_nil))))))))))), ?_⟩
    try dsimp only [cxOf]
    walk_at "gos"
    refine ⟨p, S, O, rfl, hS, G, fun ab H1 hab s1 e1 => ?_⟩
    walk_at "gos"
    refine ⟨p, S, O, rfl, hS.same s1, G, fun ob H2 hob s2 e2 => ?_⟩
    have s02 := s1.trans s2
    walk_at "gos"
    refine ⟨p, S, O, rfl, hS.same s02, G, W, fun tf l1 l2 l3 H4 O4 ln n12 n13 n23 f4 g4 hS4 htf hl1 hl2 hl3 => ?_⟩
    have e14 := f4 _ _ (s2 _ _ e1) (nO _ hab)
    have e24 := f4 _ _ e2 (nO _ (free_same s1 hob))
    have t24 : Tups H2 H4 := f4.tups fun b m => (hS.same s02).dom m
    have hD4 : DwAt H4 wd S N := (hD.same s02).keep f4 t24 fun b m m2 => dj b m2 m
    have lN : ∀ c, c = l1 ∨ c = l2 ∨ c = l3 → c ∉ N := fun c h m => by
      rcases (ln c h).1 with z | z
      · obtain ⟨o, ho, _⟩ := (hD.same s02).dom m
        rw [z] at ho; cases ho
      · exact dj c z m
    have dj4 : ∀ c, c ∈ O4 → c ∉ N := fun c m m2 => (g4 c m).elim (fun z => dj c z m2) fun e => by
      obtain ⟨o, ho, _⟩ := (hD.same s02).dom m2
      rw [e] at ho; cases ho
    walk_at "gos"
    refine ⟨tf, l1, l2, l3, S.orderL, S.gone, S.stay, rfl, htf, hl1, hl2, hl3, ol, gl, stay_len G, fun H5 s5 => ?_⟩
    have htf5 := s5 _ _ htf
    have hl15 := s5 _ _ hl1
    have e25 := s5 _ _ e24
    walk_at "gos"
    refine ⟨ob, l1, S.orderL, rfl, e25, hl15, by omega, ?_⟩
    walk_at "gos"
    refine ⟨l1, S.orderL, rfl, SqL.of hl15, order_nodup G, by omega, ?_⟩
    walk_at "gos"
    refine g_lenL (SqL.of hl15) ?_
    rw [List.length_map]
    walk_at "gos"
    refine g_iteN (fun c => (c rfl).elim) fun _ => ?_
    walk_at "gos"
    refine ⟨l1, S.orderL, rfl, SqL.of hl15, fun ys r1 pm srt hr1 => ?_⟩
    rw [order_sorted G pm srt]
    have n6 := Same.new (o := HO.lst (S.leftL.map V.int)) hr1
    have er1 := upd_same (H := H5) (a := r1) (o := HO.lst (S.leftL.map V.int))
    obtain ⟨H6, eH6⟩ : ∃ H6, upd H5 r1 (.lst (S.leftL.map V.int)) = H6 := ⟨_, rfl⟩
    rw [eH6] at n6 er1 ⊢
    clear eH6
    have s46 := s5.trans n6
    have e16 := s46 _ _ e14
    obtain ⟨WW, hW6, eN⟩ := hD4.same s46
    have hw6 := hW6.ob
    walk_at "gos"
    refine ⟨ab, rfl, ⟨_, SqL.of e16⟩, fun D hD => lc_list (K := K) (a := ab) (xs := S.lostL.map V.int) (fun i H7 => Same H6 H7 ∧ H7 D = some (.lst (((S.lostL.take i).filter (willB S)).map V.int))) ⟨Same.new hD, upd_same⟩ (fun i H7 _ h => SqL.of (h.1 _ _ e16)) ?_ ?_⟩
    · rintro i x H7 hx ⟨s7, e7⟩
      rw [List.getElem?_map] at hx
      obtain ⟨b, hb, rfl⟩ := Option.map_eq_some_iff.mp hx
      have i60 : i < 60 := Nat.lt_of_lt_of_le (List.getElem?_eq_some_iff.mp hb).1 ll
      obtain ⟨q1, q2⟩ := filt_snoc (f := willB S) hb
      have hw7 := s7 _ _ hw6
      walk_at "go"
      refine ⟨rfl, ?_⟩
      walk_at "gos"
      refine ⟨_, _, rfl, DGet.k (k := Sum.inl b) hw7, ?_⟩
      rw [hW6.isin]
      walk_at "gos"
      refine g_iteB (fun c => ?_) (fun c => ?_)
      · rw [q1 c]
        walk_at "gos"
        refine ⟨_, e7, small1000 (filt_len (by omega)), fun c o e => ?_, ?_⟩
        · rw [upd_ne (ne_of_none e hD)]; exact s7 _ _ e
        · rw [upd_same, List.map_append]; rfl
      · rw [q2 c]
        walk_at "gos"
        exact ⟨s7, e7⟩
    rintro H7 ⟨s7, e7⟩
    rw [List.length_map, List.take_length] at e7
    have e7 : H7 D = some (.lst (S.leftL.map V.int)) := e7
    have er17 := s7 _ _ er1
    walk_at "gos"
    refine ints_sameN er17 e7 ?_
    have s47 := s46.trans s7
    have htf7 := s47 _ _ htf
    have hl17 := s47 _ _ hl1
    have w47 : DwAt H7 wd S N := hD4.same s47
    walk_at "gos"
    refine ⟨l1, rfl, ⟨_, SqL.of hl17⟩, for_list (K := K) (a := l1) (xs := S.orderL.map V.int) (fun i σ H8 => ∃ (v5 : Option V) (N8 : List Addr), σ = [some (.ref p), some (.ref wd), some (.ref ab), some (.ref ob), some (.ref tf), v5] ∧ Fr [wd] H7 H8 ∧ (∀ c, c ∈ N8 → c ∈ N) ∧ DwAt H8 wd (S.willsDone (S.orderL.take i)) N8)
      ⟨_, N, rfl, Fr.refl _ _, fun _ m => m, w47⟩ (fun i σ H8 _ h => by obtain ⟨_, _, _, f, _⟩ := h; exact SqL.of (f _ _ hl17 fun z => lN _ (.inl rfl) (by rw [List.mem_singleton.mp z, eN]; exact List.mem_cons_self))) ?_ ?_⟩
    · rintro i x σ H8 hx ⟨v5, N8, rfl, f8, m8, ⟨W8, h8, eN8⟩⟩
      rw [List.getElem?_map] at hx
      obtain ⟨b, hb, rfl⟩ := Option.map_eq_some_iff.mp hx
      have hlb := order_mem.mp (List.mem_of_getElem? hb)
      have nb : b ∉ S.orderL.take i := fun m => by
        obtain ⟨j, hj, ej⟩ := List.mem_iff_getElem.mp m
        rw [List.getElem_take] at ej
        rw [List.length_take] at hj
        obtain ⟨hi1, hi2⟩ := List.getElem?_eq_some_iff.mp hb
        have := List.getElem_inj (h₀ := (by omega : j < S.orderL.length)) (h₁ := hi1) (order_nodup G) |>.mp (ej.trans hi2.symm)
        omega
      have hwl : (S.willsDone (S.orderL.take i)).willOf b ≠ [] := by rw [wills_will, if_neg nb]; exact left_will hlb
      obtain ⟨l, el⟩ : ∃ l, W8.lookup b = some l := by
        cases e : W8.lookup b with
        | none => exact absurd (h8.w0 b e) hwl
        | some l => exact ⟨l, rfl⟩
      have hw8 := h8.ob
      walk_at "gos"
      refine ⟨_, rfl, .inl ⟨_, .inl hw8⟩, ?_⟩
      walk_at "gos"
      refine ⟨_, Sum.inl b, _, hw8, rfl, kvA_some el, ?_⟩
      rw [kvA_drop]
      have hp := WlsAt.pop (b := b) (S' := S.willsDone (S.orderL.take (i + 1))) W8 h8 fun n => by
        rw [take_snoc hb]
        unfold Ch.willsDone
        rw [List.foldl_append]
        exact will_will _ b n
      refine ⟨_, _, rfl, f8.trans (Fr.upd List.mem_cons_self), fun c m => ?_, _, hp, rfl⟩
      rcases List.mem_cons.mp m with rfl | m
      · exact m8 _ (by rw [eN8]; exact List.mem_cons_self)
      · obtain ⟨e, me, rfl⟩ := List.mem_map.mp m
        exact m8 _ (by rw [eN8]; exact List.mem_cons_of_mem _ (List.mem_map.mpr ⟨e, (List.mem_filter.mp me).1, rfl⟩))
    rintro σ H8 ⟨v5, N8, rfl, f8, m8, hD8⟩
    rw [List.length_map, List.take_length] at hD8
    have hD8 : DwAt H8 wd S.behind N8 := hD8
    obtain ⟨W8, h8, eN8⟩ := hD8
    have hw8 := h8.ob
    have wdN : wd ∈ N := by rw [eN]; exact List.mem_cons_self
    have nlw : ∀ c, c = l1 ∨ c = l2 ∨ c = l3 → c ∉ [wd] := fun c h m => lN c h (by rw [List.mem_singleton.mp m]; exact wdN)
    obtain ⟨W7, h7, _⟩ := id w47
    have t78 : Tups H7 H8 := f8.tups fun b m => by
      rw [List.mem_singleton.mp m]; exact ⟨_, h7.ob, fun _ z => nomatch z⟩
    have htf8 := t78 _ _ htf7
    have hl28 := f8 _ _ (s47 _ _ hl2) (nlw _ (.inr (.inl rfl)))
    walk_at "gos"
    refine ⟨l2, rfl, ⟨_, SqL.of hl28⟩, fun D2 hD2 => lc_list (K := K) (a := l2) (xs := S.gone.map V.int) (fun i H9 => Same H8 H9 ∧ H9 D2 = some (.lst ((List.replicate i false).map V.bl))) ⟨Same.new hD2, upd_same⟩ (fun i H9 _ h => SqL.of (h.1 _ _ hl28)) ?_ ?_⟩
    · rintro i x H9 hx ⟨s9, d9⟩
      rw [List.getElem?_map] at hx
      obtain ⟨b, hb, rfl⟩ := Option.map_eq_some_iff.mp hx
      have i60 : i < 60 := Nat.lt_of_lt_of_le (List.getElem?_eq_some_iff.mp hb).1 gl
      have mb := List.mem_of_getElem? hb
      have hw9 := s9 _ _ hw8
      have eb : S.behind.willOf b = [] := by
        unfold Ch.willOf
        cases e : S.behind.get b with
        | none => rfl
        | some x => exact (gone_done G (b, x) (lk_mem e) mb).2
      walk_at "go"
      refine ⟨rfl, ?_⟩
      walk_at "gos"
      refine ⟨_, _, rfl, DGet.k (k := Sum.inl b) hw9, ?_⟩
      rw [h8.isin, willB_of, eb]
      refine ⟨_, d9, small1000 (by rw [List.length_map, List.length_replicate]; omega), fun c o e => ?_, ?_⟩
      · rw [upd_ne (ne_of_none e hD2)]; exact s9 _ _ e
      · rw [upd_same, List.replicate_succ', List.map_append]; rfl
    rintro H9 ⟨s9, d9⟩
    walk_at "gos"
    refine g_any (SqL.of d9) ?_
    have ea : (List.replicate (S.gone.map V.int).length false).any id = false := by
      rw [List.any_eq_false]
      intro x m
      rw [List.eq_of_mem_replicate m]; decide
    rw [ea]
    have hS7 := hS4.same s47
    have d4w : ∀ b, b ∈ O4 → b ∉ [wd] := fun b m m2 => dj4 b m (by rw [List.mem_singleton.mp m2]; exact wdN)
    have hS8 := hS7.keep f8 t78 d4w
    have hS9 := hS8.same s9
    have hD9 : DwAt H9 wd S.swept N8 := (DwAt.same ⟨W8, h8, eN8⟩ s9).sem fun n => swept_behind G n
    obtain ⟨C, hC, hCS, eC⟩ := id hS9
    obtain ⟨W9, h9, eN9⟩ := id hD9
    have kC := ckeys hCS
    have hob := hC.ob
    have hw9 := h9.ob
    have GS := G.swept
    have zb := GS.zb
    walk_at "gos"
    walk_at "m1"
    walk_at "gos"
    refine ⟨p, C, rfl, hC, fun r4 hr4 => ?_⟩
    rw [kC]
    have n10 := Same.new (o := HO.lst ((S.swept.bs.map (·.1)).map V.int)) hr4
    have er4 := upd_same (H := H9) (a := r4) (o := HO.lst ((S.swept.bs.map (·.1)).map V.int))
    obtain ⟨H10, eH10⟩ : ∃ H10, upd H9 r4 (.lst ((S.swept.bs.map (·.1)).map V.int)) = H10 := ⟨_, rfl⟩
    rw [eH10] at n10 er4 ⊢
    clear eH10
    refine ⟨r4, rfl, ⟨_, SqL.of er4⟩, fun D3 hD3 => lc_list (K := K) (a := r4) (xs := (S.swept.bs.map (·.1)).map V.int) (fun i H11 => Same H10 H11 ∧ H11 D3 = some (.lst ((List.replicate i true).map V.bl))) ⟨Same.new hD3, upd_same⟩ (fun i H11 _ h => SqL.of (h.1 _ _ er4)) ?_ ?_⟩
    · rintro i x H11 hx ⟨s11, d11⟩
      rw [List.map_map, List.getElem?_map] at hx
      obtain ⟨⟨b, y⟩, hb, rfl⟩ := Option.map_eq_some_iff.mp hx
      have i60 : i < 60 := Nat.lt_of_lt_of_le (List.getElem?_eq_some_iff.mp hb).1 zb
      have s911 := n10.trans s11
      have hC11 := hC.same s911
      have hob11 := hC11.ob
      have hmem := List.mem_of_getElem? hb
      have eyS : S.swept.get b = some y := GS.get hmem
      obtain ⟨bx, ebx⟩ : ∃ bx, C.B.lookup b = some bx := by
        cases e : C.B.lookup b with
        | none => rw [hCS.nn.mp e] at eyS; cases eyS
        | some bx => exact ⟨bx, rfl⟩
      obtain ⟨y', ey', _, _, pd⟩ := hCS.ss ebx
      rw [eyS] at ey'; cases ey'
      have ewl : S.swept.willOf b = y.will := by unfold Ch.willOf; rw [eyS]
      walk_at "go"
      refine ⟨rfl, ?_⟩
      walk_at "gos"
      walk_at "m1"
      walk_at "gos"
      refine ⟨p, b, C, rfl, hC11, fun e => (by rw [ebx] at e; cases e), fun bx' e u hu1 => ?_⟩
      rw [ebx] at e; cases e
      have n12 := Same.new (o := HO.lst bx.ds) hu1
      have eu12 := upd_same (H := H11) (a := u) (o := HO.lst bx.ds)
      obtain ⟨H12, eH12⟩ : ∃ H12, upd H11 u (.lst bx.ds) = H12 := ⟨_, rfl⟩
      rw [eH12] at n12 eu12 ⊢
      clear eH12
      have hw12 := n12 _ _ (s11 _ _ (n10 _ _ hw9))
      walk_at "gos"
      refine ⟨_, rfl, .inl ⟨_, .inl hw12⟩, ?_⟩
      walk_at "gos"
      refine ⟨by decide, fun z hz => ?_⟩
      have n13 := Same.new (o := HO.lst []) hz
      have ez13 := upd_same (H := H12) (a := z) (o := HO.lst [])
      obtain ⟨H13, eH13⟩ : ∃ H13, upd H12 z (.lst []) = H13 := ⟨_, rfl⟩
      rw [eH13] at n13 ez13 ⊢
      clear eH13
      have s1113 := n12.trans n13
      have s913 := s911.trans s1113
      have h13 := h9.same s913
      have pd13 : Paired (DeedV H13) bx.ds y.will := L2.Paired.mapP pd fun _ _ h => h.keep fun t xs e => s913 _ _ e
      have c13 := c2_deeds pd13
      have sh : SeqAt.shaped (.list (y.will.map Deed.data)) = true := (Lay.lst (n := 2) (paired_right_all (G := Lay 2) (fun _ _ => C2.lay) c13)).shaped (by decide)
      have due : ∃ g us, (valV (kvA W9) (Sum.inl b : Key)).getD (.ref z) = .ref g ∧ H13 g = some (.lst us) ∧ Paired (DeedV H13) us y.will := by
        cases e : W9.lookup b with
        | none =>
          refine ⟨z, [], by rw [kvA_none e]; rfl, ez13, ?_⟩
          have := h9.w0 b e
          rw [ewl] at this
          rw [this]; exact .nil
        | some l =>
          refine ⟨l.1, l.2, by rw [kvA_some e]; rfl, h13.sW _ (lk_mem e), ?_⟩
          have := (h13.w1 b l e).2
          rw [ewl] at this
          exact this
      obtain ⟨g, us, eg, hg, pg⟩ := due
      have hw13 := h13.ob
      refine ⟨_, DGet.k (k := Sum.inl b) hw13, ?_⟩
      rw [eg]
      refine g_eqDS (.lst (SqL.of (n13 _ _ eu12)) (dp_all (fun _ _ => C2.dp) c13)) (.lst (SqL.of hg) (dp_all (fun _ _ => C2.dp) (c2_deeds pg))) sh ?_
      refine ⟨_, s1113 _ _ d11, small1000 (by rw [List.length_map, List.length_replicate]; omega), fun c o e => ?_, ?_⟩
      · rw [upd_ne (ne_of_none e hD3)]; exact s1113 _ _ (s11 _ _ e)
      · rw [upd_same, List.replicate_succ', List.map_append]; rfl
    rintro H11 ⟨s11, d11⟩
    walk_at "gos"
    refine g_all (SqL.of d11) (fun b hb => List.eq_of_mem_replicate hb) ?_
    have s911 := n10.trans s11
    refine k H11 O4 N8 (fun b o e nb => ?_) (fun b m => (g4 b m).elim .inl fun e => .inr (free_same s02 e)) m8 (hS9.same s911) (hD9.same s911)
    have e7 := s47 _ _ (f4 _ _ (s02 _ _ e) fun m => nb (List.mem_cons_of_mem _ m))
    exact s911 _ _ (s9 _ _ (f8 _ _ e7 fun m => nb (by rw [List.mem_singleton.mp m]; exact List.mem_cons_self)))
end
section
variable {P : Program} {w : World} {K : PySem.W.Frag} {mg : Str → Option Value} {base : Heap} {a : Ad}
theorem Inv1.stepW {H0 H H' : Hp} {Fx : Addr → Prop} {p dw : Addr} {S S' : Ch} {O O' : List Addr} {kvs : List (Key × V)} (h : Inv1 a H0 H Fx p S O) (nO : dw ∉ O) (nF : ¬ Fx dw) (ed : H dw = some (.dK kvs)) (f : Fr (dw :: O) H H') (g : Gr O O' H) (c : ChestAt a.Chest a.Box H' p S' O') : Inv1 a H0 H' Fx p S' O' := by
  have t : Tups H H' := f.tups fun b z => by
    rcases List.mem_cons.mp z with rfl | z
    · exact ⟨_, ed, fun _ q => nomatch q⟩
    · exact h.C.dom z
  have out : ∀ l, Fx l → l ∉ dw :: O := fun l x m => (List.mem_cons.mp m).elim (fun e => nF (e ▸ x)) (h.fx l x).2
  exact ⟨c, fun l x => ⟨(h.fx l x).1.elim fun o e => ⟨o, f _ _ e (out l x)⟩, gr_out g (h.fx l x).2 (h.fx l x).1⟩, fun l o x e => f _ _ (h.fr l o x e) (out l x), fun t' xs e => t _ _ (h.tp _ _ e)⟩
theorem Inv1.at1 {H0 H H' : Hp} {Fx : Addr → Prop} {p dw : Addr} {S : Ch} {O : List Addr} {kvs : List (Key × V)} (h : Inv1 a H0 H Fx p S O) (nO : dw ∉ O) (nF : ¬ Fx dw) (ed : H dw = some (.dK kvs)) (f : Fr [dw] H H') : Inv1 a H0 H' Fx p S O := by
  have t : Tups H H' := f.tups fun b z => by
    rw [List.mem_singleton.mp z]; exact ⟨_, ed, fun _ q => nomatch q⟩
  exact h.stepW nO nF ed (f.sub fun b m => by rw [List.mem_singleton.mp m]; exact List.mem_cons_self) Gr.refl (h.C.keep f t fun b m m2 => nO (List.mem_singleton.mp m2 ▸ m))
def spLaw (K : PySem.W.Frag) : Sp := fun vs H Q _ => ∃ (s0 : Addr) (ns : List Int), vs = [.ref s0] ∧ SqL K H s0 (ns.map V.int) ∧ ns.length ≤ 63 ∧ ∀ H', Q (.bl true) H'
theorem ok_law (T : Txt a K mg) : FnOk P w K mg base (CN P w) 9 a.f_law a.fd_law ["_law_script"] (spLaw K) := by
  refine okN T.F_law sc_law (fun vs H Q E h => ?_) (fun cdv A outer s H vs Q E hr h => ?_)
  · obtain ⟨s0, ns, rfl, _⟩ := h; rfl
  · obtain ⟨s0, ns, rfl, hSq, hn0, k⟩ := h
    have hu := hu_of hr
    have hr1 : Room 1 _ := hr.mono (by decide); have hr2 : Room 2 _ := hr.mono (by decide); have hr3 : Room 3 _ := hr.mono (by decide); have hr4 : Room 4 _ := hr.mono (by decide); have hr8 : Room 8 _ := hr.mono (by decide);
    refine ⟨_, (pss_cons (ps_set (i := 1) sc_law.nd rfl (Or.inl rfl) (pe_make0 T.mk_Chest (ok_Chest__init_ T) hr2 rfl T.mg_Chest T.b_Chest__init_ .nil pass0N))
      (pss_cons (ps_set (i := 2) sc_law.nd rfl (Or.inl rfl) (pe_lst (pa_cons pe_int (pa_cons pe_int pa_nil))))
      (pss_cons (ps_set (i := 3) sc_law.nd rfl (Or.inl rfl) pe_dnewK)
      (pss_cons (ps_set (i := 4) sc_law.nd rfl (Or.inl rfl) (pe_call (ok_law_cells T) hr3 rfl T.mg_law_cells T.F_law_cells.kp T.b_law_cells .nil pass0N (pa_cons (pv 0) pa_nil)))
      (pss_cons (ps_for PassesOwn.leaving rfl (pi_range1 (by rfl) T.no_range (pa_cons (pe_callB call_lenS (by rfl) T.no_len (by decide +kernel) (pa_cons (pv 4) pa_nil)) pa_nil)) (pg_name (i := 5) sc_law.nd rfl (Or.inl rfl))
      (pss_cons (ps_set (i := 6) sc_law.nd rfl (Or.inl rfl) (pe_call (ok_law_deed_by T) hr3 rfl T.mg_law_deed_by T.F_law_deed_by.kp T.b_law_deed_by .nil pass0N (pa_cons (pe_ix ix_list (pv 4) (pv 5) (fun _ _ => rfl)) (pa_cons (pe_op op_cat (pe_call (ok_law_view T) hr4 rfl T.mg_law_view T.F_law_view.kp T.b_law_view .nil pass0N (pa_cons (pv 1) pa_nil)) (pe_lst (pa_cons (pv 2) pa_nil))) pa_nil))))
      (pss_cons (ps_expr (pe_call (ok_law_told T) hr4 rfl T.mg_law_told T.F_law_told.kp T.b_law_told .nil pass0N (pa_cons (pv 1) (pa_cons (pv 6) pa_nil))))
      (pss_cons (ps_set (i := 2) sc_law.nd rfl (Or.inl rfl) (pe_lst (pa_cons (pe_op op_add (pe_ix ix_list (pv 2) pe_int (fun _ _ => rfl)) (pe_callTy call_int_bool' (by rfl) T.no_int (by decide +kernel) (pa_cons (pe_cmpR op_eq (pe_ix ix_tup (pv 6) pe_int (fun _ _ => rfl)) pe_str (nomark _)) pa_nil))) (pa_cons pe_int pa_nil))))
      (pss_cons (ps_if (pt_cmpR op_eq (pe_ix ix_tup (pv 6) pe_int (fun _ _ => rfl)) pe_str (nomark _)) (pss_cons (ps_dput hu (pv 3) (pe_ix ix_tup (pv 6) pe_int (fun _ _ => rfl)) (pe_callTy call_listS (by rfl) T.no_list (by decide +kernel) (pa_cons (pe_ix ix_tup (pv 6) pe_int (fun _ _ => rfl)) pa_nil)) rfl)
      (pss_one (ps_if (pt_cmpR op_eq (pe_callB call_lenS (by rfl) T.no_len (by decide +kernel) (pa_cons (pe_ix ix_tup (pv 6) pe_int (fun _ _ => rfl)) pa_nil)) pe_int (nomark _)) (pss_one (ps_expr (pe_dpop1 (pv 3) (pe_ix ix_tup (pv 6) pe_int (fun _ _ => rfl)) (by constructor <;> rfl)))) pss_nil))) pss_nil)
      (pss_one (ps_if (PW.pt (pw_and (pt_cmpR op_eq (pe_op op_mod (pv 5) pe_int) pe_int (nomark _)) (pw_and1 (pt_not (pt_val (pe_call (ok_law_once T) hr8 rfl T.mg_law_once T.F_law_once.kp T.b_law_once .nil pass0N (pa_cons (pv 1) (pa_cons (pv 3) pa_nil)))))))) (pss_one (ps_ret pe_bl)) pss_nil)))))))
      (pss_one (ps_ret (pe_and (pe_call (ok_law_once T) hr8 rfl T.mg_law_once T.F_law_once.kp T.b_law_once .nil pass0N (pa_cons (pv 1) (pa_cons (pv 3) pa_nil))) (pe_and (pe_call (ok_law_once T) hr8 rfl T.mg_law_once T.F_law_once.kp T.b_law_once .nil pass0N (pa_cons (pv 1) (pa_cons (pv 3) pa_nil))) (pe_one (pe_call (ok_law_once T) hr8 rfl T.mg_law_once T.F_law_once.kp T.b_law_once .nil pass0N (pa_cons (pv 1) (pa_cons (pv 3) pa_nil))))))))))))), ?_⟩
    try dsimp only [cxOf]
    walk_at "gos"
    intro p dx0 hp0 hdx0 hpd0
    refine ⟨p, dx0, rfl, upd_same, fun d1 d2 H1 hd1 hd2 hd12 kp hp2 hd1' hd2' => ⟨rfl, ?_⟩⟩
    obtain ⟨s1, Oc, hC, oc⟩ := chest_new (cB := a.Box) hp0 hdx0 hd1 hd2 hd12 kp hp2 hd1' hd2'
    clear hd1 hd2 hd12 kp hp2 hd1' hd2' hdx0 hpd0 d1 d2
    walk_at "gos"
    refine ⟨by show 2 ≤ sizeLine; decide, fun cm0 hcm0 => ?_⟩
    have s2 := Same.new (o := HO.lst [.int 0, .int 0]) hcm0
    have ecm0 := upd_same (H := H1) (a := cm0) (o := HO.lst [.int 0, .int 0])
    obtain ⟨Hj, eHj⟩ : ∃ Hj, upd H1 cm0 (.lst [.int 0, .int 0]) = Hj := ⟨_, rfl⟩
    rw [eHj] at s2 ecm0 ⊢
    clear eHj
    walk_at "gos"
    intro dw hdw
    have s3 := Same.new (o := HO.dK []) hdw
    have edw := upd_same (H := Hj) (a := dw) (o := HO.dK [])
    have ecm0 := s3 _ _ ecm0
    have s2 := s2.trans s3
    obtain ⟨Hk, eHk⟩ : ∃ Hk, upd Hj dw (.dK []) = Hk := ⟨_, rfl⟩
    rw [eHk] at s2 s3 ecm0 edw ⊢
    clear eHk
    walk_at "gos"
    have sk : Same Hk Hk := Same.refl _
    have sPre : Same H Hk := s1.trans s2
    refine ⟨s0, ns, rfl, sql_fr hSq (sPre _), hn0, fun cl us zs ds H8 hcl s8 e8 pu hds hlen => ?_⟩
    have hrun : runOkS 0 ⟨0, 0, [], []⟩ ds := by
      rcases hds with rfl | ⟨far, rfl⟩
      · trivial
      · exact laid_okS far
    have hCk : ChestAt a.Chest a.Box Hk p ⟨0, 0, [], []⟩ Oc := hC.same s2
    have dC : ∀ b, b ∈ Oc → ∃ o, Hk b = some o := fun b m => (hCk.dom m).elim fun o z => ⟨o, z.1⟩
    have hI0 : Inv1 a H8 H8 (fun l => l = cl ∨ (Hk l = none ∧ ∃ o, H8 l = some o)) p ⟨0, 0, [], []⟩ Oc := by
      refine ⟨(hCk.same sk).same s8, ?_, fun l o _ e => e, fun t xs e => e⟩
      rintro l (rfl | ⟨n, o, e⟩)
      · exact ⟨⟨_, e8⟩, fun m => (dC _ m).elim fun o z => by rw [sk _ _ z] at hcl; cases hcl⟩
      · exact ⟨⟨_, e⟩, fun m => (dC _ m).elim fun o z => by rw [z] at n; cases n⟩
    have cm8 : H8 cm0 = some (.lst [.int 0, .int 0]) := s8 _ _ (sk _ _ ecm0)
    have cmO : cm0 ∉ Oc := fun m => by
      obtain ⟨o, ho, _⟩ := hC.dom m
      rw [hcm0] at ho; cases ho
    have hDw : DwAt Hk dw ⟨0, 0, [], []⟩ [dw] := ⟨[], ⟨edw, fun e m => (nomatch m), fun e m => (nomatch m), List.nodup_nil, fun e m => (nomatch m), fun n _ => rfl, fun n l z => (nomatch z)⟩, rfl⟩
    have dwO : dw ∉ Oc := fun m => by
      obtain ⟨o, ho, _⟩ := (hC.same (show Same H1 Hj from by assumption)).dom m
      rw [hdw] at ho; cases ho
    have dwF : ¬ (fun l => l = cl ∨ (Hk l = none ∧ ∃ o, H8 l = some o)) dw := fun z => z.elim (fun z => by rw [← z, edw] at hcl; cases hcl) fun z => by rw [edw] at z; cases z.1
    have hDw8 := (hDw.same sk).same s8
    generalize hcs : us ++ zs.map V.int = cs at *
    have hFxl0 : ∀ l, (Hk l = none ∧ ∃ o, H8 l = some o) → (fun l => l = cl ∨ (Hk l = none ∧ ∃ o, H8 l = some o)) l := fun l z => .inr z
    have hFc0 : ∀ l, l = cl → (fun l => l = cl ∨ (Hk l = none ∧ ∃ o, H8 l = some o)) l := fun l z => .inl z
    have hmono : ∀ {t : Addr} {d : LD}, LDM H8 (fun b => Hk b = none ∧ ∃ o, H8 b = some o) t d → LDM H8 (fun l => l = cl ∨ (Hk l = none ∧ ∃ o, H8 l = some o)) t d := fun h => h.mono fun l z => .inr ⟨free_same sk z.1, z.2⟩
    generalize hFx : (fun l => l = cl ∨ (Hk l = none ∧ ∃ o, H8 l = some o)) = Fx at *
    have hFcl : Fx cl := hFc0 cl rfl
    have gcl : ∀ {H' : Hp} {S : Ch} {O : List Addr}, Inv1 a H8 H' Fx p S O → H' cl = some (.lst cs) := fun h => h.fr _ _ hFcl e8
    have lus := pu.length
    walk_at "gos"
    refine g_lenL (SqL.of e8) ?_
    refine ⟨_, rfl, by omega, by omega, for_range (lo := 0) (n := (cs.length : Int).toNat) (fun i σ H1 => ∃ S O cm v4 v5, σ = [some (.ref s0), some (.ref p), some (.ref cm), some (.ref dw), some (.ref cl), v4, v5] ∧ Inv1 a H8 H1 Fx p S O ∧ Good S ∧ WOk S ∧ H1 cm = some (.lst [.int S.nb, .int 0]) ∧ cm ∉ O ∧ (∃ N, DwAt H1 dw S N ∧ ∀ b, b ∈ O → b ∉ N) ∧ (i ≤ ds.length → S = runS 0 ⟨0, 0, [], []⟩ (ds.take i)))
      ⟨_, _, cm0, _, _, rfl, hI0, Good.empty, (fun e m => (nomatch m)), cm8, cmO, ⟨_, hDw8, fun b m m2 => dwO (List.mem_singleton.mp m2 ▸ m)⟩, fun _ => rfl⟩ ?_ ?_⟩
    · rintro i σ H1 hi ⟨S, O, cm, v4, v5, rfl, hI, G, W, ecm, ncm, ⟨N, hN, dN⟩, hrn⟩
      rw [Int.toNat_natCast] at hi
      have ecl := gcl hI
      have ev : cs[i]? = some cs[i] := List.getElem?_eq_getElem hi
      have hcell : ∃ D, CellOk H1 Fx S cs[i] D ∧ (i < ds.length → D = ds[i]?) := by
        by_cases c : i < us.length
        · have e1 : us[i]? = some cs[i] := by rw [← ev, ← hcs, List.getElem?_append_left c]
          obtain ⟨d, ed, t, e2, h⟩ := paired_get pu e1
          refine ⟨some d, ⟨t, e2, (hmono h.dom).kp hI.fr hI.tp, ?_⟩, fun _ => ed.symm⟩
          rw [hrn (by omega)]
          exact (run_atS hrun i d ed).1
        · have e1 : (zs.map V.int)[i - us.length]? = some cs[i] := by rw [← ev, ← hcs, List.getElem?_append_right (by omega)]
          rw [List.getElem?_map] at e1
          obtain ⟨z, _, e⟩ := Option.map_eq_some_iff.mp e1
          exact ⟨none, ⟨z, e.symm⟩, fun l => absurd l (by omega)⟩
      obtain ⟨DD, hcell, hDD⟩ := hcell
      walk_at "gos"
      refine g_ixL (SqL.of ecl) (at_of (j := i) (by omega) ev) ?_
      walk_at "gos"
      refine ⟨p, S, O, rfl, hI.C, G, W, fun q H2 Oq s2 hv nq => ?_⟩
      obtain ⟨L, hW, hSW, eOq, htl⟩ := hv
      have hq2 := hW.ob
      rw [htl] at hq2
      walk_at "gos"
      refine ⟨by show 1 ≤ sizeLine; decide, fun cl2 hcl2 => ?_⟩
      have n3 := Same.new (o := HO.lst [.ref cm]) hcl2
      refine ⟨q, cl2, _, _, rfl, rfl, n3 _ _ hq2, upd_same, by show 4 + 1 ≤ sizeLine; decide, fun q2 hq2n => ?_⟩
      have n4 := Same.new (o := HO.lst ([.ref L.d0, .ref L.d1, .ref L.d2, .ref L.d3] ++ [.ref cm])) hq2n
      have s24 := n3.trans n4
      have ncmq : cm ∉ ownW q L := fun m => by
        have := nq cm (by rw [eOq]; exact m)
        rw [this] at ecm; cases ecm
      have hW5 := view5 hW hSW s24 (s2 _ _ ecm) ncmq (free_same n3 hq2n) upd_same
      have s14 := s2.trans s24
      have hI4 := hI.same s14
      have ecm4 := s14 _ _ ecm
      obtain ⟨H4, eH4⟩ : ∃ H4, upd (upd H2 cl2 (.lst [.ref cm])) q2 (.lst ([.ref L.d0, .ref L.d1, .ref L.d2, .ref L.d3] ++ [.ref cm])) = H4 := ⟨_, rfl⟩
      rw [eH4] at hW5 s14 hI4 ecm4
      have s14' : Same H1 H4 := s14
      have hcell4 : CellOk H4 Fx S cs[i] DD := by
        cases DD with
        | none => exact hcell
        | some d => obtain ⟨t, e, hd, ok⟩ := hcell; exact ⟨t, e, hd.same s14, ok⟩
      walk_at "gos"
      have eH4' : upd (upd H2 cl2 (.lst [.ref cm])) q2 (.lst [.ref L.d0, .ref L.d1, .ref L.d2, .ref L.d3, .ref cm]) = H4 := eH4
      try rw [eH4]
      try rw [eH4']
      refine ⟨_, q2, S, _, Fx, DD, rfl, hW5, G, hcell4, fun t d H5 s5 hd hok hdd => ?_⟩
      have hI5 := hI4.same s5
      have ecm5 := s5 _ _ ecm4
      have lds : LDS O H5 t d := hd.lds (fun l z => z.elim (fun z => (hI5.fx l z).2) fun e m => by
        obtain ⟨o, ho, _⟩ := hI4.C.dom m
        rw [e] at ho; cases ho) fun b m => hI5.C.dom m
      walk_at "gos"
      refine ⟨p, t, S, O, d, rfl, hI5.C, lds _ (Fr.refl _ _), fun ne => absurd hok ne, fun _ H6 O6 f6 g6 hC6 => ?_⟩
      have hI6 := hI5.step f6 g6 hC6
      have ecm6 := f6 _ _ ecm5 ncm
      have ld6 := lds _ f6
      have nb6 := step_nb hok
      have G6 := G.step hok
      have W6 := W.any d
      have ncm6 : cm ∉ O6 := fun m => (g6 _ m).elim ncm fun z => by rw [ecm5] at z; cases z
      have hN5 := (hN.same s14').same s5
      have hN6 : DwAt H6 dw S N := hN5.keep f6 (f6.tups fun b m => hI5.C.dom m) fun b m m2 => dN b m2 m
      have dN6 : ∀ b, b ∈ O6 → b ∉ N := fun b m m2 => (g6 b m).elim (fun z => dN b z m2) fun e => by
        obtain ⟨o, ho, _⟩ := hN5.dom m2
        rw [e] at ho; cases ho
      have sw := stepd_will G hok
      dsimp only
      with_reducible refine g_seqcut (fun σ H7 => ∃ cm', σ = [some (.ref s0), some (.ref p), some (.ref cm'), some (.ref dw), some (.ref cl), some (.int (0 + (i : Int))), some (.ref t)] ∧ Same H6 H7 ∧ H7 cm' = some (.lst [.int (S.step d).2.2.nb, .int 0]) ∧ cm' ∉ O6) ?_ ?_
      · intro D' hrt hk
        have fin : ∀ cm' z, z = (S.step d).2.2.nb → H6 cm' = none → D'.nx [some (.ref s0), some (.ref p), some (.ref cm'), some (.ref dw), some (.ref cl), some (.int (0 + (i : Int))), some (.ref t)] (upd H6 cm' (.lst [.int z, .int 0])) := fun cm' z ez hcm => by
          subst ez
          exact hk _ _ ⟨cm', rfl, Same.new hcm, upd_same, fun m => by
            obtain ⟨o, ho, _⟩ := hC6.dom m
            rw [hcm] at ho; cases ho⟩
        cases d with
        | make n =>
          have ld6 : H6 t = some (.tup [.str "make", .int n]) := ld6
          walk_at "gos"
          refine ⟨by show 2 ≤ sizeLine; decide, fun cm' hcm => ?_⟩
          walk_at "gos"
          exact fin cm' _ (by rw [nb6]; rfl) hcm
        | will b ds =>
          obtain ⟨l, us, ld6, _⟩ := ld6
          walk_at "gos"
          refine ⟨by show 2 ≤ sizeLine; decide, fun cm' hcm => ?_⟩
          walk_at "gos"
          exact fin cm' _ (by rw [nb6]; rfl) hcm
        | _ =>
          have ld6 : H6 t = some (.tup _) := ld6
          walk_at "gos"
          refine ⟨by show 2 ≤ sizeLine; decide, fun cm' hcm => ?_⟩
          walk_at "gos"
          exact fin cm' _ (by rw [nb6]; rfl) hcm
      rintro σ H7 ⟨cm', rfl, s7, ecm7, ncm7⟩
      have hI7' := hI6.same s7
      have hN7 := hN6.same s7
      have ld7 := lds _ (f6.trans (Fr.same s7))
      with_reducible refine g_seqcut (fun σ H8 => σ = [some (.ref s0), some (.ref p), some (.ref cm'), some (.ref dw), some (.ref cl), some (.int (0 + (i : Int))), some (.ref t)] ∧ Fr [dw] H7 H8 ∧ ∃ N', DwAt H8 dw (S.step d).2.2 N' ∧ ∀ c, c ∈ N' → c ∈ N ∨ H7 c = none) ?_ ?_
      · intro D' hrt hk
        cases d with
        | will b ds =>
          obtain ⟨l, us, ld7, hl7, _, pu7⟩ := ld7
          obtain ⟨W1, h1, eN⟩ := id hN7
          have hw7 := h1.ob
          have lW := h1.len G
          have lud := pu7.length
          have l9 : ds.length ≤ 9 := by
            cases e : S.get b with
            | none => rw [st_will0 e] at hok; exact absurd (show ("box" : Str) = "" from hok) (by decide +kernel)
            | some x =>
              by_cases c : 9 < ds.length ∨ ds.any Deed.isNeg = true
              · rw [st_will1 e c] at hok; exact absurd (show ("will" : Str) = "" from hok) (by decide +kernel)
              · omega
          walk_at "gos"
          refine g_listL (SqL.of hl7) fun D hD => ?_
          have n8 := Same.new (o := HO.lst us) hD
          have nDw : D ≠ dw := fun z => by rw [z, hw7] at hD; cases hD
          have ldw : l ≠ dw := fun z => by rw [z, hw7] at hl7; cases hl7
          have tdw : t ≠ dw := fun z => by rw [z, hw7] at ld7; cases ld7
          have hw8 := n8 _ _ hw7
          have ld8 := n8 _ _ ld7
          have hl8 := n8 _ _ hl7
          have eD8 := upd_same (H := H7) (a := D) (o := HO.lst us)
          obtain ⟨Hb, eHb⟩ : ∃ Hb, upd H7 D (.lst us) = Hb := ⟨_, rfl⟩
          rw [eHb] at n8 hw8 ld8 hl8 eD8 ⊢
          clear eHb
          walk_at "gos"
          refine ⟨_, _, rfl, DPut.k (k := Sum.inl b) hw8 (small1000 (by rw [kvA_len]; omega)), ?_⟩
          rw [putW_kv (us := us)]
          have n9 : ∀ c o, Hb c = some o → c ≠ dw → upd Hb dw (.dK (kvA (putW W1 b D us))) c = some o := fun c o e z => by rw [upd_ne z]; exact e
          have hl9 := n9 _ _ hl8 ldw
          have ld9 := n9 _ _ ld8 tdw
          have eD9 := n9 _ _ eD8 nDw
          have hw9 := upd_same (H := Hb) (a := dw) (o := HO.dK (kvA (putW W1 b D us)))
          obtain ⟨Hc, eHc⟩ : ∃ Hc, upd Hb dw (.dK (kvA (putW W1 b D us))) = Hc := ⟨_, rfl⟩
          rw [eHc] at n9 hl9 ld9 eD9 hw9 ⊢
          clear eHc
          have f79 : ∀ c o, H7 c = some o → c ≠ dw → Hc c = some o := fun c o e z => n9 _ _ (n8 _ _ e) z
          have inN : ∀ e ∈ W1, e.2.1 ∈ N := fun e m => by rw [eN]; exact List.mem_cons_of_mem _ (List.mem_map.mpr ⟨e, m, rfl⟩)
          have dwN : dw ∈ N := by rw [eN]; exact List.mem_cons_self
          walk_at "gos"
          refine g_lenL (SqL.of hl9) ?_
          walk_at "gos"
          refine g_ite (fun c0 => ?_) (fun c0 => ?_)
          · have ez : ds = [] := List.length_eq_zero_iff.mp (by omega)
            walk_at "gos"
            refine ⟨_, rfl, .inl ⟨_, .inl hw9⟩, ?_⟩
            walk_at "gos"
            refine ⟨_, Sum.inl b, _, hw9, rfl, kvA_some (b := (D, us)) (by rw [putW_lk, if_pos rfl]), ?_⟩
            rw [kvA_drop]
            have mm : ∀ e ∈ (putW W1 b D us).filter fun e => decide (e.1 ≠ b), e ∈ W1 ∧ e.1 ≠ b := fun e m => by
              obtain ⟨m1, m2⟩ := List.mem_filter.mp m
              have m2 : e.1 ≠ b := by simpa using m2
              rcases putW_mem m1 with q | ⟨q, _⟩
              · exact absurd (by rw [q]) m2
              · exact ⟨q, m2⟩
            have hf : WlsAt (upd Hc dw (.dK (kvA ((putW W1 b D us).filter fun e => decide (e.1 ≠ b))))) dw ((putW W1 b D us).filter fun e => decide (e.1 ≠ b)) (S.step (.will b ds)).2.2 :=
              h1.less (b := b) mm (fun n => by
                rw [lk_filt, putW_lk]
                by_cases c : n = b
                · rw [if_pos c, if_pos c]
                · rw [if_neg c, if_neg c, if_neg c]) (filt_keys (putW_nd h1.kW)) upd_same (fun c o e z => by rw [upd_ne z]; exact f79 _ _ e z) fun n => (sw n).trans (by show (if n = b then ds else S.willOf n) = _; rw [ez])
            walk_at "gos"
            refine hk _ _ ⟨rfl, fun c o e z => ?_, _, ⟨_, hf, rfl⟩, fun c m => ?_⟩
            · have z : c ≠ dw := fun q => z (List.mem_singleton.mpr q)
              rw [upd_ne z]; exact f79 _ _ e z
            · rcases List.mem_cons.mp m with rfl | m
              · exact .inl dwN
              · obtain ⟨e, me, rfl⟩ := List.mem_map.mp m
                exact .inl (inN e (mm e me).1)
          · have ez : ds ≠ [] := fun z => c0 (by rw [z] at lud; simp at lud; rw [lud]; rfl)
            have t79 : Tups H7 Hc := fun u xs z => f79 _ _ z fun c => by rw [c, hw7] at z; cases z
            have hf : WlsAt Hc dw (putW W1 b D us) (S.step (.will b ds)).2.2 := h1.put hw9 eD9 nDw (by omega) ez (L2.Paired.mapP pu7 fun _ _ h => h.keep t79) f79 sw
            walk_at "gos"
            refine hk _ _ ⟨rfl, fun c o e z => f79 _ _ e fun q => z (List.mem_singleton.mpr q), _, ⟨_, hf, rfl⟩, fun c m => ?_⟩
            rcases List.mem_cons.mp m with rfl | m
            · exact .inl dwN
            · obtain ⟨e, me, rfl⟩ := List.mem_map.mp m
              rcases putW_mem me with rfl | ⟨q, _⟩
              · exact .inr hD
              · exact .inl (inN e q)
        | _ =>
          have ld7 : H7 t = some (.tup _) := ld7
          walk_at "gos"
          exact hk _ _ ⟨rfl, Fr.refl _ _, N, hN7.sem sw, fun c m => .inl m⟩
      rintro σ H8' ⟨rfl, f8', N7, hN8, mN7⟩
      have wdN : dw ∈ N := by
        obtain ⟨W1, _, e⟩ := hN7
        rw [e]; exact List.mem_cons_self
      obtain ⟨W1, w1, _⟩ := id hN7
      have hI7 : Inv1 a H8 H8' Fx p (S.step d).2.2 O6 := hI7'.at1 (fun m => dN6 _ m wdN) dwF w1.ob f8'
      have ecm7 := f8' _ _ ecm7 fun z => by
        rw [List.mem_singleton.mp z, w1.ob] at ecm7; cases ecm7
      have dN7 : ∀ b, b ∈ O6 → b ∉ N7 := fun b m m2 => (mN7 b m2).elim (dN6 b m) fun e => by
        obtain ⟨o, ho, _⟩ := hI7'.C.dom m
        rw [e] at ho; cases ho
      have hrn7 : i + 1 ≤ ds.length → ∀ T, (∀ z : (i % 8 = 7), T = (S.step d).2.2.swept) → (∀ z : ¬ (i % 8 = 7), T = (S.step d).2.2) → T = runS 0 ⟨0, 0, [], []⟩ (ds.take (i + 1)) := fun l T h1 h2 => by
        have ed : ds[i]? = some ds[i] := List.getElem?_eq_getElem (by omega)
        have e1 := hdd _ ((hDD (by omega)).trans ed)
        rw [(run_atS hrun i _ ed).2, ← hrn (by omega), ← e1]
        unfold LW.swp
        by_cases c : i % 8 = 7
        · rw [if_pos (by omega)]; exact h1 c
        · rw [if_neg (by omega)]; exact h2 c
      walk_at "gos"
      refine g_rI (by decide) ?_
      walk_at "gos"
      refine g_ite (fun c8 => ?_) (fun c8 => ?_)
      · walk_at "gos"
        refine ⟨p, dw, (S.step d).2.2, _, N7, rfl, hI7.C, G6, W6, hN8, dN7, fun H9' O8 N8 f8 g8 m8 b8 hN9 => ?_⟩
        obtain ⟨W2, w2, eN7⟩ := id hN8
        have hI8 := hI7.stepW (fun m => dN7 _ m (by rw [eN7]; exact List.mem_cons_self)) dwF w2.ob f8 g8 b8
        walk_at "gos"
        exact ⟨(S.step d).2.2.swept, _, cm', _, _, rfl, hI8, G6.swept, W6.swept, by rw [swept_nb]; exact f8 _ _ ecm7 (fun z => (List.mem_cons.mp z).elim (fun z => by rw [z, w2.ob] at ecm7; cases ecm7) ncm7), fun m => (g8 _ m).elim ncm7 fun z => (by rw [ecm7] at z; cases z), ⟨N8, hN9, fun b m m2 => (g8 b m).elim (fun z => dN7 b z (m8 b m2)) fun e => by
          obtain ⟨o, ho, _⟩ := hN8.dom (m8 b m2)
          rw [e] at ho; cases ho⟩, fun l => hrn7 l _ (fun _ => rfl) fun z => absurd (by omega) z⟩
      · walk_at "gos"
        exact ⟨(S.step d).2.2, _, cm', _, _, rfl, hI7, G6, W6, ecm7, ncm7, ⟨N7, hN8, dN7⟩, fun l => hrn7 l _ (fun z => absurd (by omega) c8) fun _ => rfl⟩
    · rintro σ H1 ⟨S, O, cm, v4, v5, rfl, hI, G, W, _, _, ⟨N, hN, dN⟩, _⟩
      have dj : ∀ {H : Hp} {S : Ch} {O O' N N' : List Addr}, DwAt H dw S N → (∀ b, b ∈ O → b ∉ N) → Gr O O' H → (∀ b, b ∈ N' → b ∈ N) → ∀ b, b ∈ O' → b ∉ N' := fun hN dN g m8 b m m2 => (g b m).elim (fun z => dN b z (m8 b m2)) fun e => by
        obtain ⟨o, ho, _⟩ := hN.dom (m8 b m2)
        rw [e] at ho; cases ho
      walk_at "gos"
      refine ⟨p, dw, S, O, N, rfl, hI.C, G, W, hN, dN, fun H2 O2 N2 f2 g2 m2 c2 hN2 => ?_⟩
      have d2 := dj hN dN g2 m2
      walk_at "gos"
      refine ⟨p, dw, S.swept, O2, N2, rfl, c2, G.swept, W.swept, hN2, d2, fun H3 O3 N3 f3 g3 m3 c3 hN3 => ?_⟩
      have d3 := dj hN2 d2 g3 m3
      walk_at "gos"
      refine ⟨p, dw, S.swept.swept, O3, N3, rfl, c3, G.swept.swept, W.swept.swept, hN3, d3, fun H4 O4 N4 f4 g4 m4 c4 hN4 => ?_⟩
      exact k _
end
theorem all_mk {l : PySem.W.OpenLaw} {w : World} {K : PySem.W.Frag} {h : Heap} {mg : Str → Option Value} {fa : Addr} (X : K.In h) (G : h.Ns mainGlobals mg) (hfa : mg "law" = some (.ref fa))
    {p_WillError : Addr}
    {p_NoBox : Addr}
    {p_NoSlot : Addr}
    {p_NoHand : Addr}
    {p_NoPair : Addr}
    {p_NoWill : Addr}
    {p_TooMany : Addr}
    {p_Box : Addr}
    {p_Chest : Addr}
    {f_held_by : Addr} {od_held_by an_held_by : Option Addr} {sl_held_by : Array (Option Value)} {oc_held_by kV_held_by dc_held_by pm_held_by cd_held_by ct_held_by : Value}
    {f_come_to : Addr} {od_come_to an_come_to : Option Addr} {sl_come_to : Array (Option Value)} {oc_come_to kV_come_to dc_come_to pm_come_to cd_come_to ct_come_to : Value}
    {f_lost : Addr} {od_lost an_lost : Option Addr} {sl_lost : Array (Option Value)} {oc_lost kV_lost dc_lost pm_lost cd_lost ct_lost : Value}
    {f_steps_among : Addr} {od_steps_among an_steps_among : Option Addr} {sl_steps_among : Array (Option Value)} {oc_steps_among kV_steps_among dc_steps_among pm_steps_among cd_steps_among ct_steps_among : Value}
    {f_younger_than : Addr} {od_younger_than an_younger_than : Option Addr} {sl_younger_than : Array (Option Value)} {oc_younger_than kV_younger_than dc_younger_than pm_younger_than cd_younger_than ct_younger_than : Value}
    {f_is_free : Addr} {od_is_free an_is_free : Option Addr} {sl_is_free : Array (Option Value)} {oc_is_free kV_is_free dc_is_free pm_is_free cd_is_free ct_is_free : Value}
    {f_order_of_wills : Addr} {od_order_of_wills an_order_of_wills : Option Addr} {sl_order_of_wills : Array (Option Value)} {oc_order_of_wills kV_order_of_wills dc_order_of_wills pm_order_of_wills cd_order_of_wills ct_order_of_wills : Value}
    {f_do_deed : Addr} {od_do_deed an_do_deed : Option Addr} {sl_do_deed : Array (Option Value)} {oc_do_deed kV_do_deed dc_do_deed pm_do_deed cd_do_deed ct_do_deed : Value}
    {f_do_will : Addr} {od_do_will an_do_will : Option Addr} {sl_do_will : Array (Option Value)} {oc_do_will kV_do_will dc_do_will pm_do_will cd_do_will ct_do_will : Value}
    {f_sweep : Addr} {od_sweep an_sweep : Option Addr} {sl_sweep : Array (Option Value)} {oc_sweep kV_sweep dc_sweep pm_sweep cd_sweep ct_sweep : Value}
    {f_has_number_below_0 : Addr} {od_has_number_below_0 an_has_number_below_0 : Option Addr} {sl_has_number_below_0 : Array (Option Value)} {oc_has_number_below_0 kV_has_number_below_0 dc_has_number_below_0 pm_has_number_below_0 cd_has_number_below_0 ct_has_number_below_0 : Value}
    {f_Box__init_ : Addr} {od_Box__init_ an_Box__init_ : Option Addr} {sl_Box__init_ : Array (Option Value)} {oc_Box__init_ kV_Box__init_ dc_Box__init_ pm_Box__init_ cd_Box__init_ ct_Box__init_ : Value}
    {f_Chest__init_ : Addr} {od_Chest__init_ an_Chest__init_ : Option Addr} {sl_Chest__init_ : Array (Option Value)} {oc_Chest__init_ kV_Chest__init_ dc_Chest__init_ pm_Chest__init_ cd_Chest__init_ ct_Chest__init_ : Value}
    {f_Chest_make : Addr} {od_Chest_make an_Chest_make : Option Addr} {sl_Chest_make : Array (Option Value)} {oc_Chest_make kV_Chest_make dc_Chest_make pm_Chest_make cd_Chest_make ct_Chest_make : Value}
    {f_Chest_boxes : Addr} {od_Chest_boxes an_Chest_boxes : Option Addr} {sl_Chest_boxes : Array (Option Value)} {oc_Chest_boxes kV_Chest_boxes dc_Chest_boxes pm_Chest_boxes cd_Chest_boxes ct_Chest_boxes : Value}
    {f_Chest_size : Addr} {od_Chest_size an_Chest_size : Option Addr} {sl_Chest_size : Array (Option Value)} {oc_Chest_size kV_Chest_size dc_Chest_size pm_Chest_size cd_Chest_size ct_Chest_size : Value}
    {f_Chest_put : Addr} {od_Chest_put an_Chest_put : Option Addr} {sl_Chest_put : Array (Option Value)} {oc_Chest_put kV_Chest_put dc_Chest_put pm_Chest_put cd_Chest_put ct_Chest_put : Value}
    {f_Chest_empty : Addr} {od_Chest_empty an_Chest_empty : Option Addr} {sl_Chest_empty : Array (Option Value)} {oc_Chest_empty kV_Chest_empty dc_Chest_empty pm_Chest_empty cd_Chest_empty ct_Chest_empty : Value}
    {f_Chest_told : Addr} {od_Chest_told an_Chest_told : Option Addr} {sl_Chest_told : Array (Option Value)} {oc_Chest_told kV_Chest_told dc_Chest_told pm_Chest_told cd_Chest_told ct_Chest_told : Value}
    {f_Chest_tellings : Addr} {od_Chest_tellings an_Chest_tellings : Option Addr} {sl_Chest_tellings : Array (Option Value)} {oc_Chest_tellings kV_Chest_tellings dc_Chest_tellings pm_Chest_tellings cd_Chest_tellings ct_Chest_tellings : Value}
    {f_Chest_take : Addr} {od_Chest_take an_Chest_take : Option Addr} {sl_Chest_take : Array (Option Value)} {oc_Chest_take kV_Chest_take dc_Chest_take pm_Chest_take cd_Chest_take ct_Chest_take : Value}
    {f_Chest_drop : Addr} {od_Chest_drop an_Chest_drop : Option Addr} {sl_Chest_drop : Array (Option Value)} {oc_Chest_drop kV_Chest_drop dc_Chest_drop pm_Chest_drop cd_Chest_drop ct_Chest_drop : Value}
    {f_Chest_hands : Addr} {od_Chest_hands an_Chest_hands : Option Addr} {sl_Chest_hands : Array (Option Value)} {oc_Chest_hands kV_Chest_hands dc_Chest_hands pm_Chest_hands cd_Chest_hands ct_Chest_hands : Value}
    {f_Chest_pair : Addr} {od_Chest_pair an_Chest_pair : Option Addr} {sl_Chest_pair : Array (Option Value)} {oc_Chest_pair kV_Chest_pair dc_Chest_pair pm_Chest_pair cd_Chest_pair ct_Chest_pair : Value}
    {f_Chest_unpair : Addr} {od_Chest_unpair an_Chest_unpair : Option Addr} {sl_Chest_unpair : Array (Option Value)} {oc_Chest_unpair kV_Chest_unpair dc_Chest_unpair pm_Chest_unpair cd_Chest_unpair ct_Chest_unpair : Value}
    {f_Chest_pairs : Addr} {od_Chest_pairs an_Chest_pairs : Option Addr} {sl_Chest_pairs : Array (Option Value)} {oc_Chest_pairs kV_Chest_pairs dc_Chest_pairs pm_Chest_pairs cd_Chest_pairs ct_Chest_pairs : Value}
    {f_Chest_bequeath : Addr} {od_Chest_bequeath an_Chest_bequeath : Option Addr} {sl_Chest_bequeath : Array (Option Value)} {oc_Chest_bequeath kV_Chest_bequeath dc_Chest_bequeath pm_Chest_bequeath cd_Chest_bequeath ct_Chest_bequeath : Value}
    {f_Chest_will : Addr} {od_Chest_will an_Chest_will : Option Addr} {sl_Chest_will : Array (Option Value)} {oc_Chest_will kV_Chest_will dc_Chest_will pm_Chest_will cd_Chest_will ct_Chest_will : Value}
    {f_Chest_give_up : Addr} {od_Chest_give_up an_Chest_give_up : Option Addr} {sl_Chest_give_up : Array (Option Value)} {oc_Chest_give_up kV_Chest_give_up dc_Chest_give_up pm_Chest_give_up cd_Chest_give_up ct_Chest_give_up : Value}
    {f_Chest_kept_box : Addr} {od_Chest_kept_box an_Chest_kept_box : Option Addr} {sl_Chest_kept_box : Array (Option Value)} {oc_Chest_kept_box kV_Chest_kept_box dc_Chest_kept_box pm_Chest_kept_box cd_Chest_kept_box ct_Chest_kept_box : Value}
    {f_Chest_slots_with : Addr} {od_Chest_slots_with an_Chest_slots_with : Option Addr} {sl_Chest_slots_with : Array (Option Value)} {oc_Chest_slots_with kV_Chest_slots_with dc_Chest_slots_with pm_Chest_slots_with cd_Chest_slots_with ct_Chest_slots_with : Value}
    {f_law_cell_at : Addr} {od_law_cell_at an_law_cell_at : Option Addr} {sl_law_cell_at : Array (Option Value)} {oc_law_cell_at kV_law_cell_at dc_law_cell_at pm_law_cell_at cd_law_cell_at ct_law_cell_at : Value}
    {f_law_whole : Addr} {od_law_whole an_law_whole : Option Addr} {sl_law_whole : Array (Option Value)} {oc_law_whole kV_law_whole dc_law_whole pm_law_whole cd_law_whole ct_law_whole : Value}
    {f_law_mixed : Addr} {od_law_mixed an_law_mixed : Option Addr} {sl_law_mixed : Array (Option Value)} {oc_law_mixed kV_law_mixed dc_law_mixed pm_law_mixed cd_law_mixed ct_law_mixed : Value}
    {f_law_numbers : Addr} {od_law_numbers an_law_numbers : Option Addr} {sl_law_numbers : Array (Option Value)} {oc_law_numbers kV_law_numbers dc_law_numbers pm_law_numbers cd_law_numbers ct_law_numbers : Value}
    {f_law_told : Addr} {od_law_told an_law_told : Option Addr} {sl_law_told : Array (Option Value)} {oc_law_told kV_law_told dc_law_told pm_law_told cd_law_told ct_law_told : Value}
    {f_law_will_of : Addr} {od_law_will_of an_law_will_of : Option Addr} {sl_law_will_of : Array (Option Value)} {oc_law_will_of kV_law_will_of dc_law_will_of pm_law_will_of cd_law_will_of ct_law_will_of : Value}
    {f_law_deed_by : Addr} {od_law_deed_by an_law_deed_by : Option Addr} {sl_law_deed_by : Array (Option Value)} {oc_law_deed_by kV_law_deed_by dc_law_deed_by pm_law_deed_by cd_law_deed_by ct_law_deed_by : Value}
    {f_law_laid : Addr} {od_law_laid an_law_laid : Option Addr} {sl_law_laid : Array (Option Value)} {oc_law_laid kV_law_laid dc_law_laid pm_law_laid cd_law_laid ct_law_laid : Value}
    {f_law_cells : Addr} {od_law_cells an_law_cells : Option Addr} {sl_law_cells : Array (Option Value)} {oc_law_cells kV_law_cells dc_law_cells pm_law_cells cd_law_cells ct_law_cells : Value}
    {f_law_view : Addr} {od_law_view an_law_view : Option Addr} {sl_law_view : Array (Option Value)} {oc_law_view kV_law_view dc_law_view pm_law_view cd_law_view ct_law_view : Value}
    {f_law_three : Addr} {od_law_three an_law_three : Option Addr} {sl_law_three : Array (Option Value)} {oc_law_three kV_law_three dc_law_three pm_law_three cd_law_three ct_law_three : Value}
    {f_law_once : Addr} {od_law_once an_law_once : Option Addr} {sl_law_once : Array (Option Value)} {oc_law_once kV_law_once dc_law_once pm_law_once cd_law_once ct_law_once : Value}
    {f_law : Addr} {od_law an_law : Option Addr} {sl_law : Array (Option Value)} {oc_law kV_law dc_law pm_law cd_law ct_law : Value}
    {t_LARGEST_SIZE : Tok}
    {t_MOST_BOXES : Tok}
    {t_MOST_PAIRS : Tok}
    {t_MOST_DEEDS : Tok}
    (a_WillError : PySem.W.nsIn K mainGlobals "WillError" = some (some (.ref p_WillError)))
    (a_NoBox : PySem.W.nsIn K mainGlobals "NoBox" = some (some (.ref p_NoBox)))
    (a_NoSlot : PySem.W.nsIn K mainGlobals "NoSlot" = some (some (.ref p_NoSlot)))
    (a_NoHand : PySem.W.nsIn K mainGlobals "NoHand" = some (some (.ref p_NoHand)))
    (a_NoPair : PySem.W.nsIn K mainGlobals "NoPair" = some (some (.ref p_NoPair)))
    (a_NoWill : PySem.W.nsIn K mainGlobals "NoWill" = some (some (.ref p_NoWill)))
    (a_TooMany : PySem.W.nsIn K mainGlobals "TooMany" = some (some (.ref p_TooMany)))
    (a_Box : PySem.W.nsIn K mainGlobals "Box" = some (some (.ref p_Box)))
    (a_Chest : PySem.W.nsIn K mainGlobals "Chest" = some (some (.ref p_Chest)))
    (a_held_by : PySem.W.nsIn K mainGlobals "held_by" = some (some (.ref f_held_by)))
    (l_held_by : K.lookup f_held_by = some ⟨oc_held_by, od_held_by, .func (PySem.W.fnOf "held_by" "held_by" (defArgs s_held_by) (defBody s_held_by) (defScope s_held_by) .none kV_held_by dc_held_by pm_held_by an_held_by cd_held_by ct_held_by), sl_held_by⟩)
    (c_held_by : PySem.W.codeIn K cd_held_by "held_by" = true)
    (k_held_by : PySem.W.keepIn K (.ref f_held_by) = true)
    (a_come_to : PySem.W.nsIn K mainGlobals "come_to" = some (some (.ref f_come_to)))
    (l_come_to : K.lookup f_come_to = some ⟨oc_come_to, od_come_to, .func (PySem.W.fnOf "come_to" "come_to" (defArgs s_come_to) (defBody s_come_to) (defScope s_come_to) .none kV_come_to dc_come_to pm_come_to an_come_to cd_come_to ct_come_to), sl_come_to⟩)
    (c_come_to : PySem.W.codeIn K cd_come_to "come_to" = true)
    (k_come_to : PySem.W.keepIn K (.ref f_come_to) = true)
    (a_lost : PySem.W.nsIn K mainGlobals "lost" = some (some (.ref f_lost)))
    (l_lost : K.lookup f_lost = some ⟨oc_lost, od_lost, .func (PySem.W.fnOf "lost" "lost" (defArgs s_lost) (defBody s_lost) (defScope s_lost) .none kV_lost dc_lost pm_lost an_lost cd_lost ct_lost), sl_lost⟩)
    (c_lost : PySem.W.codeIn K cd_lost "lost" = true)
    (k_lost : PySem.W.keepIn K (.ref f_lost) = true)
    (a_steps_among : PySem.W.nsIn K mainGlobals "steps_among" = some (some (.ref f_steps_among)))
    (l_steps_among : K.lookup f_steps_among = some ⟨oc_steps_among, od_steps_among, .func (PySem.W.fnOf "steps_among" "steps_among" (defArgs s_steps_among) (defBody s_steps_among) (defScope s_steps_among) .none kV_steps_among dc_steps_among pm_steps_among an_steps_among cd_steps_among ct_steps_among), sl_steps_among⟩)
    (c_steps_among : PySem.W.codeIn K cd_steps_among "steps_among" = true)
    (k_steps_among : PySem.W.keepIn K (.ref f_steps_among) = true)
    (a_younger_than : PySem.W.nsIn K mainGlobals "younger_than" = some (some (.ref f_younger_than)))
    (l_younger_than : K.lookup f_younger_than = some ⟨oc_younger_than, od_younger_than, .func (PySem.W.fnOf "younger_than" "younger_than" (defArgs s_younger_than) (defBody s_younger_than) (defScope s_younger_than) .none kV_younger_than dc_younger_than pm_younger_than an_younger_than cd_younger_than ct_younger_than), sl_younger_than⟩)
    (c_younger_than : PySem.W.codeIn K cd_younger_than "younger_than" = true)
    (k_younger_than : PySem.W.keepIn K (.ref f_younger_than) = true)
    (a_is_free : PySem.W.nsIn K mainGlobals "is_free" = some (some (.ref f_is_free)))
    (l_is_free : K.lookup f_is_free = some ⟨oc_is_free, od_is_free, .func (PySem.W.fnOf "is_free" "is_free" (defArgs s_is_free) (defBody s_is_free) (defScope s_is_free) .none kV_is_free dc_is_free pm_is_free an_is_free cd_is_free ct_is_free), sl_is_free⟩)
    (c_is_free : PySem.W.codeIn K cd_is_free "is_free" = true)
    (k_is_free : PySem.W.keepIn K (.ref f_is_free) = true)
    (a_order_of_wills : PySem.W.nsIn K mainGlobals "order_of_wills" = some (some (.ref f_order_of_wills)))
    (l_order_of_wills : K.lookup f_order_of_wills = some ⟨oc_order_of_wills, od_order_of_wills, .func (PySem.W.fnOf "order_of_wills" "order_of_wills" (defArgs s_order_of_wills) (defBody s_order_of_wills) (defScope s_order_of_wills) .none kV_order_of_wills dc_order_of_wills pm_order_of_wills an_order_of_wills cd_order_of_wills ct_order_of_wills), sl_order_of_wills⟩)
    (c_order_of_wills : PySem.W.codeIn K cd_order_of_wills "order_of_wills" = true)
    (k_order_of_wills : PySem.W.keepIn K (.ref f_order_of_wills) = true)
    (a_do_deed : PySem.W.nsIn K mainGlobals "do_deed" = some (some (.ref f_do_deed)))
    (l_do_deed : K.lookup f_do_deed = some ⟨oc_do_deed, od_do_deed, .func (PySem.W.fnOf "do_deed" "do_deed" (defArgs s_do_deed) (defBody s_do_deed) (defScope s_do_deed) .none kV_do_deed dc_do_deed pm_do_deed an_do_deed cd_do_deed ct_do_deed), sl_do_deed⟩)
    (c_do_deed : PySem.W.codeIn K cd_do_deed "do_deed" = true)
    (k_do_deed : PySem.W.keepIn K (.ref f_do_deed) = true)
    (a_do_will : PySem.W.nsIn K mainGlobals "do_will" = some (some (.ref f_do_will)))
    (l_do_will : K.lookup f_do_will = some ⟨oc_do_will, od_do_will, .func (PySem.W.fnOf "do_will" "do_will" (defArgs s_do_will) (defBody s_do_will) (defScope s_do_will) .none kV_do_will dc_do_will pm_do_will an_do_will cd_do_will ct_do_will), sl_do_will⟩)
    (c_do_will : PySem.W.codeIn K cd_do_will "do_will" = true)
    (k_do_will : PySem.W.keepIn K (.ref f_do_will) = true)
    (a_sweep : PySem.W.nsIn K mainGlobals "sweep" = some (some (.ref f_sweep)))
    (l_sweep : K.lookup f_sweep = some ⟨oc_sweep, od_sweep, .func (PySem.W.fnOf "sweep" "sweep" (defArgs s_sweep) (defBody s_sweep) (defScope s_sweep) .none kV_sweep dc_sweep pm_sweep an_sweep cd_sweep ct_sweep), sl_sweep⟩)
    (c_sweep : PySem.W.codeIn K cd_sweep "sweep" = true)
    (k_sweep : PySem.W.keepIn K (.ref f_sweep) = true)
    (a_has_number_below_0 : PySem.W.nsIn K mainGlobals "has_number_below_0" = some (some (.ref f_has_number_below_0)))
    (l_has_number_below_0 : K.lookup f_has_number_below_0 = some ⟨oc_has_number_below_0, od_has_number_below_0, .func (PySem.W.fnOf "has_number_below_0" "has_number_below_0" (defArgs s_has_number_below_0) (defBody s_has_number_below_0) (defScope s_has_number_below_0) .none kV_has_number_below_0 dc_has_number_below_0 pm_has_number_below_0 an_has_number_below_0 cd_has_number_below_0 ct_has_number_below_0), sl_has_number_below_0⟩)
    (c_has_number_below_0 : PySem.W.codeIn K cd_has_number_below_0 "has_number_below_0" = true)
    (k_has_number_below_0 : PySem.W.keepIn K (.ref f_has_number_below_0) = true)
    (a_Box__init_ : PySem.W.findIn K (.ref p_Box) "__init__" = some (some (.ref f_Box__init_)))
    (i_Box__init_ : PySem.W.isFn K (.ref f_Box__init_) = true)
    (l_Box__init_ : K.lookup f_Box__init_ = some ⟨oc_Box__init_, od_Box__init_, .func (PySem.W.fnOf "__init__" "Box.__init__" (defArgs s_Box__init_) (defBody s_Box__init_) (defScope s_Box__init_) .none kV_Box__init_ dc_Box__init_ pm_Box__init_ an_Box__init_ cd_Box__init_ ct_Box__init_), sl_Box__init_⟩)
    (c_Box__init_ : PySem.W.codeIn K cd_Box__init_ "Box.__init__" = true)
    (k_Box__init_ : PySem.W.keepIn K (.ref f_Box__init_) = true)
    (a_Chest__init_ : PySem.W.findIn K (.ref p_Chest) "__init__" = some (some (.ref f_Chest__init_)))
    (i_Chest__init_ : PySem.W.isFn K (.ref f_Chest__init_) = true)
    (l_Chest__init_ : K.lookup f_Chest__init_ = some ⟨oc_Chest__init_, od_Chest__init_, .func (PySem.W.fnOf "__init__" "Chest.__init__" (defArgs s_Chest__init_) (defBody s_Chest__init_) (defScope s_Chest__init_) .none kV_Chest__init_ dc_Chest__init_ pm_Chest__init_ an_Chest__init_ cd_Chest__init_ ct_Chest__init_), sl_Chest__init_⟩)
    (c_Chest__init_ : PySem.W.codeIn K cd_Chest__init_ "Chest.__init__" = true)
    (k_Chest__init_ : PySem.W.keepIn K (.ref f_Chest__init_) = true)
    (a_Chest_make : PySem.W.findIn K (.ref p_Chest) "make" = some (some (.ref f_Chest_make)))
    (i_Chest_make : PySem.W.isFn K (.ref f_Chest_make) = true)
    (l_Chest_make : K.lookup f_Chest_make = some ⟨oc_Chest_make, od_Chest_make, .func (PySem.W.fnOf "make" "Chest.make" (defArgs s_Chest_make) (defBody s_Chest_make) (defScope s_Chest_make) .none kV_Chest_make dc_Chest_make pm_Chest_make an_Chest_make cd_Chest_make ct_Chest_make), sl_Chest_make⟩)
    (c_Chest_make : PySem.W.codeIn K cd_Chest_make "Chest.make" = true)
    (k_Chest_make : PySem.W.keepIn K (.ref f_Chest_make) = true)
    (a_Chest_boxes : PySem.W.findIn K (.ref p_Chest) "boxes" = some (some (.ref f_Chest_boxes)))
    (i_Chest_boxes : PySem.W.isFn K (.ref f_Chest_boxes) = true)
    (l_Chest_boxes : K.lookup f_Chest_boxes = some ⟨oc_Chest_boxes, od_Chest_boxes, .func (PySem.W.fnOf "boxes" "Chest.boxes" (defArgs s_Chest_boxes) (defBody s_Chest_boxes) (defScope s_Chest_boxes) .none kV_Chest_boxes dc_Chest_boxes pm_Chest_boxes an_Chest_boxes cd_Chest_boxes ct_Chest_boxes), sl_Chest_boxes⟩)
    (c_Chest_boxes : PySem.W.codeIn K cd_Chest_boxes "Chest.boxes" = true)
    (k_Chest_boxes : PySem.W.keepIn K (.ref f_Chest_boxes) = true)
    (a_Chest_size : PySem.W.findIn K (.ref p_Chest) "size" = some (some (.ref f_Chest_size)))
    (i_Chest_size : PySem.W.isFn K (.ref f_Chest_size) = true)
    (l_Chest_size : K.lookup f_Chest_size = some ⟨oc_Chest_size, od_Chest_size, .func (PySem.W.fnOf "size" "Chest.size" (defArgs s_Chest_size) (defBody s_Chest_size) (defScope s_Chest_size) .none kV_Chest_size dc_Chest_size pm_Chest_size an_Chest_size cd_Chest_size ct_Chest_size), sl_Chest_size⟩)
    (c_Chest_size : PySem.W.codeIn K cd_Chest_size "Chest.size" = true)
    (k_Chest_size : PySem.W.keepIn K (.ref f_Chest_size) = true)
    (a_Chest_put : PySem.W.findIn K (.ref p_Chest) "put" = some (some (.ref f_Chest_put)))
    (i_Chest_put : PySem.W.isFn K (.ref f_Chest_put) = true)
    (l_Chest_put : K.lookup f_Chest_put = some ⟨oc_Chest_put, od_Chest_put, .func (PySem.W.fnOf "put" "Chest.put" (defArgs s_Chest_put) (defBody s_Chest_put) (defScope s_Chest_put) .none kV_Chest_put dc_Chest_put pm_Chest_put an_Chest_put cd_Chest_put ct_Chest_put), sl_Chest_put⟩)
    (c_Chest_put : PySem.W.codeIn K cd_Chest_put "Chest.put" = true)
    (k_Chest_put : PySem.W.keepIn K (.ref f_Chest_put) = true)
    (a_Chest_empty : PySem.W.findIn K (.ref p_Chest) "empty" = some (some (.ref f_Chest_empty)))
    (i_Chest_empty : PySem.W.isFn K (.ref f_Chest_empty) = true)
    (l_Chest_empty : K.lookup f_Chest_empty = some ⟨oc_Chest_empty, od_Chest_empty, .func (PySem.W.fnOf "empty" "Chest.empty" (defArgs s_Chest_empty) (defBody s_Chest_empty) (defScope s_Chest_empty) .none kV_Chest_empty dc_Chest_empty pm_Chest_empty an_Chest_empty cd_Chest_empty ct_Chest_empty), sl_Chest_empty⟩)
    (c_Chest_empty : PySem.W.codeIn K cd_Chest_empty "Chest.empty" = true)
    (k_Chest_empty : PySem.W.keepIn K (.ref f_Chest_empty) = true)
    (a_Chest_told : PySem.W.findIn K (.ref p_Chest) "told" = some (some (.ref f_Chest_told)))
    (i_Chest_told : PySem.W.isFn K (.ref f_Chest_told) = true)
    (l_Chest_told : K.lookup f_Chest_told = some ⟨oc_Chest_told, od_Chest_told, .func (PySem.W.fnOf "told" "Chest.told" (defArgs s_Chest_told) (defBody s_Chest_told) (defScope s_Chest_told) .none kV_Chest_told dc_Chest_told pm_Chest_told an_Chest_told cd_Chest_told ct_Chest_told), sl_Chest_told⟩)
    (c_Chest_told : PySem.W.codeIn K cd_Chest_told "Chest.told" = true)
    (k_Chest_told : PySem.W.keepIn K (.ref f_Chest_told) = true)
    (a_Chest_tellings : PySem.W.findIn K (.ref p_Chest) "tellings" = some (some (.ref f_Chest_tellings)))
    (i_Chest_tellings : PySem.W.isFn K (.ref f_Chest_tellings) = true)
    (l_Chest_tellings : K.lookup f_Chest_tellings = some ⟨oc_Chest_tellings, od_Chest_tellings, .func (PySem.W.fnOf "tellings" "Chest.tellings" (defArgs s_Chest_tellings) (defBody s_Chest_tellings) (defScope s_Chest_tellings) .none kV_Chest_tellings dc_Chest_tellings pm_Chest_tellings an_Chest_tellings cd_Chest_tellings ct_Chest_tellings), sl_Chest_tellings⟩)
    (c_Chest_tellings : PySem.W.codeIn K cd_Chest_tellings "Chest.tellings" = true)
    (k_Chest_tellings : PySem.W.keepIn K (.ref f_Chest_tellings) = true)
    (a_Chest_take : PySem.W.findIn K (.ref p_Chest) "take" = some (some (.ref f_Chest_take)))
    (i_Chest_take : PySem.W.isFn K (.ref f_Chest_take) = true)
    (l_Chest_take : K.lookup f_Chest_take = some ⟨oc_Chest_take, od_Chest_take, .func (PySem.W.fnOf "take" "Chest.take" (defArgs s_Chest_take) (defBody s_Chest_take) (defScope s_Chest_take) .none kV_Chest_take dc_Chest_take pm_Chest_take an_Chest_take cd_Chest_take ct_Chest_take), sl_Chest_take⟩)
    (c_Chest_take : PySem.W.codeIn K cd_Chest_take "Chest.take" = true)
    (k_Chest_take : PySem.W.keepIn K (.ref f_Chest_take) = true)
    (a_Chest_drop : PySem.W.findIn K (.ref p_Chest) "drop" = some (some (.ref f_Chest_drop)))
    (i_Chest_drop : PySem.W.isFn K (.ref f_Chest_drop) = true)
    (l_Chest_drop : K.lookup f_Chest_drop = some ⟨oc_Chest_drop, od_Chest_drop, .func (PySem.W.fnOf "drop" "Chest.drop" (defArgs s_Chest_drop) (defBody s_Chest_drop) (defScope s_Chest_drop) .none kV_Chest_drop dc_Chest_drop pm_Chest_drop an_Chest_drop cd_Chest_drop ct_Chest_drop), sl_Chest_drop⟩)
    (c_Chest_drop : PySem.W.codeIn K cd_Chest_drop "Chest.drop" = true)
    (k_Chest_drop : PySem.W.keepIn K (.ref f_Chest_drop) = true)
    (a_Chest_hands : PySem.W.findIn K (.ref p_Chest) "hands" = some (some (.ref f_Chest_hands)))
    (i_Chest_hands : PySem.W.isFn K (.ref f_Chest_hands) = true)
    (l_Chest_hands : K.lookup f_Chest_hands = some ⟨oc_Chest_hands, od_Chest_hands, .func (PySem.W.fnOf "hands" "Chest.hands" (defArgs s_Chest_hands) (defBody s_Chest_hands) (defScope s_Chest_hands) .none kV_Chest_hands dc_Chest_hands pm_Chest_hands an_Chest_hands cd_Chest_hands ct_Chest_hands), sl_Chest_hands⟩)
    (c_Chest_hands : PySem.W.codeIn K cd_Chest_hands "Chest.hands" = true)
    (k_Chest_hands : PySem.W.keepIn K (.ref f_Chest_hands) = true)
    (a_Chest_pair : PySem.W.findIn K (.ref p_Chest) "pair" = some (some (.ref f_Chest_pair)))
    (i_Chest_pair : PySem.W.isFn K (.ref f_Chest_pair) = true)
    (l_Chest_pair : K.lookup f_Chest_pair = some ⟨oc_Chest_pair, od_Chest_pair, .func (PySem.W.fnOf "pair" "Chest.pair" (defArgs s_Chest_pair) (defBody s_Chest_pair) (defScope s_Chest_pair) .none kV_Chest_pair dc_Chest_pair pm_Chest_pair an_Chest_pair cd_Chest_pair ct_Chest_pair), sl_Chest_pair⟩)
    (c_Chest_pair : PySem.W.codeIn K cd_Chest_pair "Chest.pair" = true)
    (k_Chest_pair : PySem.W.keepIn K (.ref f_Chest_pair) = true)
    (a_Chest_unpair : PySem.W.findIn K (.ref p_Chest) "unpair" = some (some (.ref f_Chest_unpair)))
    (i_Chest_unpair : PySem.W.isFn K (.ref f_Chest_unpair) = true)
    (l_Chest_unpair : K.lookup f_Chest_unpair = some ⟨oc_Chest_unpair, od_Chest_unpair, .func (PySem.W.fnOf "unpair" "Chest.unpair" (defArgs s_Chest_unpair) (defBody s_Chest_unpair) (defScope s_Chest_unpair) .none kV_Chest_unpair dc_Chest_unpair pm_Chest_unpair an_Chest_unpair cd_Chest_unpair ct_Chest_unpair), sl_Chest_unpair⟩)
    (c_Chest_unpair : PySem.W.codeIn K cd_Chest_unpair "Chest.unpair" = true)
    (k_Chest_unpair : PySem.W.keepIn K (.ref f_Chest_unpair) = true)
    (a_Chest_pairs : PySem.W.findIn K (.ref p_Chest) "pairs" = some (some (.ref f_Chest_pairs)))
    (i_Chest_pairs : PySem.W.isFn K (.ref f_Chest_pairs) = true)
    (l_Chest_pairs : K.lookup f_Chest_pairs = some ⟨oc_Chest_pairs, od_Chest_pairs, .func (PySem.W.fnOf "pairs" "Chest.pairs" (defArgs s_Chest_pairs) (defBody s_Chest_pairs) (defScope s_Chest_pairs) .none kV_Chest_pairs dc_Chest_pairs pm_Chest_pairs an_Chest_pairs cd_Chest_pairs ct_Chest_pairs), sl_Chest_pairs⟩)
    (c_Chest_pairs : PySem.W.codeIn K cd_Chest_pairs "Chest.pairs" = true)
    (k_Chest_pairs : PySem.W.keepIn K (.ref f_Chest_pairs) = true)
    (a_Chest_bequeath : PySem.W.findIn K (.ref p_Chest) "bequeath" = some (some (.ref f_Chest_bequeath)))
    (i_Chest_bequeath : PySem.W.isFn K (.ref f_Chest_bequeath) = true)
    (l_Chest_bequeath : K.lookup f_Chest_bequeath = some ⟨oc_Chest_bequeath, od_Chest_bequeath, .func (PySem.W.fnOf "bequeath" "Chest.bequeath" (defArgs s_Chest_bequeath) (defBody s_Chest_bequeath) (defScope s_Chest_bequeath) .none kV_Chest_bequeath dc_Chest_bequeath pm_Chest_bequeath an_Chest_bequeath cd_Chest_bequeath ct_Chest_bequeath), sl_Chest_bequeath⟩)
    (c_Chest_bequeath : PySem.W.codeIn K cd_Chest_bequeath "Chest.bequeath" = true)
    (k_Chest_bequeath : PySem.W.keepIn K (.ref f_Chest_bequeath) = true)
    (a_Chest_will : PySem.W.findIn K (.ref p_Chest) "will" = some (some (.ref f_Chest_will)))
    (i_Chest_will : PySem.W.isFn K (.ref f_Chest_will) = true)
    (l_Chest_will : K.lookup f_Chest_will = some ⟨oc_Chest_will, od_Chest_will, .func (PySem.W.fnOf "will" "Chest.will" (defArgs s_Chest_will) (defBody s_Chest_will) (defScope s_Chest_will) .none kV_Chest_will dc_Chest_will pm_Chest_will an_Chest_will cd_Chest_will ct_Chest_will), sl_Chest_will⟩)
    (c_Chest_will : PySem.W.codeIn K cd_Chest_will "Chest.will" = true)
    (k_Chest_will : PySem.W.keepIn K (.ref f_Chest_will) = true)
    (a_Chest_give_up : PySem.W.findIn K (.ref p_Chest) "give_up" = some (some (.ref f_Chest_give_up)))
    (i_Chest_give_up : PySem.W.isFn K (.ref f_Chest_give_up) = true)
    (l_Chest_give_up : K.lookup f_Chest_give_up = some ⟨oc_Chest_give_up, od_Chest_give_up, .func (PySem.W.fnOf "give_up" "Chest.give_up" (defArgs s_Chest_give_up) (defBody s_Chest_give_up) (defScope s_Chest_give_up) .none kV_Chest_give_up dc_Chest_give_up pm_Chest_give_up an_Chest_give_up cd_Chest_give_up ct_Chest_give_up), sl_Chest_give_up⟩)
    (c_Chest_give_up : PySem.W.codeIn K cd_Chest_give_up "Chest.give_up" = true)
    (k_Chest_give_up : PySem.W.keepIn K (.ref f_Chest_give_up) = true)
    (a_Chest_kept_box : PySem.W.findIn K (.ref p_Chest) "_kept_box" = some (some (.ref f_Chest_kept_box)))
    (i_Chest_kept_box : PySem.W.isFn K (.ref f_Chest_kept_box) = true)
    (l_Chest_kept_box : K.lookup f_Chest_kept_box = some ⟨oc_Chest_kept_box, od_Chest_kept_box, .func (PySem.W.fnOf "_kept_box" "Chest._kept_box" (defArgs s_Chest_kept_box) (defBody s_Chest_kept_box) (defScope s_Chest_kept_box) .none kV_Chest_kept_box dc_Chest_kept_box pm_Chest_kept_box an_Chest_kept_box cd_Chest_kept_box ct_Chest_kept_box), sl_Chest_kept_box⟩)
    (c_Chest_kept_box : PySem.W.codeIn K cd_Chest_kept_box "Chest._kept_box" = true)
    (k_Chest_kept_box : PySem.W.keepIn K (.ref f_Chest_kept_box) = true)
    (a_Chest_slots_with : PySem.W.findIn K (.ref p_Chest) "_slots_with" = some (some (.ref f_Chest_slots_with)))
    (i_Chest_slots_with : PySem.W.isFn K (.ref f_Chest_slots_with) = true)
    (l_Chest_slots_with : K.lookup f_Chest_slots_with = some ⟨oc_Chest_slots_with, od_Chest_slots_with, .func (PySem.W.fnOf "_slots_with" "Chest._slots_with" (defArgs s_Chest_slots_with) (defBody s_Chest_slots_with) (defScope s_Chest_slots_with) .none kV_Chest_slots_with dc_Chest_slots_with pm_Chest_slots_with an_Chest_slots_with cd_Chest_slots_with ct_Chest_slots_with), sl_Chest_slots_with⟩)
    (c_Chest_slots_with : PySem.W.codeIn K cd_Chest_slots_with "Chest._slots_with" = true)
    (k_Chest_slots_with : PySem.W.keepIn K (.ref f_Chest_slots_with) = true)
    (a_law_cell_at : PySem.W.nsIn K mainGlobals "_law_cell_at" = some (some (.ref f_law_cell_at)))
    (l_law_cell_at : K.lookup f_law_cell_at = some ⟨oc_law_cell_at, od_law_cell_at, .func (PySem.W.fnOf "_law_cell_at" "_law_cell_at" (defArgs s_law_cell_at) (defBody s_law_cell_at) (defScope s_law_cell_at) .none kV_law_cell_at dc_law_cell_at pm_law_cell_at an_law_cell_at cd_law_cell_at ct_law_cell_at), sl_law_cell_at⟩)
    (c_law_cell_at : PySem.W.codeIn K cd_law_cell_at "_law_cell_at" = true)
    (k_law_cell_at : PySem.W.keepIn K (.ref f_law_cell_at) = true)
    (a_law_whole : PySem.W.nsIn K mainGlobals "_law_whole" = some (some (.ref f_law_whole)))
    (l_law_whole : K.lookup f_law_whole = some ⟨oc_law_whole, od_law_whole, .func (PySem.W.fnOf "_law_whole" "_law_whole" (defArgs s_law_whole) (defBody s_law_whole) (defScope s_law_whole) .none kV_law_whole dc_law_whole pm_law_whole an_law_whole cd_law_whole ct_law_whole), sl_law_whole⟩)
    (c_law_whole : PySem.W.codeIn K cd_law_whole "_law_whole" = true)
    (k_law_whole : PySem.W.keepIn K (.ref f_law_whole) = true)
    (a_law_mixed : PySem.W.nsIn K mainGlobals "_law_mixed" = some (some (.ref f_law_mixed)))
    (l_law_mixed : K.lookup f_law_mixed = some ⟨oc_law_mixed, od_law_mixed, .func (PySem.W.fnOf "_law_mixed" "_law_mixed" (defArgs s_law_mixed) (defBody s_law_mixed) (defScope s_law_mixed) .none kV_law_mixed dc_law_mixed pm_law_mixed an_law_mixed cd_law_mixed ct_law_mixed), sl_law_mixed⟩)
    (c_law_mixed : PySem.W.codeIn K cd_law_mixed "_law_mixed" = true)
    (k_law_mixed : PySem.W.keepIn K (.ref f_law_mixed) = true)
    (a_law_numbers : PySem.W.nsIn K mainGlobals "_law_numbers" = some (some (.ref f_law_numbers)))
    (l_law_numbers : K.lookup f_law_numbers = some ⟨oc_law_numbers, od_law_numbers, .func (PySem.W.fnOf "_law_numbers" "_law_numbers" (defArgs s_law_numbers) (defBody s_law_numbers) (defScope s_law_numbers) .none kV_law_numbers dc_law_numbers pm_law_numbers an_law_numbers cd_law_numbers ct_law_numbers), sl_law_numbers⟩)
    (c_law_numbers : PySem.W.codeIn K cd_law_numbers "_law_numbers" = true)
    (k_law_numbers : PySem.W.keepIn K (.ref f_law_numbers) = true)
    (a_law_told : PySem.W.nsIn K mainGlobals "_law_told" = some (some (.ref f_law_told)))
    (l_law_told : K.lookup f_law_told = some ⟨oc_law_told, od_law_told, .func (PySem.W.fnOf "_law_told" "_law_told" (defArgs s_law_told) (defBody s_law_told) (defScope s_law_told) .none kV_law_told dc_law_told pm_law_told an_law_told cd_law_told ct_law_told), sl_law_told⟩)
    (c_law_told : PySem.W.codeIn K cd_law_told "_law_told" = true)
    (k_law_told : PySem.W.keepIn K (.ref f_law_told) = true)
    (a_law_will_of : PySem.W.nsIn K mainGlobals "_law_will_of" = some (some (.ref f_law_will_of)))
    (l_law_will_of : K.lookup f_law_will_of = some ⟨oc_law_will_of, od_law_will_of, .func (PySem.W.fnOf "_law_will_of" "_law_will_of" (defArgs s_law_will_of) (defBody s_law_will_of) (defScope s_law_will_of) .none kV_law_will_of dc_law_will_of pm_law_will_of an_law_will_of cd_law_will_of ct_law_will_of), sl_law_will_of⟩)
    (c_law_will_of : PySem.W.codeIn K cd_law_will_of "_law_will_of" = true)
    (k_law_will_of : PySem.W.keepIn K (.ref f_law_will_of) = true)
    (a_law_deed_by : PySem.W.nsIn K mainGlobals "_law_deed_by" = some (some (.ref f_law_deed_by)))
    (l_law_deed_by : K.lookup f_law_deed_by = some ⟨oc_law_deed_by, od_law_deed_by, .func (PySem.W.fnOf "_law_deed_by" "_law_deed_by" (defArgs s_law_deed_by) (defBody s_law_deed_by) (defScope s_law_deed_by) .none kV_law_deed_by dc_law_deed_by pm_law_deed_by an_law_deed_by cd_law_deed_by ct_law_deed_by), sl_law_deed_by⟩)
    (c_law_deed_by : PySem.W.codeIn K cd_law_deed_by "_law_deed_by" = true)
    (k_law_deed_by : PySem.W.keepIn K (.ref f_law_deed_by) = true)
    (a_law_laid : PySem.W.nsIn K mainGlobals "_law_laid" = some (some (.ref f_law_laid)))
    (l_law_laid : K.lookup f_law_laid = some ⟨oc_law_laid, od_law_laid, .func (PySem.W.fnOf "_law_laid" "_law_laid" (defArgs s_law_laid) (defBody s_law_laid) (defScope s_law_laid) .none kV_law_laid dc_law_laid pm_law_laid an_law_laid cd_law_laid ct_law_laid), sl_law_laid⟩)
    (c_law_laid : PySem.W.codeIn K cd_law_laid "_law_laid" = true)
    (k_law_laid : PySem.W.keepIn K (.ref f_law_laid) = true)
    (a_law_cells : PySem.W.nsIn K mainGlobals "_law_cells" = some (some (.ref f_law_cells)))
    (l_law_cells : K.lookup f_law_cells = some ⟨oc_law_cells, od_law_cells, .func (PySem.W.fnOf "_law_cells" "_law_cells" (defArgs s_law_cells) (defBody s_law_cells) (defScope s_law_cells) .none kV_law_cells dc_law_cells pm_law_cells an_law_cells cd_law_cells ct_law_cells), sl_law_cells⟩)
    (c_law_cells : PySem.W.codeIn K cd_law_cells "_law_cells" = true)
    (k_law_cells : PySem.W.keepIn K (.ref f_law_cells) = true)
    (a_law_view : PySem.W.nsIn K mainGlobals "_law_view" = some (some (.ref f_law_view)))
    (l_law_view : K.lookup f_law_view = some ⟨oc_law_view, od_law_view, .func (PySem.W.fnOf "_law_view" "_law_view" (defArgs s_law_view) (defBody s_law_view) (defScope s_law_view) .none kV_law_view dc_law_view pm_law_view an_law_view cd_law_view ct_law_view), sl_law_view⟩)
    (c_law_view : PySem.W.codeIn K cd_law_view "_law_view" = true)
    (k_law_view : PySem.W.keepIn K (.ref f_law_view) = true)
    (a_law_three : PySem.W.nsIn K mainGlobals "_law_three" = some (some (.ref f_law_three)))
    (l_law_three : K.lookup f_law_three = some ⟨oc_law_three, od_law_three, .func (PySem.W.fnOf "_law_three" "_law_three" (defArgs s_law_three) (defBody s_law_three) (defScope s_law_three) .none kV_law_three dc_law_three pm_law_three an_law_three cd_law_three ct_law_three), sl_law_three⟩)
    (c_law_three : PySem.W.codeIn K cd_law_three "_law_three" = true)
    (k_law_three : PySem.W.keepIn K (.ref f_law_three) = true)
    (a_law_once : PySem.W.nsIn K mainGlobals "_law_once" = some (some (.ref f_law_once)))
    (l_law_once : K.lookup f_law_once = some ⟨oc_law_once, od_law_once, .func (PySem.W.fnOf "_law_once" "_law_once" (defArgs s_law_once) (defBody s_law_once) (defScope s_law_once) .none kV_law_once dc_law_once pm_law_once an_law_once cd_law_once ct_law_once), sl_law_once⟩)
    (c_law_once : PySem.W.codeIn K cd_law_once "_law_once" = true)
    (k_law_once : PySem.W.keepIn K (.ref f_law_once) = true)
    (a_law : PySem.W.nsIn K mainGlobals "law" = some (some (.ref f_law)))
    (l_law : K.lookup f_law = some ⟨oc_law, od_law, .func (PySem.W.fnOf "law" "law" (defArgs s_law) (defBody s_law) (defScope s_law) .none kV_law dc_law pm_law an_law cd_law ct_law), sl_law⟩)
    (c_law : PySem.W.codeIn K cd_law "law" = true)
    (k_law : PySem.W.keepIn K (.ref f_law) = true)
    (pg_Box : PySem.W.plainGet K p_Box Str.empty = true)
    (hd_Box : PySem.W.hasDictIn K p_Box = true)
    (po_Box : PySem.W.plainOver K p_Box = true)
    (sa_Box : PySem.W.findIn K (.ref p_Box) "__setattr__" = some (some (.builtin "object.__setattr__")))
    (mk_Box : PySem.W.makesIn K p_Box = true)
    (kc_Box : PySem.W.keepIn K (.ref p_Box) = true)
    (na_Box_slots : PySem.W.findIn K (.ref p_Box) "slots" = some none)
    (na_Box_in_hands : PySem.W.findIn K (.ref p_Box) "in_hands" = some none)
    (na_Box_deeds : PySem.W.findIn K (.ref p_Box) "deeds" = some none)
    (pg_Chest : PySem.W.plainGet K p_Chest Str.empty = true)
    (hd_Chest : PySem.W.hasDictIn K p_Chest = true)
    (po_Chest : PySem.W.plainOver K p_Chest = true)
    (sa_Chest : PySem.W.findIn K (.ref p_Chest) "__setattr__" = some (some (.builtin "object.__setattr__")))
    (mk_Chest : PySem.W.makesIn K p_Chest = true)
    (kc_Chest : PySem.W.keepIn K (.ref p_Chest) = true)
    (na_Chest_next_box : PySem.W.findIn K (.ref p_Chest) "next_box" = some none)
    (na_Chest_next_pair : PySem.W.findIn K (.ref p_Chest) "next_pair" = some none)
    (na_Chest_kept_boxes : PySem.W.findIn K (.ref p_Chest) "kept_boxes" = some none)
    (na_Chest_kept_pairs : PySem.W.findIn K (.ref p_Chest) "kept_pairs" = some none)
    (sW : PySem.W.subIn K (.ref p_WillError) (.type "BaseException") = some true)
    (dW : PySem.W.hasDictIn K p_WillError = true)
    (tW : PySem.W.typeIn K (.ref p_WillError) = some (.type "type"))
    (xn : PySem.W.specialIn K (.builtin "object.__class__") "__get__" = some (some (.builtin "getset_descriptor.__get__")))
    (xt : PySem.W.takesIn K (.builtin "object.__class__") = some true)
    (ic_NoBox : PySem.W.isClsIn K p_NoBox = true)
    (it_NoBox : PySem.W.typeIn K (.ref p_NoBox) = some (.type "type"))
    (ss_NoBox : PySem.W.subIn K (.ref p_NoBox) (.ref p_NoBox) = some true)
    (ic_NoSlot : PySem.W.isClsIn K p_NoSlot = true)
    (it_NoSlot : PySem.W.typeIn K (.ref p_NoSlot) = some (.type "type"))
    (ss_NoSlot : PySem.W.subIn K (.ref p_NoSlot) (.ref p_NoSlot) = some true)
    (ic_NoHand : PySem.W.isClsIn K p_NoHand = true)
    (it_NoHand : PySem.W.typeIn K (.ref p_NoHand) = some (.type "type"))
    (ss_NoHand : PySem.W.subIn K (.ref p_NoHand) (.ref p_NoHand) = some true)
    (ic_NoPair : PySem.W.isClsIn K p_NoPair = true)
    (it_NoPair : PySem.W.typeIn K (.ref p_NoPair) = some (.type "type"))
    (ss_NoPair : PySem.W.subIn K (.ref p_NoPair) (.ref p_NoPair) = some true)
    (ic_NoWill : PySem.W.isClsIn K p_NoWill = true)
    (it_NoWill : PySem.W.typeIn K (.ref p_NoWill) = some (.type "type"))
    (ss_NoWill : PySem.W.subIn K (.ref p_NoWill) (.ref p_NoWill) = some true)
    (ic_TooMany : PySem.W.isClsIn K p_TooMany = true)
    (it_TooMany : PySem.W.typeIn K (.ref p_TooMany) = some (.type "type"))
    (ss_TooMany : PySem.W.subIn K (.ref p_TooMany) (.ref p_TooMany) = some true)
    (x_NoSlot : PySem.W.excIn K p_NoSlot [.type "ValueError", .type "Exception", .type "BaseException", .type "object"] "ValueError.__new__" = true)
    (xk_NoSlot : PySem.W.keepIn K (.ref p_NoSlot) = true)
    (xs_NoSlot : PySem.W.subIn K (.ref p_NoSlot) (.type "BaseException") = some true)
    (xy_NoSlot : PySem.W.typeIn K (.ref p_NoSlot) = some (.type "type"))
    (xg_NoSlot : PySem.W.findIn K (.ref p_NoSlot) "__getattribute__" = some (some (.builtin "BaseException.__getattribute__")))
    (xh_NoSlot : PySem.W.findIn K (.ref p_NoSlot) "__getattr__" = some none)
    (xd_NoSlot : PySem.W.hasDictIn K p_NoSlot = true)
    (xc_NoSlot : PySem.W.findIn K (.ref p_NoSlot) "__class__" = some (some (.builtin "object.__class__")))
    (xm_NoSlot : PySem.W.mroIn K p_NoSlot (.type "object") = some true)
    (xw_NoSlot : PySem.W.subIn K (.ref p_NoSlot) (.ref p_WillError) = some true)
    (is_NoSlot_NoBox : PySem.W.subIn K (.ref p_NoSlot) (.ref p_NoBox) = some false)
    (is_NoSlot_NoSlot : PySem.W.subIn K (.ref p_NoSlot) (.ref p_NoSlot) = some true)
    (is_NoSlot_NoHand : PySem.W.subIn K (.ref p_NoSlot) (.ref p_NoHand) = some false)
    (is_NoSlot_NoPair : PySem.W.subIn K (.ref p_NoSlot) (.ref p_NoPair) = some false)
    (is_NoSlot_NoWill : PySem.W.subIn K (.ref p_NoSlot) (.ref p_NoWill) = some false)
    (is_NoSlot_TooMany : PySem.W.subIn K (.ref p_NoSlot) (.ref p_TooMany) = some false)
    (is_NoSlot_ValueError : PySem.W.subIn K (.ref p_NoSlot) (.type "ValueError") = some true)
    (x_TooMany : PySem.W.excIn K p_TooMany [.type "ValueError", .type "Exception", .type "BaseException", .type "object"] "ValueError.__new__" = true)
    (xk_TooMany : PySem.W.keepIn K (.ref p_TooMany) = true)
    (xs_TooMany : PySem.W.subIn K (.ref p_TooMany) (.type "BaseException") = some true)
    (xy_TooMany : PySem.W.typeIn K (.ref p_TooMany) = some (.type "type"))
    (xg_TooMany : PySem.W.findIn K (.ref p_TooMany) "__getattribute__" = some (some (.builtin "BaseException.__getattribute__")))
    (xh_TooMany : PySem.W.findIn K (.ref p_TooMany) "__getattr__" = some none)
    (xd_TooMany : PySem.W.hasDictIn K p_TooMany = true)
    (xc_TooMany : PySem.W.findIn K (.ref p_TooMany) "__class__" = some (some (.builtin "object.__class__")))
    (xm_TooMany : PySem.W.mroIn K p_TooMany (.type "object") = some true)
    (xw_TooMany : PySem.W.subIn K (.ref p_TooMany) (.ref p_WillError) = some true)
    (is_TooMany_NoBox : PySem.W.subIn K (.ref p_TooMany) (.ref p_NoBox) = some false)
    (is_TooMany_NoSlot : PySem.W.subIn K (.ref p_TooMany) (.ref p_NoSlot) = some false)
    (is_TooMany_NoHand : PySem.W.subIn K (.ref p_TooMany) (.ref p_NoHand) = some false)
    (is_TooMany_NoPair : PySem.W.subIn K (.ref p_TooMany) (.ref p_NoPair) = some false)
    (is_TooMany_NoWill : PySem.W.subIn K (.ref p_TooMany) (.ref p_NoWill) = some false)
    (is_TooMany_TooMany : PySem.W.subIn K (.ref p_TooMany) (.ref p_TooMany) = some true)
    (is_TooMany_ValueError : PySem.W.subIn K (.ref p_TooMany) (.type "ValueError") = some true)
    (x_NoHand : PySem.W.excIn K p_NoHand [.type "ValueError", .type "Exception", .type "BaseException", .type "object"] "ValueError.__new__" = true)
    (xk_NoHand : PySem.W.keepIn K (.ref p_NoHand) = true)
    (xs_NoHand : PySem.W.subIn K (.ref p_NoHand) (.type "BaseException") = some true)
    (xy_NoHand : PySem.W.typeIn K (.ref p_NoHand) = some (.type "type"))
    (xg_NoHand : PySem.W.findIn K (.ref p_NoHand) "__getattribute__" = some (some (.builtin "BaseException.__getattribute__")))
    (xh_NoHand : PySem.W.findIn K (.ref p_NoHand) "__getattr__" = some none)
    (xd_NoHand : PySem.W.hasDictIn K p_NoHand = true)
    (xc_NoHand : PySem.W.findIn K (.ref p_NoHand) "__class__" = some (some (.builtin "object.__class__")))
    (xm_NoHand : PySem.W.mroIn K p_NoHand (.type "object") = some true)
    (xw_NoHand : PySem.W.subIn K (.ref p_NoHand) (.ref p_WillError) = some true)
    (is_NoHand_NoBox : PySem.W.subIn K (.ref p_NoHand) (.ref p_NoBox) = some false)
    (is_NoHand_NoSlot : PySem.W.subIn K (.ref p_NoHand) (.ref p_NoSlot) = some false)
    (is_NoHand_NoHand : PySem.W.subIn K (.ref p_NoHand) (.ref p_NoHand) = some true)
    (is_NoHand_NoPair : PySem.W.subIn K (.ref p_NoHand) (.ref p_NoPair) = some false)
    (is_NoHand_NoWill : PySem.W.subIn K (.ref p_NoHand) (.ref p_NoWill) = some false)
    (is_NoHand_TooMany : PySem.W.subIn K (.ref p_NoHand) (.ref p_TooMany) = some false)
    (is_NoHand_ValueError : PySem.W.subIn K (.ref p_NoHand) (.type "ValueError") = some true)
    (x_NoPair : PySem.W.excIn K p_NoPair [.type "ValueError", .type "Exception", .type "BaseException", .type "object"] "ValueError.__new__" = true)
    (xk_NoPair : PySem.W.keepIn K (.ref p_NoPair) = true)
    (xs_NoPair : PySem.W.subIn K (.ref p_NoPair) (.type "BaseException") = some true)
    (xy_NoPair : PySem.W.typeIn K (.ref p_NoPair) = some (.type "type"))
    (xg_NoPair : PySem.W.findIn K (.ref p_NoPair) "__getattribute__" = some (some (.builtin "BaseException.__getattribute__")))
    (xh_NoPair : PySem.W.findIn K (.ref p_NoPair) "__getattr__" = some none)
    (xd_NoPair : PySem.W.hasDictIn K p_NoPair = true)
    (xc_NoPair : PySem.W.findIn K (.ref p_NoPair) "__class__" = some (some (.builtin "object.__class__")))
    (xm_NoPair : PySem.W.mroIn K p_NoPair (.type "object") = some true)
    (xw_NoPair : PySem.W.subIn K (.ref p_NoPair) (.ref p_WillError) = some true)
    (is_NoPair_NoBox : PySem.W.subIn K (.ref p_NoPair) (.ref p_NoBox) = some false)
    (is_NoPair_NoSlot : PySem.W.subIn K (.ref p_NoPair) (.ref p_NoSlot) = some false)
    (is_NoPair_NoHand : PySem.W.subIn K (.ref p_NoPair) (.ref p_NoHand) = some false)
    (is_NoPair_NoPair : PySem.W.subIn K (.ref p_NoPair) (.ref p_NoPair) = some true)
    (is_NoPair_NoWill : PySem.W.subIn K (.ref p_NoPair) (.ref p_NoWill) = some false)
    (is_NoPair_TooMany : PySem.W.subIn K (.ref p_NoPair) (.ref p_TooMany) = some false)
    (is_NoPair_ValueError : PySem.W.subIn K (.ref p_NoPair) (.type "ValueError") = some true)
    (x_NoWill : PySem.W.excIn K p_NoWill [.type "ValueError", .type "Exception", .type "BaseException", .type "object"] "ValueError.__new__" = true)
    (xk_NoWill : PySem.W.keepIn K (.ref p_NoWill) = true)
    (xs_NoWill : PySem.W.subIn K (.ref p_NoWill) (.type "BaseException") = some true)
    (xy_NoWill : PySem.W.typeIn K (.ref p_NoWill) = some (.type "type"))
    (xg_NoWill : PySem.W.findIn K (.ref p_NoWill) "__getattribute__" = some (some (.builtin "BaseException.__getattribute__")))
    (xh_NoWill : PySem.W.findIn K (.ref p_NoWill) "__getattr__" = some none)
    (xd_NoWill : PySem.W.hasDictIn K p_NoWill = true)
    (xc_NoWill : PySem.W.findIn K (.ref p_NoWill) "__class__" = some (some (.builtin "object.__class__")))
    (xm_NoWill : PySem.W.mroIn K p_NoWill (.type "object") = some true)
    (xw_NoWill : PySem.W.subIn K (.ref p_NoWill) (.ref p_WillError) = some true)
    (is_NoWill_NoBox : PySem.W.subIn K (.ref p_NoWill) (.ref p_NoBox) = some false)
    (is_NoWill_NoSlot : PySem.W.subIn K (.ref p_NoWill) (.ref p_NoSlot) = some false)
    (is_NoWill_NoHand : PySem.W.subIn K (.ref p_NoWill) (.ref p_NoHand) = some false)
    (is_NoWill_NoPair : PySem.W.subIn K (.ref p_NoWill) (.ref p_NoPair) = some false)
    (is_NoWill_NoWill : PySem.W.subIn K (.ref p_NoWill) (.ref p_NoWill) = some true)
    (is_NoWill_TooMany : PySem.W.subIn K (.ref p_NoWill) (.ref p_TooMany) = some false)
    (is_NoWill_ValueError : PySem.W.subIn K (.ref p_NoWill) (.type "ValueError") = some true)
    (x_NoBox : PySem.W.excIn K p_NoBox [.type "ValueError", .type "Exception", .type "BaseException", .type "object"] "ValueError.__new__" = true)
    (xk_NoBox : PySem.W.keepIn K (.ref p_NoBox) = true)
    (xs_NoBox : PySem.W.subIn K (.ref p_NoBox) (.type "BaseException") = some true)
    (xy_NoBox : PySem.W.typeIn K (.ref p_NoBox) = some (.type "type"))
    (xg_NoBox : PySem.W.findIn K (.ref p_NoBox) "__getattribute__" = some (some (.builtin "BaseException.__getattribute__")))
    (xh_NoBox : PySem.W.findIn K (.ref p_NoBox) "__getattr__" = some none)
    (xd_NoBox : PySem.W.hasDictIn K p_NoBox = true)
    (xc_NoBox : PySem.W.findIn K (.ref p_NoBox) "__class__" = some (some (.builtin "object.__class__")))
    (xm_NoBox : PySem.W.mroIn K p_NoBox (.type "object") = some true)
    (xw_NoBox : PySem.W.subIn K (.ref p_NoBox) (.ref p_WillError) = some true)
    (is_NoBox_NoBox : PySem.W.subIn K (.ref p_NoBox) (.ref p_NoBox) = some true)
    (is_NoBox_NoSlot : PySem.W.subIn K (.ref p_NoBox) (.ref p_NoSlot) = some false)
    (is_NoBox_NoHand : PySem.W.subIn K (.ref p_NoBox) (.ref p_NoHand) = some false)
    (is_NoBox_NoPair : PySem.W.subIn K (.ref p_NoBox) (.ref p_NoPair) = some false)
    (is_NoBox_NoWill : PySem.W.subIn K (.ref p_NoBox) (.ref p_NoWill) = some false)
    (is_NoBox_TooMany : PySem.W.subIn K (.ref p_NoBox) (.ref p_TooMany) = some false)
    (is_NoBox_ValueError : PySem.W.subIn K (.ref p_NoBox) (.type "ValueError") = some true)
    (g_LARGEST_SIZE : PySem.W.nsIn K mainGlobals "LARGEST_SIZE" = some (some (.int 9 t_LARGEST_SIZE)))
    (g_MOST_BOXES : PySem.W.nsIn K mainGlobals "MOST_BOXES" = some (some (.int 60 t_MOST_BOXES)))
    (g_MOST_PAIRS : PySem.W.nsIn K mainGlobals "MOST_PAIRS" = some (some (.int 60 t_MOST_PAIRS)))
    (g_MOST_DEEDS : PySem.W.nsIn K mainGlobals "MOST_DEEDS" = some (some (.int 9 t_MOST_DEEDS)))
    (z_ValueError : PySem.W.nsIn K mainGlobals "ValueError" = some none)
    (z_all : PySem.W.nsIn K mainGlobals "all" = some none)
    (z_any : PySem.W.nsIn K mainGlobals "any" = some none)
    (z_bool : PySem.W.nsIn K mainGlobals "bool" = some none)
    (z_dict : PySem.W.nsIn K mainGlobals "dict" = some none)
    (z_enumerate : PySem.W.nsIn K mainGlobals "enumerate" = some none)
    (z_int : PySem.W.nsIn K mainGlobals "int" = some none)
    (z_isinstance : PySem.W.nsIn K mainGlobals "isinstance" = some none)
    (z_len : PySem.W.nsIn K mainGlobals "len" = some none)
    (z_list : PySem.W.nsIn K mainGlobals "list" = some none)
    (z_min : PySem.W.nsIn K mainGlobals "min" = some none)
    (z_range : PySem.W.nsIn K mainGlobals "range" = some none)
    (z_set : PySem.W.nsIn K mainGlobals "set" = some none)
    (z_sorted : PySem.W.nsIn K mainGlobals "sorted" = some none)
    (z_tuple : PySem.W.nsIn K mainGlobals "tuple" = some none)
    : ∃ fd : FuncData, (∀ (s : Shared) (v : Value), BindsTo s fd ⟨[v], []⟩ [("_law_script", v)]) ∧ ∀ base : Heap, K.In base → base.Ns mainGlobals mg → FnOk l.prog w K mg base (CN l.prog w) 9 fa fd ["_law_script"] (spLaw K) := by
  have e := hfa.symm.trans (PySem.W.mg_of X G a_law)
  cases e
  have F_held_by := fun_mk (st := s_held_by) l_held_by c_held_by k_held_by
  have b_held_by := F_held_by.binds (ps := ["chest", "reached"]) fun _ _ _ _ _ _ us hl => match us, hl with | [_, _], _ => rfl
  have F_come_to := fun_mk (st := s_come_to) l_come_to c_come_to k_come_to
  have b_come_to := F_come_to.binds (ps := ["chest"]) fun _ _ _ _ _ _ us hl => match us, hl with | [_], _ => rfl
  have F_lost := fun_mk (st := s_lost) l_lost c_lost k_lost
  have b_lost := F_lost.binds (ps := ["chest"]) fun _ _ _ _ _ _ us hl => match us, hl with | [_], _ => rfl
  have F_steps_among := fun_mk (st := s_steps_among) l_steps_among c_steps_among k_steps_among
  have b_steps_among := F_steps_among.binds (ps := ["chest", "boxes"]) fun _ _ _ _ _ _ us hl => match us, hl with | [_, _], _ => rfl
  have F_younger_than := fun_mk (st := s_younger_than) l_younger_than c_younger_than k_younger_than
  have b_younger_than := F_younger_than.binds (ps := ["box", "steps"]) fun _ _ _ _ _ _ us hl => match us, hl with | [_, _], _ => rfl
  have F_is_free := fun_mk (st := s_is_free) l_is_free c_is_free k_is_free
  have b_is_free := F_is_free.binds (ps := ["box", "left", "younger"]) fun _ _ _ _ _ _ us hl => match us, hl with | [_, _, _], _ => rfl
  have F_order_of_wills := fun_mk (st := s_order_of_wills) l_order_of_wills c_order_of_wills k_order_of_wills
  have b_order_of_wills := F_order_of_wills.binds (ps := ["chest"]) fun _ _ _ _ _ _ us hl => match us, hl with | [_], _ => rfl
  have F_do_deed := fun_mk (st := s_do_deed) l_do_deed c_do_deed k_do_deed
  have b_do_deed := F_do_deed.binds (ps := ["chest", "box", "deed"]) fun _ _ _ _ _ _ us hl => match us, hl with | [_, _, _], _ => rfl
  have F_do_will := fun_mk (st := s_do_will) l_do_will c_do_will k_do_will
  have b_do_will := F_do_will.binds (ps := ["chest", "box"]) fun _ _ _ _ _ _ us hl => match us, hl with | [_, _], _ => rfl
  have F_sweep := fun_mk (st := s_sweep) l_sweep c_sweep k_sweep
  have b_sweep := F_sweep.binds (ps := ["chest"]) fun _ _ _ _ _ _ us hl => match us, hl with | [_], _ => rfl
  have F_has_number_below_0 := fun_mk (st := s_has_number_below_0) l_has_number_below_0 c_has_number_below_0 k_has_number_below_0
  have b_has_number_below_0 := F_has_number_below_0.binds (ps := ["deed"]) fun _ _ _ _ _ _ us hl => match us, hl with | [_], _ => rfl
  have F_Box__init_ := fun_mk (st := s_Box__init_) l_Box__init_ c_Box__init_ k_Box__init_
  have b_Box__init_ := F_Box__init_.binds (ps := ["self", "size"]) fun _ _ _ _ _ _ us hl => match us, hl with | [_, _], _ => rfl
  have F_Chest__init_ := fun_mk (st := s_Chest__init_) l_Chest__init_ c_Chest__init_ k_Chest__init_
  have b_Chest__init_ := F_Chest__init_.binds (ps := ["self"]) fun _ _ _ _ _ _ us hl => match us, hl with | [_], _ => rfl
  have F_Chest_make := fun_mk (st := s_Chest_make) l_Chest_make c_Chest_make k_Chest_make
  have b_Chest_make := F_Chest_make.binds (ps := ["self", "size"]) fun _ _ _ _ _ _ us hl => match us, hl with | [_, _], _ => rfl
  have F_Chest_boxes := fun_mk (st := s_Chest_boxes) l_Chest_boxes c_Chest_boxes k_Chest_boxes
  have b_Chest_boxes := F_Chest_boxes.binds (ps := ["self"]) fun _ _ _ _ _ _ us hl => match us, hl with | [_], _ => rfl
  have F_Chest_size := fun_mk (st := s_Chest_size) l_Chest_size c_Chest_size k_Chest_size
  have b_Chest_size := F_Chest_size.binds (ps := ["self", "box"]) fun _ _ _ _ _ _ us hl => match us, hl with | [_, _], _ => rfl
  have F_Chest_put := fun_mk (st := s_Chest_put) l_Chest_put c_Chest_put k_Chest_put
  have b_Chest_put := F_Chest_put.binds (ps := ["self", "box", "slot", "other", "holds"]) fun _ _ _ _ _ _ us hl => match us, hl with | [_, _, _, _, _], _ => rfl
  have F_Chest_empty := fun_mk (st := s_Chest_empty) l_Chest_empty c_Chest_empty k_Chest_empty
  have b_Chest_empty := F_Chest_empty.binds (ps := ["self", "box", "slot"]) fun _ _ _ _ _ _ us hl => match us, hl with | [_, _, _], _ => rfl
  have F_Chest_told := fun_mk (st := s_Chest_told) l_Chest_told c_Chest_told k_Chest_told
  have b_Chest_told := F_Chest_told.binds (ps := ["self", "box", "slot"]) fun _ _ _ _ _ _ us hl => match us, hl with | [_, _, _], _ => rfl
  have F_Chest_tellings := fun_mk (st := s_Chest_tellings) l_Chest_tellings c_Chest_tellings k_Chest_tellings
  have b_Chest_tellings := F_Chest_tellings.binds (ps := ["self"]) fun _ _ _ _ _ _ us hl => match us, hl with | [_], _ => rfl
  have F_Chest_take := fun_mk (st := s_Chest_take) l_Chest_take c_Chest_take k_Chest_take
  have b_Chest_take := F_Chest_take.binds (ps := ["self", "box"]) fun _ _ _ _ _ _ us hl => match us, hl with | [_, _], _ => rfl
  have F_Chest_drop := fun_mk (st := s_Chest_drop) l_Chest_drop c_Chest_drop k_Chest_drop
  have b_Chest_drop := F_Chest_drop.binds (ps := ["self", "box"]) fun _ _ _ _ _ _ us hl => match us, hl with | [_, _], _ => rfl
  have F_Chest_hands := fun_mk (st := s_Chest_hands) l_Chest_hands c_Chest_hands k_Chest_hands
  have b_Chest_hands := F_Chest_hands.binds (ps := ["self"]) fun _ _ _ _ _ _ us hl => match us, hl with | [_], _ => rfl
  have F_Chest_pair := fun_mk (st := s_Chest_pair) l_Chest_pair c_Chest_pair k_Chest_pair
  have b_Chest_pair := F_Chest_pair.binds (ps := ["self", "home", "key", "other"]) fun _ _ _ _ _ _ us hl => match us, hl with | [_, _, _, _], _ => rfl
  have F_Chest_unpair := fun_mk (st := s_Chest_unpair) l_Chest_unpair c_Chest_unpair k_Chest_unpair
  have b_Chest_unpair := F_Chest_unpair.binds (ps := ["self", "pair"]) fun _ _ _ _ _ _ us hl => match us, hl with | [_, _], _ => rfl
  have F_Chest_pairs := fun_mk (st := s_Chest_pairs) l_Chest_pairs c_Chest_pairs k_Chest_pairs
  have b_Chest_pairs := F_Chest_pairs.binds (ps := ["self"]) fun _ _ _ _ _ _ us hl => match us, hl with | [_], _ => rfl
  have F_Chest_bequeath := fun_mk (st := s_Chest_bequeath) l_Chest_bequeath c_Chest_bequeath k_Chest_bequeath
  have b_Chest_bequeath := F_Chest_bequeath.binds (ps := ["self", "box", "deeds"]) fun _ _ _ _ _ _ us hl => match us, hl with | [_, _, _], _ => rfl
  have F_Chest_will := fun_mk (st := s_Chest_will) l_Chest_will c_Chest_will k_Chest_will
  have b_Chest_will := F_Chest_will.binds (ps := ["self", "box"]) fun _ _ _ _ _ _ us hl => match us, hl with | [_, _], _ => rfl
  have F_Chest_give_up := fun_mk (st := s_Chest_give_up) l_Chest_give_up c_Chest_give_up k_Chest_give_up
  have b_Chest_give_up := F_Chest_give_up.binds (ps := ["self", "boxes"]) fun _ _ _ _ _ _ us hl => match us, hl with | [_, _], _ => rfl
  have F_Chest_kept_box := fun_mk (st := s_Chest_kept_box) l_Chest_kept_box c_Chest_kept_box k_Chest_kept_box
  have b_Chest_kept_box := F_Chest_kept_box.binds (ps := ["self", "box"]) fun _ _ _ _ _ _ us hl => match us, hl with | [_, _], _ => rfl
  have F_Chest_slots_with := fun_mk (st := s_Chest_slots_with) l_Chest_slots_with c_Chest_slots_with k_Chest_slots_with
  have b_Chest_slots_with := F_Chest_slots_with.binds (ps := ["self", "box", "slot"]) fun _ _ _ _ _ _ us hl => match us, hl with | [_, _, _], _ => rfl
  have F_law_cell_at := fun_mk (st := s_law_cell_at) l_law_cell_at c_law_cell_at k_law_cell_at
  have b_law_cell_at := F_law_cell_at.binds (ps := ["_law_script", "_law_k"]) fun _ _ _ _ _ _ us hl => match us, hl with | [_, _], _ => rfl
  have F_law_whole := fun_mk (st := s_law_whole) l_law_whole c_law_whole k_law_whole
  have b_law_whole := F_law_whole.binds (ps := ["_law_found"]) fun _ _ _ _ _ _ us hl => match us, hl with | [_], _ => rfl
  have F_law_mixed := fun_mk (st := s_law_mixed) l_law_mixed c_law_mixed k_law_mixed
  have b_law_mixed := F_law_mixed.binds (ps := ["_law_cell", "_law_k", "_law_many"]) fun _ _ _ _ _ _ us hl => match us, hl with | [_, _, _], _ => rfl
  have F_law_numbers := fun_mk (st := s_law_numbers) l_law_numbers c_law_numbers k_law_numbers
  have b_law_numbers := F_law_numbers.binds (ps := ["_law_found", "_law_due"]) fun _ _ _ _ _ _ us hl => match us, hl with | [_, _], _ => rfl
  have F_law_told := fun_mk (st := s_law_told) l_law_told c_law_told k_law_told
  have b_law_told := F_law_told.binds (ps := ["_law_chest", "_law_deed"]) fun _ _ _ _ _ _ us hl => match us, hl with | [_, _], _ => rfl
  have F_law_will_of := fun_mk (st := s_law_will_of) l_law_will_of c_law_will_of k_law_will_of
  have b_law_will_of := F_law_will_of.binds (ps := ["_law_boxes", "_law_cell", "_law_coming"]) fun _ _ _ _ _ _ us hl => match us, hl with | [_, _, _], _ => rfl
  have F_law_deed_by := fun_mk (st := s_law_deed_by) l_law_deed_by c_law_deed_by k_law_deed_by
  have b_law_deed_by := F_law_deed_by.binds (ps := ["_law_cell", "_law_world_here"]) fun _ _ _ _ _ _ us hl => match us, hl with | [_, _], _ => rfl
  have F_law_laid := fun_mk (st := s_law_laid) l_law_laid c_law_laid k_law_laid
  have b_law_laid := F_law_laid.binds (ps := ["_law_far"]) fun _ _ _ _ _ _ us hl => match us, hl with | [_], _ => rfl
  have F_law_cells := fun_mk (st := s_law_cells) l_law_cells c_law_cells k_law_cells
  have b_law_cells := F_law_cells.binds (ps := ["_law_script"]) fun _ _ _ _ _ _ us hl => match us, hl with | [_], _ => rfl
  have F_law_view := fun_mk (st := s_law_view) l_law_view c_law_view k_law_view
  have b_law_view := F_law_view.binds (ps := ["_law_chest"]) fun _ _ _ _ _ _ us hl => match us, hl with | [_], _ => rfl
  have F_law_three := fun_mk (st := s_law_three) l_law_three c_law_three k_law_three
  have b_law_three := F_law_three.binds (ps := ["_law_found"]) fun _ _ _ _ _ _ us hl => match us, hl with | [_], _ => rfl
  have F_law_once := fun_mk (st := s_law_once) l_law_once c_law_once k_law_once
  have b_law_once := F_law_once.binds (ps := ["_law_chest", "_law_wills"]) fun _ _ _ _ _ _ us hl => match us, hl with | [_, _], _ => rfl
  have F_law := fun_mk (st := s_law) l_law c_law k_law
  have b_law := F_law.binds (ps := ["_law_script"]) fun _ _ _ _ _ _ us hl => match us, hl with | [_], _ => rfl
  have T : Txt { WillError := p_WillError, NoBox := p_NoBox, NoSlot := p_NoSlot, NoHand := p_NoHand, NoPair := p_NoPair, NoWill := p_NoWill, TooMany := p_TooMany, Box := p_Box, Chest := p_Chest, f_held_by := f_held_by, fd_held_by := (PySem.W.fnOf "held_by" "held_by" (defArgs s_held_by) (defBody s_held_by) (defScope s_held_by) .none kV_held_by dc_held_by pm_held_by an_held_by cd_held_by ct_held_by), f_come_to := f_come_to, fd_come_to := (PySem.W.fnOf "come_to" "come_to" (defArgs s_come_to) (defBody s_come_to) (defScope s_come_to) .none kV_come_to dc_come_to pm_come_to an_come_to cd_come_to ct_come_to), f_lost := f_lost, fd_lost := (PySem.W.fnOf "lost" "lost" (defArgs s_lost) (defBody s_lost) (defScope s_lost) .none kV_lost dc_lost pm_lost an_lost cd_lost ct_lost), f_steps_among := f_steps_among, fd_steps_among := (PySem.W.fnOf "steps_among" "steps_among" (defArgs s_steps_among) (defBody s_steps_among) (defScope s_steps_among) .none kV_steps_among dc_steps_among pm_steps_among an_steps_among cd_steps_among ct_steps_among), f_younger_than := f_younger_than, fd_younger_than := (PySem.W.fnOf "younger_than" "younger_than" (defArgs s_younger_than) (defBody s_younger_than) (defScope s_younger_than) .none kV_younger_than dc_younger_than pm_younger_than an_younger_than cd_younger_than ct_younger_than), f_is_free := f_is_free, fd_is_free := (PySem.W.fnOf "is_free" "is_free" (defArgs s_is_free) (defBody s_is_free) (defScope s_is_free) .none kV_is_free dc_is_free pm_is_free an_is_free cd_is_free ct_is_free), f_order_of_wills := f_order_of_wills, fd_order_of_wills := (PySem.W.fnOf "order_of_wills" "order_of_wills" (defArgs s_order_of_wills) (defBody s_order_of_wills) (defScope s_order_of_wills) .none kV_order_of_wills dc_order_of_wills pm_order_of_wills an_order_of_wills cd_order_of_wills ct_order_of_wills), f_do_deed := f_do_deed, fd_do_deed := (PySem.W.fnOf "do_deed" "do_deed" (defArgs s_do_deed) (defBody s_do_deed) (defScope s_do_deed) .none kV_do_deed dc_do_deed pm_do_deed an_do_deed cd_do_deed ct_do_deed), f_do_will := f_do_will, fd_do_will := (PySem.W.fnOf "do_will" "do_will" (defArgs s_do_will) (defBody s_do_will) (defScope s_do_will) .none kV_do_will dc_do_will pm_do_will an_do_will cd_do_will ct_do_will), f_sweep := f_sweep, fd_sweep := (PySem.W.fnOf "sweep" "sweep" (defArgs s_sweep) (defBody s_sweep) (defScope s_sweep) .none kV_sweep dc_sweep pm_sweep an_sweep cd_sweep ct_sweep), f_has_number_below_0 := f_has_number_below_0, fd_has_number_below_0 := (PySem.W.fnOf "has_number_below_0" "has_number_below_0" (defArgs s_has_number_below_0) (defBody s_has_number_below_0) (defScope s_has_number_below_0) .none kV_has_number_below_0 dc_has_number_below_0 pm_has_number_below_0 an_has_number_below_0 cd_has_number_below_0 ct_has_number_below_0), f_Box__init_ := f_Box__init_, fd_Box__init_ := (PySem.W.fnOf "__init__" "Box.__init__" (defArgs s_Box__init_) (defBody s_Box__init_) (defScope s_Box__init_) .none kV_Box__init_ dc_Box__init_ pm_Box__init_ an_Box__init_ cd_Box__init_ ct_Box__init_), f_Chest__init_ := f_Chest__init_, fd_Chest__init_ := (PySem.W.fnOf "__init__" "Chest.__init__" (defArgs s_Chest__init_) (defBody s_Chest__init_) (defScope s_Chest__init_) .none kV_Chest__init_ dc_Chest__init_ pm_Chest__init_ an_Chest__init_ cd_Chest__init_ ct_Chest__init_), f_Chest_make := f_Chest_make, fd_Chest_make := (PySem.W.fnOf "make" "Chest.make" (defArgs s_Chest_make) (defBody s_Chest_make) (defScope s_Chest_make) .none kV_Chest_make dc_Chest_make pm_Chest_make an_Chest_make cd_Chest_make ct_Chest_make), f_Chest_boxes := f_Chest_boxes, fd_Chest_boxes := (PySem.W.fnOf "boxes" "Chest.boxes" (defArgs s_Chest_boxes) (defBody s_Chest_boxes) (defScope s_Chest_boxes) .none kV_Chest_boxes dc_Chest_boxes pm_Chest_boxes an_Chest_boxes cd_Chest_boxes ct_Chest_boxes), f_Chest_size := f_Chest_size, fd_Chest_size := (PySem.W.fnOf "size" "Chest.size" (defArgs s_Chest_size) (defBody s_Chest_size) (defScope s_Chest_size) .none kV_Chest_size dc_Chest_size pm_Chest_size an_Chest_size cd_Chest_size ct_Chest_size), f_Chest_put := f_Chest_put, fd_Chest_put := (PySem.W.fnOf "put" "Chest.put" (defArgs s_Chest_put) (defBody s_Chest_put) (defScope s_Chest_put) .none kV_Chest_put dc_Chest_put pm_Chest_put an_Chest_put cd_Chest_put ct_Chest_put), f_Chest_empty := f_Chest_empty, fd_Chest_empty := (PySem.W.fnOf "empty" "Chest.empty" (defArgs s_Chest_empty) (defBody s_Chest_empty) (defScope s_Chest_empty) .none kV_Chest_empty dc_Chest_empty pm_Chest_empty an_Chest_empty cd_Chest_empty ct_Chest_empty), f_Chest_told := f_Chest_told, fd_Chest_told := (PySem.W.fnOf "told" "Chest.told" (defArgs s_Chest_told) (defBody s_Chest_told) (defScope s_Chest_told) .none kV_Chest_told dc_Chest_told pm_Chest_told an_Chest_told cd_Chest_told ct_Chest_told), f_Chest_tellings := f_Chest_tellings, fd_Chest_tellings := (PySem.W.fnOf "tellings" "Chest.tellings" (defArgs s_Chest_tellings) (defBody s_Chest_tellings) (defScope s_Chest_tellings) .none kV_Chest_tellings dc_Chest_tellings pm_Chest_tellings an_Chest_tellings cd_Chest_tellings ct_Chest_tellings), f_Chest_take := f_Chest_take, fd_Chest_take := (PySem.W.fnOf "take" "Chest.take" (defArgs s_Chest_take) (defBody s_Chest_take) (defScope s_Chest_take) .none kV_Chest_take dc_Chest_take pm_Chest_take an_Chest_take cd_Chest_take ct_Chest_take), f_Chest_drop := f_Chest_drop, fd_Chest_drop := (PySem.W.fnOf "drop" "Chest.drop" (defArgs s_Chest_drop) (defBody s_Chest_drop) (defScope s_Chest_drop) .none kV_Chest_drop dc_Chest_drop pm_Chest_drop an_Chest_drop cd_Chest_drop ct_Chest_drop), f_Chest_hands := f_Chest_hands, fd_Chest_hands := (PySem.W.fnOf "hands" "Chest.hands" (defArgs s_Chest_hands) (defBody s_Chest_hands) (defScope s_Chest_hands) .none kV_Chest_hands dc_Chest_hands pm_Chest_hands an_Chest_hands cd_Chest_hands ct_Chest_hands), f_Chest_pair := f_Chest_pair, fd_Chest_pair := (PySem.W.fnOf "pair" "Chest.pair" (defArgs s_Chest_pair) (defBody s_Chest_pair) (defScope s_Chest_pair) .none kV_Chest_pair dc_Chest_pair pm_Chest_pair an_Chest_pair cd_Chest_pair ct_Chest_pair), f_Chest_unpair := f_Chest_unpair, fd_Chest_unpair := (PySem.W.fnOf "unpair" "Chest.unpair" (defArgs s_Chest_unpair) (defBody s_Chest_unpair) (defScope s_Chest_unpair) .none kV_Chest_unpair dc_Chest_unpair pm_Chest_unpair an_Chest_unpair cd_Chest_unpair ct_Chest_unpair), f_Chest_pairs := f_Chest_pairs, fd_Chest_pairs := (PySem.W.fnOf "pairs" "Chest.pairs" (defArgs s_Chest_pairs) (defBody s_Chest_pairs) (defScope s_Chest_pairs) .none kV_Chest_pairs dc_Chest_pairs pm_Chest_pairs an_Chest_pairs cd_Chest_pairs ct_Chest_pairs), f_Chest_bequeath := f_Chest_bequeath, fd_Chest_bequeath := (PySem.W.fnOf "bequeath" "Chest.bequeath" (defArgs s_Chest_bequeath) (defBody s_Chest_bequeath) (defScope s_Chest_bequeath) .none kV_Chest_bequeath dc_Chest_bequeath pm_Chest_bequeath an_Chest_bequeath cd_Chest_bequeath ct_Chest_bequeath), f_Chest_will := f_Chest_will, fd_Chest_will := (PySem.W.fnOf "will" "Chest.will" (defArgs s_Chest_will) (defBody s_Chest_will) (defScope s_Chest_will) .none kV_Chest_will dc_Chest_will pm_Chest_will an_Chest_will cd_Chest_will ct_Chest_will), f_Chest_give_up := f_Chest_give_up, fd_Chest_give_up := (PySem.W.fnOf "give_up" "Chest.give_up" (defArgs s_Chest_give_up) (defBody s_Chest_give_up) (defScope s_Chest_give_up) .none kV_Chest_give_up dc_Chest_give_up pm_Chest_give_up an_Chest_give_up cd_Chest_give_up ct_Chest_give_up), f_Chest_kept_box := f_Chest_kept_box, fd_Chest_kept_box := (PySem.W.fnOf "_kept_box" "Chest._kept_box" (defArgs s_Chest_kept_box) (defBody s_Chest_kept_box) (defScope s_Chest_kept_box) .none kV_Chest_kept_box dc_Chest_kept_box pm_Chest_kept_box an_Chest_kept_box cd_Chest_kept_box ct_Chest_kept_box), f_Chest_slots_with := f_Chest_slots_with, fd_Chest_slots_with := (PySem.W.fnOf "_slots_with" "Chest._slots_with" (defArgs s_Chest_slots_with) (defBody s_Chest_slots_with) (defScope s_Chest_slots_with) .none kV_Chest_slots_with dc_Chest_slots_with pm_Chest_slots_with an_Chest_slots_with cd_Chest_slots_with ct_Chest_slots_with), f_law_cell_at := f_law_cell_at, fd_law_cell_at := (PySem.W.fnOf "_law_cell_at" "_law_cell_at" (defArgs s_law_cell_at) (defBody s_law_cell_at) (defScope s_law_cell_at) .none kV_law_cell_at dc_law_cell_at pm_law_cell_at an_law_cell_at cd_law_cell_at ct_law_cell_at), f_law_whole := f_law_whole, fd_law_whole := (PySem.W.fnOf "_law_whole" "_law_whole" (defArgs s_law_whole) (defBody s_law_whole) (defScope s_law_whole) .none kV_law_whole dc_law_whole pm_law_whole an_law_whole cd_law_whole ct_law_whole), f_law_mixed := f_law_mixed, fd_law_mixed := (PySem.W.fnOf "_law_mixed" "_law_mixed" (defArgs s_law_mixed) (defBody s_law_mixed) (defScope s_law_mixed) .none kV_law_mixed dc_law_mixed pm_law_mixed an_law_mixed cd_law_mixed ct_law_mixed), f_law_numbers := f_law_numbers, fd_law_numbers := (PySem.W.fnOf "_law_numbers" "_law_numbers" (defArgs s_law_numbers) (defBody s_law_numbers) (defScope s_law_numbers) .none kV_law_numbers dc_law_numbers pm_law_numbers an_law_numbers cd_law_numbers ct_law_numbers), f_law_told := f_law_told, fd_law_told := (PySem.W.fnOf "_law_told" "_law_told" (defArgs s_law_told) (defBody s_law_told) (defScope s_law_told) .none kV_law_told dc_law_told pm_law_told an_law_told cd_law_told ct_law_told), f_law_will_of := f_law_will_of, fd_law_will_of := (PySem.W.fnOf "_law_will_of" "_law_will_of" (defArgs s_law_will_of) (defBody s_law_will_of) (defScope s_law_will_of) .none kV_law_will_of dc_law_will_of pm_law_will_of an_law_will_of cd_law_will_of ct_law_will_of), f_law_deed_by := f_law_deed_by, fd_law_deed_by := (PySem.W.fnOf "_law_deed_by" "_law_deed_by" (defArgs s_law_deed_by) (defBody s_law_deed_by) (defScope s_law_deed_by) .none kV_law_deed_by dc_law_deed_by pm_law_deed_by an_law_deed_by cd_law_deed_by ct_law_deed_by), f_law_laid := f_law_laid, fd_law_laid := (PySem.W.fnOf "_law_laid" "_law_laid" (defArgs s_law_laid) (defBody s_law_laid) (defScope s_law_laid) .none kV_law_laid dc_law_laid pm_law_laid an_law_laid cd_law_laid ct_law_laid), f_law_cells := f_law_cells, fd_law_cells := (PySem.W.fnOf "_law_cells" "_law_cells" (defArgs s_law_cells) (defBody s_law_cells) (defScope s_law_cells) .none kV_law_cells dc_law_cells pm_law_cells an_law_cells cd_law_cells ct_law_cells), f_law_view := f_law_view, fd_law_view := (PySem.W.fnOf "_law_view" "_law_view" (defArgs s_law_view) (defBody s_law_view) (defScope s_law_view) .none kV_law_view dc_law_view pm_law_view an_law_view cd_law_view ct_law_view), f_law_three := f_law_three, fd_law_three := (PySem.W.fnOf "_law_three" "_law_three" (defArgs s_law_three) (defBody s_law_three) (defScope s_law_three) .none kV_law_three dc_law_three pm_law_three an_law_three cd_law_three ct_law_three), f_law_once := f_law_once, fd_law_once := (PySem.W.fnOf "_law_once" "_law_once" (defArgs s_law_once) (defBody s_law_once) (defScope s_law_once) .none kV_law_once dc_law_once pm_law_once an_law_once cd_law_once ct_law_once), f_law := fa, fd_law := (PySem.W.fnOf "law" "law" (defArgs s_law) (defBody s_law) (defScope s_law) .none kV_law dc_law pm_law an_law cd_law ct_law), t_LARGEST_SIZE := t_LARGEST_SIZE, t_MOST_BOXES := t_MOST_BOXES, t_MOST_PAIRS := t_MOST_PAIRS, t_MOST_DEEDS := t_MOST_DEEDS } K mg := { F_held_by := F_held_by, b_held_by := b_held_by, mg_held_by := PySem.W.mg_of X G a_held_by, F_come_to := F_come_to, b_come_to := b_come_to, mg_come_to := PySem.W.mg_of X G a_come_to, F_lost := F_lost, b_lost := b_lost, mg_lost := PySem.W.mg_of X G a_lost, F_steps_among := F_steps_among, b_steps_among := b_steps_among, mg_steps_among := PySem.W.mg_of X G a_steps_among, F_younger_than := F_younger_than, b_younger_than := b_younger_than, mg_younger_than := PySem.W.mg_of X G a_younger_than, F_is_free := F_is_free, b_is_free := b_is_free, mg_is_free := PySem.W.mg_of X G a_is_free, F_order_of_wills := F_order_of_wills, b_order_of_wills := b_order_of_wills, mg_order_of_wills := PySem.W.mg_of X G a_order_of_wills, F_do_deed := F_do_deed, b_do_deed := b_do_deed, mg_do_deed := PySem.W.mg_of X G a_do_deed, F_do_will := F_do_will, b_do_will := b_do_will, mg_do_will := PySem.W.mg_of X G a_do_will, F_sweep := F_sweep, b_sweep := b_sweep, mg_sweep := PySem.W.mg_of X G a_sweep, F_has_number_below_0 := F_has_number_below_0, b_has_number_below_0 := b_has_number_below_0, mg_has_number_below_0 := PySem.W.mg_of X G a_has_number_below_0, F_Box__init_ := F_Box__init_, b_Box__init_ := b_Box__init_, F_Chest__init_ := F_Chest__init_, b_Chest__init_ := b_Chest__init_, F_Chest_make := F_Chest_make, b_Chest_make := b_Chest_make, m_Chest_make := ⟨a_Chest_make, i_Chest_make, k_Chest_make⟩, F_Chest_boxes := F_Chest_boxes, b_Chest_boxes := b_Chest_boxes, m_Chest_boxes := ⟨a_Chest_boxes, i_Chest_boxes, k_Chest_boxes⟩, F_Chest_size := F_Chest_size, b_Chest_size := b_Chest_size, m_Chest_size := ⟨a_Chest_size, i_Chest_size, k_Chest_size⟩, F_Chest_put := F_Chest_put, b_Chest_put := b_Chest_put, m_Chest_put := ⟨a_Chest_put, i_Chest_put, k_Chest_put⟩, F_Chest_empty := F_Chest_empty, b_Chest_empty := b_Chest_empty, m_Chest_empty := ⟨a_Chest_empty, i_Chest_empty, k_Chest_empty⟩, F_Chest_told := F_Chest_told, b_Chest_told := b_Chest_told, m_Chest_told := ⟨a_Chest_told, i_Chest_told, k_Chest_told⟩, F_Chest_tellings := F_Chest_tellings, b_Chest_tellings := b_Chest_tellings, m_Chest_tellings := ⟨a_Chest_tellings, i_Chest_tellings, k_Chest_tellings⟩, F_Chest_take := F_Chest_take, b_Chest_take := b_Chest_take, m_Chest_take := ⟨a_Chest_take, i_Chest_take, k_Chest_take⟩, F_Chest_drop := F_Chest_drop, b_Chest_drop := b_Chest_drop, m_Chest_drop := ⟨a_Chest_drop, i_Chest_drop, k_Chest_drop⟩, F_Chest_hands := F_Chest_hands, b_Chest_hands := b_Chest_hands, m_Chest_hands := ⟨a_Chest_hands, i_Chest_hands, k_Chest_hands⟩, F_Chest_pair := F_Chest_pair, b_Chest_pair := b_Chest_pair, m_Chest_pair := ⟨a_Chest_pair, i_Chest_pair, k_Chest_pair⟩, F_Chest_unpair := F_Chest_unpair, b_Chest_unpair := b_Chest_unpair, m_Chest_unpair := ⟨a_Chest_unpair, i_Chest_unpair, k_Chest_unpair⟩, F_Chest_pairs := F_Chest_pairs, b_Chest_pairs := b_Chest_pairs, m_Chest_pairs := ⟨a_Chest_pairs, i_Chest_pairs, k_Chest_pairs⟩, F_Chest_bequeath := F_Chest_bequeath, b_Chest_bequeath := b_Chest_bequeath, m_Chest_bequeath := ⟨a_Chest_bequeath, i_Chest_bequeath, k_Chest_bequeath⟩, F_Chest_will := F_Chest_will, b_Chest_will := b_Chest_will, m_Chest_will := ⟨a_Chest_will, i_Chest_will, k_Chest_will⟩, F_Chest_give_up := F_Chest_give_up, b_Chest_give_up := b_Chest_give_up, m_Chest_give_up := ⟨a_Chest_give_up, i_Chest_give_up, k_Chest_give_up⟩, F_Chest_kept_box := F_Chest_kept_box, b_Chest_kept_box := b_Chest_kept_box, m_Chest_kept_box := ⟨a_Chest_kept_box, i_Chest_kept_box, k_Chest_kept_box⟩, F_Chest_slots_with := F_Chest_slots_with, b_Chest_slots_with := b_Chest_slots_with, m_Chest_slots_with := ⟨a_Chest_slots_with, i_Chest_slots_with, k_Chest_slots_with⟩, F_law_cell_at := F_law_cell_at, b_law_cell_at := b_law_cell_at, mg_law_cell_at := PySem.W.mg_of X G a_law_cell_at, F_law_whole := F_law_whole, b_law_whole := b_law_whole, mg_law_whole := PySem.W.mg_of X G a_law_whole, F_law_mixed := F_law_mixed, b_law_mixed := b_law_mixed, mg_law_mixed := PySem.W.mg_of X G a_law_mixed, F_law_numbers := F_law_numbers, b_law_numbers := b_law_numbers, mg_law_numbers := PySem.W.mg_of X G a_law_numbers, F_law_told := F_law_told, b_law_told := b_law_told, mg_law_told := PySem.W.mg_of X G a_law_told, F_law_will_of := F_law_will_of, b_law_will_of := b_law_will_of, mg_law_will_of := PySem.W.mg_of X G a_law_will_of, F_law_deed_by := F_law_deed_by, b_law_deed_by := b_law_deed_by, mg_law_deed_by := PySem.W.mg_of X G a_law_deed_by, F_law_laid := F_law_laid, b_law_laid := b_law_laid, mg_law_laid := PySem.W.mg_of X G a_law_laid, F_law_cells := F_law_cells, b_law_cells := b_law_cells, mg_law_cells := PySem.W.mg_of X G a_law_cells, F_law_view := F_law_view, b_law_view := b_law_view, mg_law_view := PySem.W.mg_of X G a_law_view, F_law_three := F_law_three, b_law_three := b_law_three, mg_law_three := PySem.W.mg_of X G a_law_three, F_law_once := F_law_once, b_law_once := b_law_once, mg_law_once := PySem.W.mg_of X G a_law_once, F_law := F_law, b_law := b_law, mg_law := PySem.W.mg_of X G a_law, cl_Box := ⟨pg_Box, hd_Box, po_Box, sa_Box⟩, mk_Box := ⟨mk_Box, a_Box__init_, i_Box__init_, kc_Box⟩, mg_Box := PySem.W.mg_of X G a_Box, na_Box_slots := na_Box_slots, na_Box_in_hands := na_Box_in_hands, na_Box_deeds := na_Box_deeds, cl_Chest := ⟨pg_Chest, hd_Chest, po_Chest, sa_Chest⟩, mk_Chest := ⟨mk_Chest, a_Chest__init_, i_Chest__init_, kc_Chest⟩, mg_Chest := PySem.W.mg_of X G a_Chest, na_Chest_next_box := na_Chest_next_box, na_Chest_next_pair := na_Chest_next_pair, na_Chest_kept_boxes := na_Chest_kept_boxes, na_Chest_kept_pairs := na_Chest_kept_pairs, mg_WillError := PySem.W.mg_of X G a_WillError, mg_NoBox := PySem.W.mg_of X G a_NoBox, mg_NoSlot := PySem.W.mg_of X G a_NoSlot, mg_NoHand := PySem.W.mg_of X G a_NoHand, mg_NoPair := PySem.W.mg_of X G a_NoPair, mg_NoWill := PySem.W.mg_of X G a_NoWill, mg_TooMany := PySem.W.mg_of X G a_TooMany, x_NoSlot := ⟨PySem.W.mg_of X G a_NoSlot, x_NoSlot, xk_NoSlot, xs_NoSlot, xy_NoSlot⟩, ec_NoSlot := ⟨xg_NoSlot, xh_NoSlot, xs_NoSlot, xd_NoSlot, xc_NoSlot, xn, xt, xm_NoSlot⟩, em_NoSlot := PySem.W.exm_ref sW dW tW xw_NoSlot, is_NoSlot_NoBox := kit_cls ic_NoBox it_NoBox is_NoSlot_NoBox ss_NoBox, is_NoSlot_NoSlot := kit_cls ic_NoSlot it_NoSlot is_NoSlot_NoSlot ss_NoSlot, is_NoSlot_NoHand := kit_cls ic_NoHand it_NoHand is_NoSlot_NoHand ss_NoHand, is_NoSlot_NoPair := kit_cls ic_NoPair it_NoPair is_NoSlot_NoPair ss_NoPair, is_NoSlot_NoWill := kit_cls ic_NoWill it_NoWill is_NoSlot_NoWill ss_NoWill, is_NoSlot_TooMany := kit_cls ic_TooMany it_TooMany is_NoSlot_TooMany ss_TooMany, is_NoSlot_ValueError := kit_ve is_NoSlot_ValueError, x_TooMany := ⟨PySem.W.mg_of X G a_TooMany, x_TooMany, xk_TooMany, xs_TooMany, xy_TooMany⟩, ec_TooMany := ⟨xg_TooMany, xh_TooMany, xs_TooMany, xd_TooMany, xc_TooMany, xn, xt, xm_TooMany⟩, em_TooMany := PySem.W.exm_ref sW dW tW xw_TooMany, is_TooMany_NoBox := kit_cls ic_NoBox it_NoBox is_TooMany_NoBox ss_NoBox, is_TooMany_NoSlot := kit_cls ic_NoSlot it_NoSlot is_TooMany_NoSlot ss_NoSlot, is_TooMany_NoHand := kit_cls ic_NoHand it_NoHand is_TooMany_NoHand ss_NoHand, is_TooMany_NoPair := kit_cls ic_NoPair it_NoPair is_TooMany_NoPair ss_NoPair, is_TooMany_NoWill := kit_cls ic_NoWill it_NoWill is_TooMany_NoWill ss_NoWill, is_TooMany_TooMany := kit_cls ic_TooMany it_TooMany is_TooMany_TooMany ss_TooMany, is_TooMany_ValueError := kit_ve is_TooMany_ValueError, x_NoHand := ⟨PySem.W.mg_of X G a_NoHand, x_NoHand, xk_NoHand, xs_NoHand, xy_NoHand⟩, ec_NoHand := ⟨xg_NoHand, xh_NoHand, xs_NoHand, xd_NoHand, xc_NoHand, xn, xt, xm_NoHand⟩, em_NoHand := PySem.W.exm_ref sW dW tW xw_NoHand, is_NoHand_NoBox := kit_cls ic_NoBox it_NoBox is_NoHand_NoBox ss_NoBox, is_NoHand_NoSlot := kit_cls ic_NoSlot it_NoSlot is_NoHand_NoSlot ss_NoSlot, is_NoHand_NoHand := kit_cls ic_NoHand it_NoHand is_NoHand_NoHand ss_NoHand, is_NoHand_NoPair := kit_cls ic_NoPair it_NoPair is_NoHand_NoPair ss_NoPair, is_NoHand_NoWill := kit_cls ic_NoWill it_NoWill is_NoHand_NoWill ss_NoWill, is_NoHand_TooMany := kit_cls ic_TooMany it_TooMany is_NoHand_TooMany ss_TooMany, is_NoHand_ValueError := kit_ve is_NoHand_ValueError, x_NoPair := ⟨PySem.W.mg_of X G a_NoPair, x_NoPair, xk_NoPair, xs_NoPair, xy_NoPair⟩, ec_NoPair := ⟨xg_NoPair, xh_NoPair, xs_NoPair, xd_NoPair, xc_NoPair, xn, xt, xm_NoPair⟩, em_NoPair := PySem.W.exm_ref sW dW tW xw_NoPair, is_NoPair_NoBox := kit_cls ic_NoBox it_NoBox is_NoPair_NoBox ss_NoBox, is_NoPair_NoSlot := kit_cls ic_NoSlot it_NoSlot is_NoPair_NoSlot ss_NoSlot, is_NoPair_NoHand := kit_cls ic_NoHand it_NoHand is_NoPair_NoHand ss_NoHand, is_NoPair_NoPair := kit_cls ic_NoPair it_NoPair is_NoPair_NoPair ss_NoPair, is_NoPair_NoWill := kit_cls ic_NoWill it_NoWill is_NoPair_NoWill ss_NoWill, is_NoPair_TooMany := kit_cls ic_TooMany it_TooMany is_NoPair_TooMany ss_TooMany, is_NoPair_ValueError := kit_ve is_NoPair_ValueError, x_NoWill := ⟨PySem.W.mg_of X G a_NoWill, x_NoWill, xk_NoWill, xs_NoWill, xy_NoWill⟩, ec_NoWill := ⟨xg_NoWill, xh_NoWill, xs_NoWill, xd_NoWill, xc_NoWill, xn, xt, xm_NoWill⟩, em_NoWill := PySem.W.exm_ref sW dW tW xw_NoWill, is_NoWill_NoBox := kit_cls ic_NoBox it_NoBox is_NoWill_NoBox ss_NoBox, is_NoWill_NoSlot := kit_cls ic_NoSlot it_NoSlot is_NoWill_NoSlot ss_NoSlot, is_NoWill_NoHand := kit_cls ic_NoHand it_NoHand is_NoWill_NoHand ss_NoHand, is_NoWill_NoPair := kit_cls ic_NoPair it_NoPair is_NoWill_NoPair ss_NoPair, is_NoWill_NoWill := kit_cls ic_NoWill it_NoWill is_NoWill_NoWill ss_NoWill, is_NoWill_TooMany := kit_cls ic_TooMany it_TooMany is_NoWill_TooMany ss_TooMany, is_NoWill_ValueError := kit_ve is_NoWill_ValueError, x_NoBox := ⟨PySem.W.mg_of X G a_NoBox, x_NoBox, xk_NoBox, xs_NoBox, xy_NoBox⟩, ec_NoBox := ⟨xg_NoBox, xh_NoBox, xs_NoBox, xd_NoBox, xc_NoBox, xn, xt, xm_NoBox⟩, em_NoBox := PySem.W.exm_ref sW dW tW xw_NoBox, is_NoBox_NoBox := kit_cls ic_NoBox it_NoBox is_NoBox_NoBox ss_NoBox, is_NoBox_NoSlot := kit_cls ic_NoSlot it_NoSlot is_NoBox_NoSlot ss_NoSlot, is_NoBox_NoHand := kit_cls ic_NoHand it_NoHand is_NoBox_NoHand ss_NoHand, is_NoBox_NoPair := kit_cls ic_NoPair it_NoPair is_NoBox_NoPair ss_NoPair, is_NoBox_NoWill := kit_cls ic_NoWill it_NoWill is_NoBox_NoWill ss_NoWill, is_NoBox_TooMany := kit_cls ic_TooMany it_TooMany is_NoBox_TooMany ss_TooMany, is_NoBox_ValueError := kit_ve is_NoBox_ValueError, mg_LARGEST_SIZE := PySem.W.mg_of X G g_LARGEST_SIZE, mg_MOST_BOXES := PySem.W.mg_of X G g_MOST_BOXES, mg_MOST_PAIRS := PySem.W.mg_of X G g_MOST_PAIRS, mg_MOST_DEEDS := PySem.W.mg_of X G g_MOST_DEEDS, no_ValueError := PySem.W.mg_none_of X G z_ValueError, no_all := PySem.W.mg_none_of X G z_all, no_any := PySem.W.mg_none_of X G z_any, no_bool := PySem.W.mg_none_of X G z_bool, no_dict := PySem.W.mg_none_of X G z_dict, no_enumerate := PySem.W.mg_none_of X G z_enumerate, no_int := PySem.W.mg_none_of X G z_int, no_isinstance := PySem.W.mg_none_of X G z_isinstance, no_len := PySem.W.mg_none_of X G z_len, no_list := PySem.W.mg_none_of X G z_list, no_min := PySem.W.mg_none_of X G z_min, no_range := PySem.W.mg_none_of X G z_range, no_set := PySem.W.mg_none_of X G z_set, no_sorted := PySem.W.mg_none_of X G z_sorted, no_tuple := PySem.W.mg_none_of X G z_tuple }
  exact ⟨(PySem.W.fnOf "law" "law" (defArgs s_law) (defBody s_law) (defScope s_law) .none kV_law dc_law pm_law an_law cd_law ct_law), fun s v => .of_eq rfl, fun base _ _ => ok_law T⟩
theorem walk {l : PySem.W.OpenLaw} {q : Program} {loose : List Str} {XP : (Str → Option Value) → Heap → Prop} {YP : World → Heap → Prop} {d : DefRec} {K : Params → PySem.W.Frag} (hn : l.most = some 63) (hdf : d.params.defaults = [])
    (hY : ∀ (w : World) (h : Heap), YP w h → (K w.params).In h)
    (F : ∀ (w : World) (mg : Str → Option Value) (fa : Addr) (h : Heap), (K w.params).In h → h.Ns mainGlobals mg → mg d.name = some (.ref fa) →
      ∃ fd : FuncData, (∀ (s : Shared) (u : Value), BindsTo s fd ⟨[u], []⟩ [("_law_script", u)]) ∧ ∀ base : Heap, (K w.params).In base → base.Ns mainGlobals mg → FnOk l.prog w (K w.params) mg base (CN l.prog w) 9 fa fd ["_law_script"] (spLaw (K w.params))) :
    PySem.W.WalkO q loose XP YP l.row.toRowW d [] (fun f vs => PySem.call f vs) :=
  L2.walk_of (n := 63) (k := 9) (x := "_law_script") (CX := fun w => CN l.prog w) (sp := fun w => spLaw (K w.params)) hn (by decide) hdf ⟨rfl, by decide, by decide⟩ hY F (fun _ _ a ns hl _ hS => ⟨a, ns, rfl, hS, hl, fun _ => rfl⟩) fun _ _ _ _ _ z => by
    obtain ⟨_, _, _, _, _, _, _, _, _, _, _, _, z⟩ := z
    exact z
end LW
open PySem PySem.W PyProof.Rows
set_option maxRecDepth 100000 in
set_option maxHeartbeats 0 in
theorem PySem.Challenge.cw_lastwill_k10_whole_wills_once_holds : PySem.Challenge.rw_lastwill_k10_whole_wills_once.Holds := by
  w_on; o_law; k_head; (case hw => w_witness2)
  k_fill
  refine LW.walk (l := PySem.Challenge.rw_lastwill_k10_whole_wills_once) rfl rfl (fun w h Y => PySem.W.kIn_of Y) ?F
  case F =>
    intro w mg fa h KX G hmg
    refine' LW.all_mk KX G hmg ?a_WillError ?a_NoBox ?a_NoSlot ?a_NoHand ?a_NoPair ?a_NoWill ?a_TooMany ?a_Box ?a_Chest ?a_held_by ?l_held_by ?c_held_by ?k_held_by ?a_come_to ?l_come_to ?c_come_to ?k_come_to ?a_lost ?l_lost ?c_lost ?k_lost ?a_steps_among ?l_steps_among ?c_steps_among ?k_steps_among ?a_younger_than ?l_younger_than ?c_younger_than ?k_younger_than ?a_is_free ?l_is_free ?c_is_free ?k_is_free ?a_order_of_wills ?l_order_of_wills ?c_order_of_wills ?k_order_of_wills ?a_do_deed ?l_do_deed ?c_do_deed ?k_do_deed ?a_do_will ?l_do_will ?c_do_will ?k_do_will ?a_sweep ?l_sweep ?c_sweep ?k_sweep ?a_has_number_below_0 ?l_has_number_below_0 ?c_has_number_below_0 ?k_has_number_below_0 ?a_Box__init_ ?i_Box__init_ ?l_Box__init_ ?c_Box__init_ ?k_Box__init_ ?a_Chest__init_ ?i_Chest__init_ ?l_Chest__init_ ?c_Chest__init_ ?k_Chest__init_ ?a_Chest_make ?i_Chest_make ?l_Chest_make ?c_Chest_make ?k_Chest_make ?a_Chest_boxes ?i_Chest_boxes ?l_Chest_boxes ?c_Chest_boxes ?k_Chest_boxes ?a_Chest_size ?i_Chest_size ?l_Chest_size ?c_Chest_size ?k_Chest_size ?a_Chest_put ?i_Chest_put ?l_Chest_put ?c_Chest_put ?k_Chest_put ?a_Chest_empty ?i_Chest_empty ?l_Chest_empty ?c_Chest_empty ?k_Chest_empty ?a_Chest_told ?i_Chest_told ?l_Chest_told ?c_Chest_told ?k_Chest_told ?a_Chest_tellings ?i_Chest_tellings ?l_Chest_tellings ?c_Chest_tellings ?k_Chest_tellings ?a_Chest_take ?i_Chest_take ?l_Chest_take ?c_Chest_take ?k_Chest_take ?a_Chest_drop ?i_Chest_drop ?l_Chest_drop ?c_Chest_drop ?k_Chest_drop ?a_Chest_hands ?i_Chest_hands ?l_Chest_hands ?c_Chest_hands ?k_Chest_hands ?a_Chest_pair ?i_Chest_pair ?l_Chest_pair ?c_Chest_pair ?k_Chest_pair ?a_Chest_unpair ?i_Chest_unpair ?l_Chest_unpair ?c_Chest_unpair ?k_Chest_unpair ?a_Chest_pairs ?i_Chest_pairs ?l_Chest_pairs ?c_Chest_pairs ?k_Chest_pairs ?a_Chest_bequeath ?i_Chest_bequeath ?l_Chest_bequeath ?c_Chest_bequeath ?k_Chest_bequeath ?a_Chest_will ?i_Chest_will ?l_Chest_will ?c_Chest_will ?k_Chest_will ?a_Chest_give_up ?i_Chest_give_up ?l_Chest_give_up ?c_Chest_give_up ?k_Chest_give_up ?a_Chest_kept_box ?i_Chest_kept_box ?l_Chest_kept_box ?c_Chest_kept_box ?k_Chest_kept_box ?a_Chest_slots_with ?i_Chest_slots_with ?l_Chest_slots_with ?c_Chest_slots_with ?k_Chest_slots_with ?a_law_cell_at ?l_law_cell_at ?c_law_cell_at ?k_law_cell_at ?a_law_whole ?l_law_whole ?c_law_whole ?k_law_whole ?a_law_mixed ?l_law_mixed ?c_law_mixed ?k_law_mixed ?a_law_numbers ?l_law_numbers ?c_law_numbers ?k_law_numbers ?a_law_told ?l_law_told ?c_law_told ?k_law_told ?a_law_will_of ?l_law_will_of ?c_law_will_of ?k_law_will_of ?a_law_deed_by ?l_law_deed_by ?c_law_deed_by ?k_law_deed_by ?a_law_laid ?l_law_laid ?c_law_laid ?k_law_laid ?a_law_cells ?l_law_cells ?c_law_cells ?k_law_cells ?a_law_view ?l_law_view ?c_law_view ?k_law_view ?a_law_three ?l_law_three ?c_law_three ?k_law_three ?a_law_once ?l_law_once ?c_law_once ?k_law_once ?a_law ?l_law ?c_law ?k_law ?pg_Box ?hd_Box ?po_Box ?sa_Box ?mk_Box ?kc_Box ?na_Box_slots ?na_Box_in_hands ?na_Box_deeds ?pg_Chest ?hd_Chest ?po_Chest ?sa_Chest ?mk_Chest ?kc_Chest ?na_Chest_next_box ?na_Chest_next_pair ?na_Chest_kept_boxes ?na_Chest_kept_pairs ?sW ?dW ?tW ?xn ?xt ?ic_NoBox ?it_NoBox ?ss_NoBox ?ic_NoSlot ?it_NoSlot ?ss_NoSlot ?ic_NoHand ?it_NoHand ?ss_NoHand ?ic_NoPair ?it_NoPair ?ss_NoPair ?ic_NoWill ?it_NoWill ?ss_NoWill ?ic_TooMany ?it_TooMany ?ss_TooMany ?x_NoSlot ?xk_NoSlot ?xs_NoSlot ?xy_NoSlot ?xg_NoSlot ?xh_NoSlot ?xd_NoSlot ?xc_NoSlot ?xm_NoSlot ?xw_NoSlot ?is_NoSlot_NoBox ?is_NoSlot_NoSlot ?is_NoSlot_NoHand ?is_NoSlot_NoPair ?is_NoSlot_NoWill ?is_NoSlot_TooMany ?is_NoSlot_ValueError ?x_TooMany ?xk_TooMany ?xs_TooMany ?xy_TooMany ?xg_TooMany ?xh_TooMany ?xd_TooMany ?xc_TooMany ?xm_TooMany ?xw_TooMany ?is_TooMany_NoBox ?is_TooMany_NoSlot ?is_TooMany_NoHand ?is_TooMany_NoPair ?is_TooMany_NoWill ?is_TooMany_TooMany ?is_TooMany_ValueError ?x_NoHand ?xk_NoHand ?xs_NoHand ?xy_NoHand ?xg_NoHand ?xh_NoHand ?xd_NoHand ?xc_NoHand ?xm_NoHand ?xw_NoHand ?is_NoHand_NoBox ?is_NoHand_NoSlot ?is_NoHand_NoHand ?is_NoHand_NoPair ?is_NoHand_NoWill ?is_NoHand_TooMany ?is_NoHand_ValueError ?x_NoPair ?xk_NoPair ?xs_NoPair ?xy_NoPair ?xg_NoPair ?xh_NoPair ?xd_NoPair ?xc_NoPair ?xm_NoPair ?xw_NoPair ?is_NoPair_NoBox ?is_NoPair_NoSlot ?is_NoPair_NoHand ?is_NoPair_NoPair ?is_NoPair_NoWill ?is_NoPair_TooMany ?is_NoPair_ValueError ?x_NoWill ?xk_NoWill ?xs_NoWill ?xy_NoWill ?xg_NoWill ?xh_NoWill ?xd_NoWill ?xc_NoWill ?xm_NoWill ?xw_NoWill ?is_NoWill_NoBox ?is_NoWill_NoSlot ?is_NoWill_NoHand ?is_NoWill_NoPair ?is_NoWill_NoWill ?is_NoWill_TooMany ?is_NoWill_ValueError ?x_NoBox ?xk_NoBox ?xs_NoBox ?xy_NoBox ?xg_NoBox ?xh_NoBox ?xd_NoBox ?xc_NoBox ?xm_NoBox ?xw_NoBox ?is_NoBox_NoBox ?is_NoBox_NoSlot ?is_NoBox_NoHand ?is_NoBox_NoPair ?is_NoBox_NoWill ?is_NoBox_TooMany ?is_NoBox_ValueError ?g_LARGEST_SIZE ?g_MOST_BOXES ?g_MOST_PAIRS ?g_MOST_DEEDS ?z_ValueError ?z_all ?z_any ?z_bool ?z_dict ?z_enumerate ?z_int ?z_isinstance ?z_len ?z_list ?z_min ?z_range ?z_set ?z_sorted ?z_tuple
    (case a_WillError => k_is)
    (case a_NoBox => k_is)
    (case a_NoSlot => k_is)
    (case a_NoHand => k_is)
    (case a_NoPair => k_is)
    (case a_NoWill => k_is)
    (case a_TooMany => k_is)
    (case a_Box => k_is)
    (case a_Chest => k_is)
    (case a_held_by => k_is)
    (case l_held_by => k_is)
    (case c_held_by => k_is)
    (case k_held_by => k_is)
    (case a_come_to => k_is)
    (case l_come_to => k_is)
    (case c_come_to => k_is)
    (case k_come_to => k_is)
    (case a_lost => k_is)
    (case l_lost => k_is)
    (case c_lost => k_is)
    (case k_lost => k_is)
    (case a_steps_among => k_is)
    (case l_steps_among => k_is)
    (case c_steps_among => k_is)
    (case k_steps_among => k_is)
    (case a_younger_than => k_is)
    (case l_younger_than => k_is)
    (case c_younger_than => k_is)
    (case k_younger_than => k_is)
    (case a_is_free => k_is)
    (case l_is_free => k_is)
    (case c_is_free => k_is)
    (case k_is_free => k_is)
    (case a_order_of_wills => k_is)
    (case l_order_of_wills => k_is)
    (case c_order_of_wills => k_is)
    (case k_order_of_wills => k_is)
    (case a_do_deed => k_is)
    (case l_do_deed => k_is)
    (case c_do_deed => k_is)
    (case k_do_deed => k_is)
    (case a_do_will => k_is)
    (case l_do_will => k_is)
    (case c_do_will => k_is)
    (case k_do_will => k_is)
    (case a_sweep => k_is)
    (case l_sweep => k_is)
    (case c_sweep => k_is)
    (case k_sweep => k_is)
    (case a_has_number_below_0 => k_is)
    (case l_has_number_below_0 => k_is)
    (case c_has_number_below_0 => k_is)
    (case k_has_number_below_0 => k_is)
    (case a_Box__init_ => k_is)
    (case i_Box__init_ => k_is)
    (case l_Box__init_ => k_is)
    (case c_Box__init_ => k_is)
    (case k_Box__init_ => k_is)
    (case a_Chest__init_ => k_is)
    (case i_Chest__init_ => k_is)
    (case l_Chest__init_ => k_is)
    (case c_Chest__init_ => k_is)
    (case k_Chest__init_ => k_is)
    (case a_Chest_make => k_is)
    (case i_Chest_make => k_is)
    (case l_Chest_make => k_is)
    (case c_Chest_make => k_is)
    (case k_Chest_make => k_is)
    (case a_Chest_boxes => k_is)
    (case i_Chest_boxes => k_is)
    (case l_Chest_boxes => k_is)
    (case c_Chest_boxes => k_is)
    (case k_Chest_boxes => k_is)
    (case a_Chest_size => k_is)
    (case i_Chest_size => k_is)
    (case l_Chest_size => k_is)
    (case c_Chest_size => k_is)
    (case k_Chest_size => k_is)
    (case a_Chest_put => k_is)
    (case i_Chest_put => k_is)
    (case l_Chest_put => k_is)
    (case c_Chest_put => k_is)
    (case k_Chest_put => k_is)
    (case a_Chest_empty => k_is)
    (case i_Chest_empty => k_is)
    (case l_Chest_empty => k_is)
    (case c_Chest_empty => k_is)
    (case k_Chest_empty => k_is)
    (case a_Chest_told => k_is)
    (case i_Chest_told => k_is)
    (case l_Chest_told => k_is)
    (case c_Chest_told => k_is)
    (case k_Chest_told => k_is)
    (case a_Chest_tellings => k_is)
    (case i_Chest_tellings => k_is)
    (case l_Chest_tellings => k_is)
    (case c_Chest_tellings => k_is)
    (case k_Chest_tellings => k_is)
    (case a_Chest_take => k_is)
    (case i_Chest_take => k_is)
    (case l_Chest_take => k_is)
    (case c_Chest_take => k_is)
    (case k_Chest_take => k_is)
    (case a_Chest_drop => k_is)
    (case i_Chest_drop => k_is)
    (case l_Chest_drop => k_is)
    (case c_Chest_drop => k_is)
    (case k_Chest_drop => k_is)
    (case a_Chest_hands => k_is)
    (case i_Chest_hands => k_is)
    (case l_Chest_hands => k_is)
    (case c_Chest_hands => k_is)
    (case k_Chest_hands => k_is)
    (case a_Chest_pair => k_is)
    (case i_Chest_pair => k_is)
    (case l_Chest_pair => k_is)
    (case c_Chest_pair => k_is)
    (case k_Chest_pair => k_is)
    (case a_Chest_unpair => k_is)
    (case i_Chest_unpair => k_is)
    (case l_Chest_unpair => k_is)
    (case c_Chest_unpair => k_is)
    (case k_Chest_unpair => k_is)
    (case a_Chest_pairs => k_is)
    (case i_Chest_pairs => k_is)
    (case l_Chest_pairs => k_is)
    (case c_Chest_pairs => k_is)
    (case k_Chest_pairs => k_is)
    (case a_Chest_bequeath => k_is)
    (case i_Chest_bequeath => k_is)
    (case l_Chest_bequeath => k_is)
    (case c_Chest_bequeath => k_is)
    (case k_Chest_bequeath => k_is)
    (case a_Chest_will => k_is)
    (case i_Chest_will => k_is)
    (case l_Chest_will => k_is)
    (case c_Chest_will => k_is)
    (case k_Chest_will => k_is)
    (case a_Chest_give_up => k_is)
    (case i_Chest_give_up => k_is)
    (case l_Chest_give_up => k_is)
    (case c_Chest_give_up => k_is)
    (case k_Chest_give_up => k_is)
    (case a_Chest_kept_box => k_is)
    (case i_Chest_kept_box => k_is)
    (case l_Chest_kept_box => k_is)
    (case c_Chest_kept_box => k_is)
    (case k_Chest_kept_box => k_is)
    (case a_Chest_slots_with => k_is)
    (case i_Chest_slots_with => k_is)
    (case l_Chest_slots_with => k_is)
    (case c_Chest_slots_with => k_is)
    (case k_Chest_slots_with => k_is)
    (case a_law_cell_at => k_is)
    (case l_law_cell_at => k_is)
    (case c_law_cell_at => k_is)
    (case k_law_cell_at => k_is)
    (case a_law_whole => k_is)
    (case l_law_whole => k_is)
    (case c_law_whole => k_is)
    (case k_law_whole => k_is)
    (case a_law_mixed => k_is)
    (case l_law_mixed => k_is)
    (case c_law_mixed => k_is)
    (case k_law_mixed => k_is)
    (case a_law_numbers => k_is)
    (case l_law_numbers => k_is)
    (case c_law_numbers => k_is)
    (case k_law_numbers => k_is)
    (case a_law_told => k_is)
    (case l_law_told => k_is)
    (case c_law_told => k_is)
    (case k_law_told => k_is)
    (case a_law_will_of => k_is)
    (case l_law_will_of => k_is)
    (case c_law_will_of => k_is)
    (case k_law_will_of => k_is)
    (case a_law_deed_by => k_is)
    (case l_law_deed_by => k_is)
    (case c_law_deed_by => k_is)
    (case k_law_deed_by => k_is)
    (case a_law_laid => k_is)
    (case l_law_laid => k_is)
    (case c_law_laid => k_is)
    (case k_law_laid => k_is)
    (case a_law_cells => k_is)
    (case l_law_cells => k_is)
    (case c_law_cells => k_is)
    (case k_law_cells => k_is)
    (case a_law_view => k_is)
    (case l_law_view => k_is)
    (case c_law_view => k_is)
    (case k_law_view => k_is)
    (case a_law_three => k_is)
    (case l_law_three => k_is)
    (case c_law_three => k_is)
    (case k_law_three => k_is)
    (case a_law_once => k_is)
    (case l_law_once => k_is)
    (case c_law_once => k_is)
    (case k_law_once => k_is)
    (case a_law => k_is)
    (case l_law => k_is)
    (case c_law => k_is)
    (case k_law => k_is)
    (case pg_Box => k_is)
    (case hd_Box => k_is)
    (case po_Box => k_is)
    (case sa_Box => k_is)
    (case mk_Box => k_is)
    (case kc_Box => k_is)
    (case na_Box_slots => k_is)
    (case na_Box_in_hands => k_is)
    (case na_Box_deeds => k_is)
    (case pg_Chest => k_is)
    (case hd_Chest => k_is)
    (case po_Chest => k_is)
    (case sa_Chest => k_is)
    (case mk_Chest => k_is)
    (case kc_Chest => k_is)
    (case na_Chest_next_box => k_is)
    (case na_Chest_next_pair => k_is)
    (case na_Chest_kept_boxes => k_is)
    (case na_Chest_kept_pairs => k_is)
    (case sW => k_is)
    (case dW => k_is)
    (case tW => k_is)
    (case xn => k_is)
    (case xt => k_is)
    (case ic_NoBox => k_is)
    (case it_NoBox => k_is)
    (case ss_NoBox => first | rfl | k_is)
    (case ic_NoSlot => k_is)
    (case it_NoSlot => k_is)
    (case ss_NoSlot => first | rfl | k_is)
    (case ic_NoHand => k_is)
    (case it_NoHand => k_is)
    (case ss_NoHand => first | rfl | k_is)
    (case ic_NoPair => k_is)
    (case it_NoPair => k_is)
    (case ss_NoPair => first | rfl | k_is)
    (case ic_NoWill => k_is)
    (case it_NoWill => k_is)
    (case ss_NoWill => first | rfl | k_is)
    (case ic_TooMany => k_is)
    (case it_TooMany => k_is)
    (case ss_TooMany => first | rfl | k_is)
    (case x_NoSlot => k_exc)
    (case xk_NoSlot => k_is)
    (case xs_NoSlot => k_is)
    (case xy_NoSlot => k_is)
    (case xg_NoSlot => k_is)
    (case xh_NoSlot => k_is)
    (case xd_NoSlot => k_is)
    (case xc_NoSlot => k_is)
    (case xm_NoSlot => k_is)
    (case xw_NoSlot => k_is)
    (case is_NoSlot_NoBox => k_is)
    (case is_NoSlot_NoSlot => first | rfl | k_is)
    (case is_NoSlot_NoHand => k_is)
    (case is_NoSlot_NoPair => k_is)
    (case is_NoSlot_NoWill => k_is)
    (case is_NoSlot_TooMany => k_is)
    (case is_NoSlot_ValueError => k_is)
    (case x_TooMany => k_exc)
    (case xk_TooMany => k_is)
    (case xs_TooMany => k_is)
    (case xy_TooMany => k_is)
    (case xg_TooMany => k_is)
    (case xh_TooMany => k_is)
    (case xd_TooMany => k_is)
    (case xc_TooMany => k_is)
    (case xm_TooMany => k_is)
    (case xw_TooMany => k_is)
    (case is_TooMany_NoBox => k_is)
    (case is_TooMany_NoSlot => k_is)
    (case is_TooMany_NoHand => k_is)
    (case is_TooMany_NoPair => k_is)
    (case is_TooMany_NoWill => k_is)
    (case is_TooMany_TooMany => first | rfl | k_is)
    (case is_TooMany_ValueError => k_is)
    (case x_NoHand => k_exc)
    (case xk_NoHand => k_is)
    (case xs_NoHand => k_is)
    (case xy_NoHand => k_is)
    (case xg_NoHand => k_is)
    (case xh_NoHand => k_is)
    (case xd_NoHand => k_is)
    (case xc_NoHand => k_is)
    (case xm_NoHand => k_is)
    (case xw_NoHand => k_is)
    (case is_NoHand_NoBox => k_is)
    (case is_NoHand_NoSlot => k_is)
    (case is_NoHand_NoHand => first | rfl | k_is)
    (case is_NoHand_NoPair => k_is)
    (case is_NoHand_NoWill => k_is)
    (case is_NoHand_TooMany => k_is)
    (case is_NoHand_ValueError => k_is)
    (case x_NoPair => k_exc)
    (case xk_NoPair => k_is)
    (case xs_NoPair => k_is)
    (case xy_NoPair => k_is)
    (case xg_NoPair => k_is)
    (case xh_NoPair => k_is)
    (case xd_NoPair => k_is)
    (case xc_NoPair => k_is)
    (case xm_NoPair => k_is)
    (case xw_NoPair => k_is)
    (case is_NoPair_NoBox => k_is)
    (case is_NoPair_NoSlot => k_is)
    (case is_NoPair_NoHand => k_is)
    (case is_NoPair_NoPair => first | rfl | k_is)
    (case is_NoPair_NoWill => k_is)
    (case is_NoPair_TooMany => k_is)
    (case is_NoPair_ValueError => k_is)
    (case x_NoWill => k_exc)
    (case xk_NoWill => k_is)
    (case xs_NoWill => k_is)
    (case xy_NoWill => k_is)
    (case xg_NoWill => k_is)
    (case xh_NoWill => k_is)
    (case xd_NoWill => k_is)
    (case xc_NoWill => k_is)
    (case xm_NoWill => k_is)
    (case xw_NoWill => k_is)
    (case is_NoWill_NoBox => k_is)
    (case is_NoWill_NoSlot => k_is)
    (case is_NoWill_NoHand => k_is)
    (case is_NoWill_NoPair => k_is)
    (case is_NoWill_NoWill => first | rfl | k_is)
    (case is_NoWill_TooMany => k_is)
    (case is_NoWill_ValueError => k_is)
    (case x_NoBox => k_exc)
    (case xk_NoBox => k_is)
    (case xs_NoBox => k_is)
    (case xy_NoBox => k_is)
    (case xg_NoBox => k_is)
    (case xh_NoBox => k_is)
    (case xd_NoBox => k_is)
    (case xc_NoBox => k_is)
    (case xm_NoBox => k_is)
    (case xw_NoBox => k_is)
    (case is_NoBox_NoBox => first | rfl | k_is)
    (case is_NoBox_NoSlot => k_is)
    (case is_NoBox_NoHand => k_is)
    (case is_NoBox_NoPair => k_is)
    (case is_NoBox_NoWill => k_is)
    (case is_NoBox_TooMany => k_is)
    (case is_NoBox_ValueError => k_is)
    (case g_LARGEST_SIZE => k_is)
    (case g_MOST_BOXES => k_is)
    (case g_MOST_PAIRS => k_is)
    (case g_MOST_DEEDS => k_is)
    (case z_ValueError => k_is)
    (case z_all => k_is)
    (case z_any => k_is)
    (case z_bool => k_is)
    (case z_dict => k_is)
    (case z_enumerate => k_is)
    (case z_int => k_is)
    (case z_isinstance => k_is)
    (case z_len => k_is)
    (case z_list => k_is)
    (case z_min => k_is)
    (case z_range => k_is)
    (case z_set => k_is)
    (case z_sorted => k_is)
    (case z_tuple => k_is)
