import PyProof.Rows.All
import Wide.All
import OpenK.AllK
import Wide.FinOn
import HandS.ForMost
import HandS.ExcInit
import HandS.IsInst
import HandS.RaiseMore
import HandS.Wide
import HandS.Codes
import HandS.Steps
import HandS.Zip
import HandS.Evl
import HandS.ExcIs
import KE.KExcIs
import HandS.ExcValue
import HandS.Exc
import HandS.TryMany
import KE.KOpsOwn
import HandS.OwnEq
import HandS.Gcd
import HandS.ExcField
import HandS.Lambda
import HandS.CallLocal
import HandS.Style
import HandS.StrMore
import HandS.WordsExc
import HandS.WideBits
import KE.KMathG
import HandS.Iter
import KE.GoesMore
import PyProof.EnumMake
import PyProof.Draws
import HandS.EndTab
import KE.KNestM
import PySem.Challenge.RW_flowpapers_k02_whole_polynomials_of_one
set_option Elab.async false
set_option linter.all false
set_option maxRecDepth 100000
set_option maxHeartbeats 4000000
/-! Defs that are run where no repr is under way: what repr and == of data ask. -/
namespace GL
open PySem PySem.Spec PyProof.Rows L2

/-- nothing is being shown -/
abbrev Quiet (A : Around) : Prop := A.guards = some []

/-- as FnOk, asked only where nothing is being shown -/
structure OkG (P : Program) (w : World) (K : PySem.W.Frag) (mg : Str → Option Value) (base : Heap) (CX : CXT) (k : Nat) (f : Addr) (fd : FuncData) (ps : List Str) (sp : Sp) : Prop where
  len : ∀ vs H Q E, sp vs H Q E → vs.length = ps.length
  run : ∀ (A : Around) (outer : List Env) (s : Shared) (H : Hp) (args : Args) (us : List Value) (vs : List V) (Q : VK) (E : XK), Room k A → Quiet A → Env0 P w K mg base A outer s H →
    BindsTo s fd args (ps.zip us) → Vals vs us → sp vs H Q E → codeAny (model P w) A (.call (.ref f) args) (CR CX outer P w H s Q E) s

section
variable {P : Program} {w : World} {K : PySem.W.Frag} {mg : Str → Option Value} {base : Heap} {CX : CXT} {k : Nat} {f : Addr} {fd : FuncData} {ps : List Str} {sp : Sp}
theorem OkG.of (F : FnOk P w K mg base CX k f fd ps sp) : OkG P w K mg base CX k f fd ps sp :=
  ⟨F.len, fun A outer s H args us vs Q E hr _ e0 hb r h => F.run A outer s H args us vs Q E hr e0 hb r h⟩
theorem OkG.mono {j : Nat} (F : OkG P w K mg base CX j f fd ps sp) (h : j ≤ k) : OkG P w K mg base CX k f fd ps sp :=
  ⟨F.len, fun A outer s H args us vs Q E hr hq e0 hb r z => F.run A outer s H args us vs Q E (hr.mono h) hq e0 hb r z⟩

/-- a def by its body, where nothing is being shown -/
theorem okG {x qual : Str} {st : Stmt} {N : List Str} (F : Fun K x qual st f fd) (S : FnScope N ps (defScope st)) (len : ∀ vs H Q E, sp vs H Q E → vs.length = ps.length)
    (body : ∀ (cdv : Value) (A : Around) (outer : List Env) (s : Shared) (H : Hp) (vs : List V) (Q : VK) (E : XK), Room k (A.deeper (envOfC qual (defScope st) s.heap.objs.size f cdv)) → Quiet A → sp vs H Q E →
      ∃ t, PSs (cxOf CX P w K mg base N qual (defScope st) f cdv A outer s H E) (defBody st) t ∧ t { nx := fun _ H' => Q .non H', rt := Q } (start N vs) H) :
    OkG P w K mg base CX (k + 1) f fd ps sp := by
  obtain ⟨oc, od, kV, doc, pm, an, cdv, ct, osl, rfl, lk, hcd⟩ := F.ex
  refine ⟨len, fun A outer s H args us vs Q E hr hq e0 hb r hsp => ?_⟩
  have enough := len _ _ _ _ hsp
  have inK : K.In s.heap := e0.mod.kin.keeps (fun b o e => (e0.bs b o e).1)
  have nl : s.heap.NoLimit := e0.mod.nolimit.keeps (fun b o e => (e0.bs b o e).1)
  refine codeAny_call_function hr.depth (inK _ _ lk) rfl S.co S.gen rfl (PySem.W.codeRec_of inK hcd) (hb _ _ _ _ ?_)
  refine wpAny_newFunctionEnv_cells S.kind ?_ (fun env he s1 x => ?_)
  · rintro ⟨n, v⟩ hy
    cases S.par n (List.of_mem_zip hy).1 with
    | inl q => exact .inl q
    | inr q => exact .inr ⟨q, PySem.W.cellsFrom_some _ _ _ (.inl q)⟩
  subst he
  refine ⟨nl.keeps x.toInCall.keep, codeAny_func ?_⟩
  obtain ⟨t, ht, hT⟩ := body cdv A outer s H vs Q E (hr.deeper _) hq hsp
  have I0 := inv_start (CX := CX) (E := E) S hr.hd e0 enough r x
  refine wpAny_mono (ht.run [] s1 (start N vs) H _ I0 hT) (fun fl s' hs => ?_) (fun e s' hs => hs)
  cases fl with
  | ret u =>
    obtain ⟨v, _, H', J, rv, q⟩ := hs
    exact ⟨v, H', J.os, J.bare, J.base, J.hok, rv, q⟩
  | next =>
    obtain ⟨_, H', J, q⟩ := hs
    exact ⟨V.non, H', J.os, J.bare, J.base, J.hok, rfl, q⟩
  | brk => obtain ⟨_, _, _, q⟩ := hs; exact q.elim
  | cont => obtain ⟨_, _, _, q⟩ := hs; exact q.elim
end

/-- .. from which no exception leaves -/
theorem okG0 {P : Program} {w : World} {K : PySem.W.Frag} {mg : Str → Option Value} {base : Heap} {k : Nat} {f : Addr} {fd : FuncData} {ps : List Str} {sp : Sp} {x qual : Str} {st : Stmt} {N : List Str} (F : Fun K x qual st f fd) (S : FnScope N ps (defScope st))
    (len : ∀ vs H Q E, sp vs H Q E → vs.length = ps.length)
    (body : ∀ (cdv : Value) (A : Around) (outer : List Env) (s : Shared) (H : Hp) (vs : List V) (Q : VK) (E : XK), Room k (A.deeper (envOfC qual (defScope st) s.heap.objs.size f cdv)) → Quiet A → sp vs H Q E →
      ∃ t, PSs (cxOf CX0 P w K mg base N qual (defScope st) f cdv A outer s H E).nox (defBody st) t ∧ t { nx := fun _ H' => Q .non H', rt := Q } (start N vs) H) : OkG P w K mg base CX0 (k + 1) f fd ps sp :=
  okG F S len fun cdv A outer s H vs Q E hr hq h => by
    obtain ⟨t, h1, h2⟩ := body cdv A outer s H vs Q E hr hq h
    exact ⟨t, h1.nox, h2⟩
section
variable {X : Cx} {CX : CXT} {k : Nat} {f : Addr} {fd : FuncData} {ps : List Str} {sp : Sp} {dvs : List V} {ds : List Value} {E : XK}
/-- a call of such a def -/
theorem run_fnG {pins : List (Addr × Obj)} {σ : L2.St} {H : Hp} {s : Shared} {Q : VK} {us : List Value} {vs : List V} (F : OkG X.prog X.w X.K X.mg X.base CX k f fd ps sp) (hr : Room k X.A) (hq : Quiet X.A)
    (hb : Binds X.K fd ps ds) (hd : Vals dvs ds) (hx : Passes CX X E) (I : Inv X pins σ H s) (r : Vals vs us) (h : sp (vs ++ dvs) H Q E) :
    wpAny (model X.prog X.w) X.A (call (.ref f) us) (EP X pins σ Q) X.xe s := by
  have both := r.append hd
  have hl : (us ++ ds).length = ps.length := both.length.symm.trans (F.len _ _ _ _ h)
  have run := F.run X.A X.stack s H ⟨us, []⟩ (us ++ ds) (vs ++ dvs) Q E hr hq I.env0 (hb s us I.kIn hl) both h
  refine wpAny_call (codeAny_mono run fun r s' z => ?_)
  cases r with
  | error e => exact hx pins σ H s e s' I z
  | ok fl => cases fl with
    | ret u => exact I.after z
    | next => exact z.elim
    | brk => exact z.elim
    | cont => exact z.elim
variable {x : Str} {p pos : Pos} {e : Expr} {es : List Expr} {t : TA}
theorem pe_callG (F : OkG X.prog X.w X.K X.mg X.base CX k f fd ps sp) (hr : Room k X.A) (hq : Quiet X.A) (hg : Gl X x) (hm : X.mg x = some (.ref f)) (hk : PySem.W.keepIn X.K (.ref f) = true)
    (hb : Binds X.K fd ps ds) (hd : Vals dvs ds) (hx : Passes CX X E) (ha : PA X (e :: es) t) (hdb : (x == ("__debug__" : Str)) = false := by decide)
    (he : starEach (e :: es) X.env = (false, eval e X.env) :: starEach es X.env := by rfl) (hpl : (backTo pos (starEach es X.env)).any (·.1) = false := by rfl) :
    PE X (.Call (.Name x p) (e :: es) [] pos) (tCall sp dvs E t) :=
  ⟨fun pins s σ H Q I h => wpAny_Call_Name_kw (ld_glob I hg hm (PySem.W.callWith_K (h₀ := X.base) I.ok.mod.kin hk
    (thn (ha.run pos pins s σ H _ I h) fun us s1 ⟨vs, H1, I1, r, q⟩ => ⟨I1.kIn, run_fnG F hr hq hb hd hx I1 r q⟩) he hpl) hdb)⟩
end

/-! ### repr -/
/-- repr of data that can be shown -/
def rRepr (K : PySem.W.Frag) : List V → Hp → VK → Prop := fun xs H Q => ∃ (v : V) (d : PyData), xs = [v] ∧ Dp K H v d ∧ d.showable = true ∧ d.hasDict = false ∧ d.depth ≤ 40 ∧ d.shown.length ≤ sizeLine ∧ Q (.str d.shown) H
theorem call_repr {X : Cx} (hq : Quiet X.A) (hu : X.A.units + 64 < cLine) : CallR X (.builtin "repr") (rRepr X.K) := by
  intro pins s σ H xs us Q I r h
  obtain ⟨v, d, rfl, hd, hs, hn, hp, hz, q⟩ := h
  cases r with
  | cons rv rn =>
    rename_i u us'
    cases rn
    obtain ⟨as, rd⟩ := Dp.reads I d v u hd rv
    cases hd with
    | non => cases rv; exact PySem.P.repr_of_none ⟨.str _, H, I.tok _, ⟨_, rfl⟩, q⟩
    | bl b => cases rv; exact PySem.P.repr_of_bool ⟨.str _, H, I.tok _, ⟨_, rfl⟩, q⟩
    | int i =>
      obtain ⟨t, rfl⟩ := rv
      exact PySem.P.repr_of_int (of_decide_eq_true hs) ⟨.str _, H, I.tok _, ⟨_, rfl⟩, q⟩
    | str x =>
      obtain ⟨t, rfl⟩ := rv
      exact PySem.P.repr_of_str ⟨.str _, H, I.tok _, ⟨_, rfl⟩, q⟩
    | lst a b =>
      cases rv
      exact repr_of_reads' rd hs (PyData.noDict_hsm hn) hq (by omega) (fun _ _ e => e) (fun h' u tk hk => ⟨.str _, H, I.kept hk, ⟨_, rfl⟩, q⟩) hz
    | tup a b =>
      cases rv
      exact repr_of_reads' rd hs (PyData.noDict_hsm hn) hq (by omega) (fun _ _ e => e) (fun h' u tk hk => ⟨.str _, H, I.kept hk, ⟨_, rfl⟩, q⟩) hz

/-! ### values at a heap that stays -/
section
variable {σ : L2.St} {H : Hp} {i : Nat} {v x y z : V} {ta tb te tv : TE} {b : Bool} {K : PySem.W.Frag} {D : Ends} {p : Addr} {kvs : List (Key × V)} {k : Key}
theorem v_I0 {g : Int → Int → V} {i j : Int} (ha : Val ta σ H (.int i)) (hb : Val tb σ H (.int j)) : Val (tOp (rI0 g) ta tb) σ H (g i j) := val_op ha hb fun Q q => ⟨i, j, rfl, rfl, q⟩
theorem v_I {C : Int → Int → Prop} {g : Int → Int → V} {i j : Int} (ha : Val ta σ H (.int i)) (hb : Val tb σ H (.int j)) (hc : C i j) : Val (tOp (rI C g) ta tb) σ H (g i j) := val_op ha hb fun Q q => ⟨i, j, rfl, rfl, hc, q⟩
theorem v_add {i j : Int} (ha : Val ta σ H (.int i)) (hb : Val tb σ H (.int j)) : Val (tOp (rI0 fun i j => .int (i + j)) ta tb) σ H (.int (i + j)) := v_I0 ha hb
theorem v_sub {i j : Int} (ha : Val ta σ H (.int i)) (hb : Val tb σ H (.int j)) : Val (tOp (rI0 fun i j => .int (i - j)) ta tb) σ H (.int (i - j)) := v_I0 ha hb
theorem v_mul {C : Int → Int → Prop} {i j : Int} (ha : Val ta σ H (.int i)) (hb : Val tb σ H (.int j)) (hc : C i j) : Val (tOp (rI C fun i j => .int (i * j)) ta tb) σ H (.int (i * j)) := v_I ha hb hc
theorem v_pow {i j : Int} (ha : Val ta σ H (.int i)) (hb : Val tb σ H (.int j)) (hc : 0 ≤ j ∧ j ≤ 1000000 ∧ i.natAbs < 2 ^ 64) : Val (tOp (rI CPow fun i j => .int (i ^ j.toNat)) ta tb) σ H (.int (i ^ j.toNat)) := v_I ha hb hc
theorem v_mod {C : Int → Int → Prop} {i j : Int} (ha : Val ta σ H (.int i)) (hb : Val tb σ H (.int j)) (hc : C i j) : Val (tOp (rI C fun i j => .int (i % j)) ta tb) σ H (.int (i % j)) := v_I ha hb hc
theorem v_div {C : Int → Int → Prop} {i j : Int} (ha : Val ta σ H (.int i)) (hb : Val tb σ H (.int j)) (hc : C i j) : Val (tOp (rI C fun i j => .int (i / j)) ta tb) σ H (.int (i / j)) := v_I ha hb hc
theorem v_fmod {C : Int → Int → Prop} {i j : Int} (ha : Val ta σ H (.int i)) (hb : Val tb σ H (.int j)) (hc : C i j) : Val (tOp (rI C fun i j => .int (i.fmod j)) ta tb) σ H (.int (i.fmod j)) := v_I ha hb hc
theorem v_fdiv {C : Int → Int → Prop} {i j : Int} (ha : Val ta σ H (.int i)) (hb : Val tb σ H (.int j)) (hc : C i j) : Val (tOp (rI C fun i j => .int (i.fdiv j)) ta tb) σ H (.int (i.fdiv j)) := v_I ha hb hc
theorem v_get (h : Val te σ H (.ref p)) (hp : H p = some (.dK kvs)) (hv : valV kvs k = some v) : Val (tDGet te (tC (kV k))) σ H v := fun Q q => h _ ⟨p, v, rfl, .inl ⟨kvs, k, .inl hp, rfl, hv.symm⟩, q⟩
theorem v_int1 {i : Int} (h : Val te σ H (.int i)) : Val (tCB (fun xs H Q => (∃ i, xs = [.int i] ∧ Q (.int i) H) ∨ ∃ k, xs = [.bl k] ∧ Q (.int (if k then 1 else 0)) H) (tCons te tNil)) σ H (.int i) :=
  fun Q q => h _ (.inl ⟨i, rfl, q⟩)
theorem v_len {xs : List V} (h : Val te σ H (.ref p)) (hx : SqL K H p xs ∨ SqT K H p xs) : Val (tCB (fun xs H Q => ∃ p ys, xs = [.ref p] ∧ (SqL K H p ys ∨ SqT K H p ys) ∧ Q (.int ys.length) H) (tCons te tNil)) σ H (.int (xs.length : Int)) :=
  fun Q q => h _ ⟨p, xs, rfl, hx, q⟩
theorem v_ixL {xs : List V} {n : Nat} (h : Val te σ H (.ref p)) (hi : Val tb σ H (.int (n : Int))) (hx : SqL K H p xs) (he : xs[n]? = some v) : Val (tOp (rIxL K) te tb) σ H v :=
  val_op h hi fun Q q => ⟨p, xs, n, v, rfl, rfl, hx, atI_nat he, q⟩
theorem v_ixT {xs : List V} {n : Nat} (h : Val te σ H (.ref p)) (hi : Val tb σ H (.int (n : Int))) (hx : SqT K H p xs) (he : xs[n]? = some v) : Val (tOp (rIxT K) te tb) σ H v :=
  val_op h hi fun Q q => ⟨p, xs, n, v, rfl, rfl, hx, atI_nat he, q⟩
/-- values of an argument list -/
def VA (ta : TA) (σ : L2.St) (H : Hp) (vs : List V) : Prop := ∀ Q : List V → Hp → Prop, Q vs H → ta σ H Q
theorem va_nil : VA tNil σ H [] := fun _ q => q
theorem va_cons {tr : TA} {vs : List V} (h : Val te σ H v) (hr : VA tr σ H vs) : VA (tCons te tr) σ H (v :: vs) := fun Q q => h _ (hr _ q)
theorem l_lst {ta : TA} {vs : List V} {Q : VK} (h : VA ta σ H vs) (hl : vs.length ≤ 100000) (q : ∀ p, H p = none → Q (.ref p) (upd H p (.lst vs))) : tLst ta σ H Q := h _ ⟨Nat.le_trans hl (by decide), q⟩
theorem l_tup {ta : TA} {vs : List V} {Q : VK} (h : VA ta σ H vs) (hl : vs.length ≤ 100000) (q : ∀ p, H p = none → Q (.ref p) (upd H p (.tup vs))) : tTup ta σ H Q := h _ ⟨Nat.le_trans hl (by decide), q⟩
theorem v_cb {r : List V → Hp → VK → Prop} {ta : TA} {vs : List V} {z : V} (h : VA ta σ H vs) (hr : ∀ Q : VK, Q z H → r vs H Q) : Val (tCB r ta) σ H z := fun Q q => h _ (hr Q q)
theorem c_call {sp : Sp} {E : XK} {ta : TA} {vs : List V} {Q : VK} (h : VA ta σ H vs) (q : sp vs H Q E) : tCall sp [] E ta σ H Q := h _ (by rw [List.append_nil]; exact q)
theorem s_put (h0 : Val te σ H (.ref p)) (h : Val tv σ H v) (hp : H p = some (.dK kvs)) (hl : kvs.length ≤ 100) (q : D.nx σ (upd H p (.dK (putK kvs k v)))) : sDPut te (tC (kV k)) tv D σ H :=
  h _ (h0 _ ⟨p, _, rfl, DPut.k hp (Nat.lt_of_le_of_lt hl (by decide)), q⟩)
theorem a_I {g : Int → Int → Bool} {i j : Int} (ha : Val ta σ H (.int i)) (hb : Val tb σ H (.int j)) : Ans (tTest (tOp (rI0 fun i j => .bl (g i j)) ta tb)) σ H (g i j) := ans_cmp ha hb fun Q q => ⟨i, j, rfl, rfl, q⟩
theorem st_if {t : TT} {t1 t2 : TS} (h : Ans t σ H b) (h1 : b = true → t1 D σ H) (h2 : b = false → t2 D σ H) : tIfS t t1 t2 D σ H := by
  cases b with
  | true => exact st_yes h (h1 rfl)
  | false => exact st_no h (h2 rfl)
end

/-- a walk over enumerate of a list -/
theorem for_enumL {K : PySem.W.Frag} {a : Addr} {xs : List V} {g : TG} {tb : TS} {D : Ends} {σ : L2.St} {H : Hp} (Pv : Nat → L2.St → Hp → Prop) (h0 : Pv 0 σ H) (hq : ∀ i σ H, Pv i σ H → SqL K H a xs)
    (hs : ∀ (i : Nat) (x : V) (T : Addr) (σ : L2.St) (H : Hp), xs[i]? = some x → Pv i σ H → H T = none → g (.ref T) σ (upd H T (.tup [.int (i : Nat), x])) fun σ2 H2 => tb { D with nx := Pv (i + 1), ct := Pv (i + 1), bk := D.nx } σ2 H2)
    (hd : ∀ σ H, Pv xs.length σ H → D.nx σ H) :
    ∃ W : Nat → Nat → L2.St → Hp → Prop, (∃ m, W 0 m σ H) ∧ ∀ i m σ H, W i m σ H →
      ((Ite K a).stop i H ∧ D.nx σ H) ∨ ((Ite K a).go i H ∧ ∃ N : L2.St → Hp → Prop, (∀ σ' H', N σ' H' → ∃ m', m' < m ∧ W (i + 1) m' σ' H') ∧ ∀ v H', (Ite K a).yld i H v H' → g v σ H' fun σ2 H2 => tb { D with nx := N, ct := N, bk := D.nx } σ2 H2) := by
  refine ⟨fun i m σ H => m = xs.length - i ∧ i ≤ xs.length ∧ Pv i σ H, ⟨_, rfl, Nat.zero_le _, h0⟩, ?_⟩
  rintro i m σ H ⟨rfl, hi, p⟩
  have q := hq i σ H p
  rcases Nat.lt_or_ge i xs.length with lt | ge
  · refine .inr ⟨⟨xs, xs[i], q, List.getElem?_eq_getElem lt⟩, Pv (i + 1), fun σ' H' p' => ⟨xs.length - (i + 1), by omega, rfl, lt, p'⟩, ?_⟩
    rintro v H' ⟨T, x, rfl, hT, rfl, f⟩
    exact hs i x T σ H (f xs q) p hT
  · obtain rfl : i = xs.length := by omega
    exact .inl ⟨⟨xs, q, Nat.le_refl _⟩, hd σ H p⟩
theorem Same.new' {H : Hp} {p : Addr} {o : HO} (h : H p = none) : Same H (upd H p o) := fun b u e => by
  rw [upd_ne (ne_of_none e h)]
  exact e
/-- a sum of a list and a list of written items -/
theorem l_catL {σ : L2.St} {H : Hp} {ta : TE} {tb : TA} {Q : VK} {l : Addr} {xs ys : List V} (ha : Val ta σ H (.ref l)) (hl : H l = some (.lst xs)) (hb : VA tb σ H ys) (h1 : xs.length ≤ 1000) (h2 : ys.length ≤ 1000)
    (k : ∀ p H', Same H H' → H' p = some (.lst (xs ++ ys)) → Q (.ref p) H') : tOp rCat ta (tLst tb) σ H Q := by
  refine ha _ (hb _ ⟨Nat.le_trans h2 (by decide), fun b nb => ⟨l, b, xs, ys, rfl, rfl, ?_, upd_same, Nat.le_trans (Nat.add_le_add h1 h2) (by decide), fun p np => k p _ ?_ upd_same⟩⟩)
  · rw [upd_ne (ne_of_none hl nb)]; exact hl
  · exact (Same.new' nb).trans (Same.new' np)
section
variable {σ : L2.St} {H : Hp} {i : Nat} {ta : TE} {tb : TA} {D : Ends} {l : Addr} {xs ys : List V}
theorem s_lst (h : VA tb σ H ys) (hl : ys.length ≤ 100000) (q : ∀ p H', Same H H' → H' p = some (.lst ys) → D.nx (σ.set i (some (.ref p))) H') : tAsg (tLst tb) (gName i) D σ H := h _ ⟨Nat.le_trans hl (by decide), fun p hp => q p _ (Same.new' hp) upd_same⟩
theorem s_catL (ha : Val ta σ H (.ref l)) (hl : H l = some (.lst xs)) (hb : VA tb σ H ys) (h1 : xs.length ≤ 1000) (h2 : ys.length ≤ 1000)
    (k : ∀ p H', Same H H' → H' p = some (.lst (xs ++ ys)) → D.nx (σ.set i (some (.ref p))) H') : tAsg (tOp rCat ta (tLst tb)) (gName i) D σ H := l_catL (Q := fun v H' => gName i v σ H' D.nx) ha hl hb h1 h2 k
theorem r_catL (ha : Val ta σ H (.ref l)) (hl : H l = some (.lst xs)) (hb : VA tb σ H ys) (h1 : xs.length ≤ 1000) (h2 : ys.length ≤ 1000)
    (k : ∀ p H', Same H H' → H' p = some (.lst (xs ++ ys)) → D.rt (.ref p) H') : tRet (tOp rCat ta (tLst tb)) D σ H := l_catL (Q := D.rt) ha hl hb h1 h2 k
end
/-! ### statements in a row: what follows stays as it is written -/
section
variable {σ : L2.St} {H : Hp} {i : Nat} {ta te tv : TE} {tb : TA} {D : Ends} {l p : Addr} {xs ys : List V} {tz t1 t2 : TS} {v : V} {kvs : List (Key × V)} {k : Key} {t : TT} {b : Bool}
theorem q_lst (h : VA tb σ H ys) (hl : ys.length ≤ 100000) (q : ∀ p H', Same H H' → H' p = some (.lst ys) → tz D (σ.set i (some (.ref p))) H') : tSeq (tAsg (tLst tb) (gName i)) tz D σ H := s_lst (D := { D with nx := tz D }) h hl q
theorem q_catL (ha : Val ta σ H (.ref l)) (hl : H l = some (.lst xs)) (hb : VA tb σ H ys) (h1 : xs.length ≤ 1000) (h2 : ys.length ≤ 1000)
    (q : ∀ p H', Same H H' → H' p = some (.lst (xs ++ ys)) → tz D (σ.set i (some (.ref p))) H') : tSeq (tAsg (tOp rCat ta (tLst tb)) (gName i)) tz D σ H := s_catL (D := { D with nx := tz D }) ha hl hb h1 h2 q
theorem q_set (h : Val te σ H v) (q : tz D (σ.set i (some v)) H) : tSeq (tAsg te (gName i)) tz D σ H := h _ q
theorem q_put (h0 : Val te σ H (.ref p)) (h : Val tv σ H v) (hp : H p = some (.dK kvs)) (hl : kvs.length ≤ 100) (q : tz D σ (upd H p (.dK (putK kvs k v)))) : tSeq (sDPut te (tC (kV k)) tv) tz D σ H := s_put (D := { D with nx := tz D }) h0 h hp hl q
/-- any expression that is stored: its own reading, then what follows -/
theorem q_asg (h : te σ H fun v H' => tz D (σ.set i (some v)) H') : tSeq (tAsg te (gName i)) tz D σ H := h
theorem q_if (h : Ans t σ H b) (h1 : b = true → t1 { D with nx := tz D } σ H) (h2 : b = false → t2 { D with nx := tz D } σ H) : tSeq (tIfS t t1 t2) tz D σ H := st_if (D := { D with nx := tz D }) h h1 h2
/-- an if without else -/
theorem q_when (h : Ans t σ H b) (h1 : b = true → t1 { D with nx := tz D } σ H) (h2 : b = false → tz D σ H) : tSeq (tIfS t t1 tNext) tz D σ H := st_if (D := { D with nx := tz D }) h h1 h2
theorem q_unless (h : Ans t σ H false) (q : tz D σ H) : tSeq (tIfS t t1 tNext) tz D σ H := st_no (D := { D with nx := tz D }) h q
theorem r_ret (h : te σ H D.rt) : tRet te D σ H := h
end
/-! ### expressions that make things -/
def EM (te : TE) (σ : L2.St) (H : Hp) (P : V → Hp → Prop) : Prop := ∀ Q : VK, (∀ v H', Same H H' → P v H' → Q v H') → te σ H Q
def VM (tb : TA) (σ : L2.St) (H : Hp) (R : List V → Hp → Prop) : Prop := ∀ Q : List V → Hp → Prop, (∀ vs H', Same H H' → R vs H' → Q vs H') → tb σ H Q
def Stays {α : Type} (R : α → Hp → Prop) : Prop := ∀ x H1 H2, Same H1 H2 → R x H1 → R x H2
/-- a row whose items are of one kind each, by their places from k on -/
def Run (P : Nat → V → Hp → Prop) : Nat → List V → Hp → Prop
  | _, [], _ => True
  | k, v :: r, H => P k v H ∧ Run P (k + 1) r H
theorem Run.keep {P : Nat → V → Hp → Prop} (st : ∀ k, Stays (P k)) : ∀ {k : Nat} {xs : List V} {H1 H2 : Hp}, Same H1 H2 → Run P k xs H1 → Run P k xs H2
  | _, [], _, _, _, _ => trivial
  | _, _ :: _, _, _, s, ⟨a, b⟩ => ⟨st _ _ _ _ s a, Run.keep st s b⟩
theorem Run.app {P : Nat → V → Hp → Prop} {H : Hp} : ∀ {k : Nat} {xs ys : List V}, Run P k xs H → Run P (k + xs.length) ys H → Run P k (xs ++ ys) H
  | _, [], _, _, b => b
  | k, v :: r, ys, ⟨a, c⟩, b => ⟨a, Run.app c (by rw [List.length_cons] at b; rw [show k + 1 + r.length = k + (r.length + 1) by omega]; exact b)⟩
theorem Run.get {P : Nat → V → Hp → Prop} {H : Hp} : ∀ {k : Nat} {xs : List V} {i : Nat} {v : V}, Run P k xs H → xs[i]? = some v → P (k + i) v H
  | _, [], _, _, _, e => by simp at e
  | _, _ :: _, 0, _, ⟨a, _⟩, e => by simp at e; subst e; exact a
  | k, _ :: r, i + 1, v, ⟨_, b⟩, e => by
    have q := Run.get (i := i) (v := v) b (by simpa using e)
    rw [show k + (i + 1) = k + 1 + i by omega]
    exact q
/-- the row's kinds, and how many -/
def Rows (P : Nat → V → Hp → Prop) (k n : Nat) (xs : List V) (H : Hp) : Prop := Run P k xs H ∧ xs.length = n
theorem Rows.stays {P : Nat → V → Hp → Prop} (st : ∀ k, Stays (P k)) {k n : Nat} : Stays (Rows P k n) := fun _ _ _ s h => ⟨Run.keep st s h.1, h.2⟩
section
variable {σ : L2.St} {H : Hp} {i : Nat} {ta te : TE} {tb tr : TA} {D : Ends} {l p : Addr} {xs ys ws : List V} {tz : TS} {P : Nat → V → Hp → Prop} {k n : Nat} {R : List V → Hp → Prop}
theorem vm_nil : VM tNil σ H (Rows P k 0) := fun Q q => q [] H (Same.refl H) ⟨trivial, rfl⟩
theorem vm_cons (st : ∀ k, Stays (P k)) (h : EM te σ H (P k)) (hr : ∀ H1, Same H H1 → VM tr σ H1 (Rows P (k + 1) n)) : VM (tCons te tr) σ H (Rows P k (n + 1)) := fun Q q =>
  h _ fun v H1 s1 p1 => hr H1 s1 _ fun r H2 s2 ⟨r2, e2⟩ => q (v :: r) H2 (s1.trans s2) ⟨⟨st k v H1 H2 s2 p1, r2⟩, by rw [List.length_cons, e2]⟩
theorem em_lst (h : VA tb σ H ws) (hl : ws.length ≤ 100000) : EM (tLst tb) σ H (fun v H' => ∃ q, v = .ref q ∧ H' q = some (.lst ws)) := fun Q q =>
  h _ ⟨Nat.le_trans hl (by decide), fun a ha => q _ _ (Same.new' ha) ⟨a, rfl, upd_same⟩⟩
theorem q_lstM (st : Stays R) (h : VM tb σ H R) (hl : ∀ vs H', R vs H' → vs.length ≤ 1000) (q : ∀ p vs H', Same H H' → H' p = some (.lst vs) → R vs H' → tz D (σ.set i (some (.ref p))) H') : tSeq (tAsg (tLst tb) (gName i)) tz D σ H :=
  h _ fun vs H1 s1 r1 => ⟨Nat.le_trans (hl vs H1 r1) (by decide), fun a ha => q a vs _ (s1.trans (Same.new' ha)) upd_same (st _ _ _ (Same.new' ha) r1)⟩
theorem l_catM {Q : VK} (st : Stays R) (ha : Val ta σ H (.ref l)) (hl : H l = some (.lst xs)) (h1 : xs.length ≤ 1000) (h : VM tb σ H R) (h2 : ∀ vs H', R vs H' → vs.length ≤ 1000)
    (q : ∀ p vs H', Same H H' → H' p = some (.lst (xs ++ vs)) → R vs H' → Q (.ref p) H') : tOp rCat ta (tLst tb) σ H Q :=
  ha _ (h _ fun vs H1 s1 r1 => ⟨Nat.le_trans (h2 vs H1 r1) (by decide), fun b nb => ⟨l, b, xs, vs, rfl, rfl, (Same.new' nb) _ _ (s1 _ _ hl), upd_same, Nat.le_trans (Nat.add_le_add h1 (h2 vs H1 r1)) (by decide),
    fun p np => q p vs _ (s1.trans ((Same.new' nb).trans (Same.new' np))) upd_same (st _ _ _ ((Same.new' nb).trans (Same.new' np)) r1)⟩⟩)
theorem q_catM (st : Stays R) (ha : Val ta σ H (.ref l)) (hl : H l = some (.lst xs)) (h1 : xs.length ≤ 1000) (h : VM tb σ H R) (h2 : ∀ vs H', R vs H' → vs.length ≤ 1000)
    (q : ∀ p vs H', Same H H' → H' p = some (.lst (xs ++ vs)) → R vs H' → tz D (σ.set i (some (.ref p))) H') : tSeq (tAsg (tOp rCat ta (tLst tb)) (gName i)) tz D σ H :=
  l_catM (Q := fun v H' => gName i v σ H' (tz D)) st ha hl h1 h h2 q
theorem r_catM (st : Stays R) (ha : Val ta σ H (.ref l)) (hl : H l = some (.lst xs)) (h1 : xs.length ≤ 1000) (h : VM tb σ H R) (h2 : ∀ vs H', R vs H' → vs.length ≤ 1000)
    (q : ∀ p vs H', Same H H' → H' p = some (.lst (xs ++ vs)) → R vs H' → D.rt (.ref p) H') : tRet (tOp rCat ta (tLst tb)) D σ H := l_catM (Q := D.rt) st ha hl h1 h h2 q
end
/-! ### walks, what follows stays as it is written -/
section
variable {K : PySem.W.Frag} {σ : L2.St} {H : Hp} {g : TG} {ta : TA} {te : TE} {tb tz : TS} {D : Ends} {a b : Addr} {xs ys : List V}
theorem q_forR1 {n : Nat} (h : VA ta σ H [.int (n : Int)]) (hn : n ≤ 100000) (Pv : Nat → L2.St → Hp → Prop) (h0 : Pv 0 σ H)
    (hs : ∀ i σ H, i < n → Pv i σ H → g (.int (i : Int)) σ H fun σ2 H2 => tb { D with nx := Pv (i + 1), ct := Pv (i + 1), bk := tz D } σ2 H2) (hd : ∀ σ H, Pv n σ H → tz D σ H) : tSeq (tFor (iRng1 ta) g tb) tz D σ H :=
  h _ ⟨(n : Int), rfl, by omega, by omega, for_range (lo := 0) (n := (n : Int).toNat) (D := { D with nx := tz D }) Pv h0 (fun i σ H hi p => by rw [Int.zero_add]; exact hs i σ H (by omega) p) (fun σ H p => hd σ H (by rw [Int.toNat_natCast] at p; exact p))⟩
theorem q_forL (h : Val te σ H (.ref a)) (hx : SqL K H a xs) (Pv : Nat → L2.St → Hp → Prop) (h0 : Pv 0 σ H) (hl : ∀ i σ H, i ≤ xs.length → Pv i σ H → SqL K H a xs)
    (hs : ∀ i x σ H, xs[i]? = some x → Pv i σ H → g x σ H fun σ2 H2 => tb { D with nx := Pv (i + 1), ct := Pv (i + 1), bk := tz D } σ2 H2) (hd : ∀ σ H, Pv xs.length σ H → tz D σ H) : tSeq (tFor (iList K te) g tb) tz D σ H :=
  h _ ⟨a, rfl, ⟨_, hx⟩, for_list (K := K) (a := a) (xs := xs) (D := { D with nx := tz D }) Pv h0 hl hs hd⟩
theorem q_forE (h : VA ta σ H [.ref a]) (hx : SqL K H a xs) (Pv : Nat → L2.St → Hp → Prop) (h0 : Pv 0 σ H) (hq : ∀ i σ H, Pv i σ H → SqL K H a xs)
    (hs : ∀ (i : Nat) (x : V) (T : Addr) (σ : L2.St) (H : Hp), xs[i]? = some x → Pv i σ H → H T = none → g (.ref T) σ (upd H T (.tup [.int (i : Nat), x])) fun σ2 H2 => tb { D with nx := Pv (i + 1), ct := Pv (i + 1), bk := tz D } σ2 H2)
    (hd : ∀ σ H, Pv xs.length σ H → tz D σ H) : tSeq (tFor (iEnum K ta) g tb) tz D σ H :=
  h _ ⟨a, xs, rfl, hx, for_enumL (D := { D with nx := tz D }) Pv h0 hq hs hd⟩
/-- two names from a pair -/
theorem g_two {i j : Nat} {x y : V} {T : Addr} {K' : L2.St → Hp → Prop} (hT : SqT K H T [x, y]) (q : K' ((σ.set i (some x)).set j (some y)) H) : gTup K 2 (gCons (gName i) (gCons (gName j) gNil)) (.ref T) σ H K' :=
  ⟨T, _, rfl, hT, rfl, x, _, rfl, y, _, rfl, rfl, q⟩
end
section
variable {K : PySem.W.Frag} {σ : L2.St} {H : Hp} {t1 te to : TE} {tb : TA} {D : Ends} {l : Addr} {xs : List V} {v x : V} {i : Nat} {R : List V → Hp → Prop}
theorem g_name {K' : L2.St → Hp → Prop} (q : K' (σ.set i (some v)) H) : gName i v σ H K' := q
/-- xs.append(e) -/
theorem s_app (h : Val to σ H (.ref l)) (hl : H l = some (.lst xs)) (he : te σ H fun v H1 => ∃ ys, H1 l = some (.lst ys) ∧ ys.length ≤ 1000 ∧ D.nx σ (upd H1 l (.lst (ys ++ [v])))) (mono : ∀ {R S : VK}, (∀ v H', R v H' → S v H') → te σ H R → te σ H S) :
    tDrop (tBM K "list" rAppend to (tCons te tNil)) D σ H :=
  h _ ⟨.inl ⟨rfl, _, SqL.of hl⟩, mono (fun v H1 ⟨ys, h1, h2, q⟩ => ⟨l, ys, v, rfl, rfl, h1, Nat.lt_of_le_of_lt h2 (by decide), q⟩) he⟩
theorem s_appC (h : Val to σ H (.ref l)) (hl : H l = some (.lst xs)) (he : te σ H fun v H1 => rAppend (.ref l) [v] H1 fun _ H2 => D.nx σ H2) : tDrop (tBM K "list" rAppend to (tCons te tNil)) D σ H := h _ ⟨.inl ⟨rfl, _, SqL.of hl⟩, he⟩
/-- f(x, [e, ..]) -/
theorem c_callL {sp : Sp} {E : XK} {Q : VK} (h1 : Val t1 σ H x) (st : Stays R) (h2 : VM tb σ H R) (hl : ∀ vs H', R vs H' → vs.length ≤ 1000) (q : ∀ l vs H', Same H H' → H' l = some (.lst vs) → R vs H' → sp [x, .ref l] H' Q E) :
    tCall sp [] E (tCons t1 (tCons (tLst tb) tNil)) σ H Q :=
  h1 _ (h2 _ fun vs H1 s1 r1 => ⟨Nat.le_trans (hl vs H1 r1) (by decide), fun a ha => q a vs _ (s1.trans (Same.new' ha)) upd_same (st _ _ _ (Same.new' ha) r1)⟩)
theorem v_neg {n : Int} (h : Val te σ H (.int n)) : Val (tUn (rU fun i => .int (-i)) te) σ H (.int (-n)) := fun Q q => h _ ⟨n, rfl, q⟩
theorem v_str {n : Int} (h : Val te σ H (.int n)) (hz : n.natAbs.log2 < 1920) : Val (tCB (fun xs H Q => ∃ i, xs = [.int i] ∧ i.natAbs.log2 < 1920 ∧ Q (.str (toString i)) H) (tCons te tNil)) σ H (.str (toString n)) := fun Q q => h _ ⟨n, rfl, hz, q⟩
theorem v_cats {a b : Str} (h1 : Val t1 σ H (.str a)) (h2 : Val te σ H (.str b)) (hz : a.length + b.length ≤ 100000) : Val (tOp (fun x y H Q => ∃ i j, x = .str i ∧ y = .str j ∧ i.length + j.length ≤ sizeLine ∧ Q (.str (i ++ j)) H) t1 te) σ H (.str (a ++ b)) :=
  fun Q q => h1 _ (h2 _ ⟨a, b, rfl, rfl, Nat.le_trans hz (by decide), q⟩)
theorem em_tup {ws : List V} {P : V → Hp → Prop} (h : VA tb σ H ws) (hl : ws.length ≤ 100000) (q : ∀ a H', H' a = some (.tup ws) → P (.ref a) H') : EM (tTup tb) σ H P := fun Q k => l_tup h hl fun a ha => k _ _ (Same.new' ha) (q a _ upd_same)
theorem em_lst' {ws : List V} {P : V → Hp → Prop} (h : VA tb σ H ws) (hl : ws.length ≤ 100000) (q : ∀ a H', H' a = some (.lst ws) → P (.ref a) H') : EM (tLst tb) σ H P := fun Q k => l_lst h hl fun a ha => k _ _ (Same.new' ha) (q a _ upd_same)
/-- {k: e} -/
theorem em_dic1 {key : Key} {P : V → Hp → Prop} (h : ∀ H1, Val te σ H1 v) (q : ∀ a H', H' a = some (.dK [(key, v)]) → P (.ref a) H') : EM (tDisp [(tC (kV key), te)]) σ H P := fun Q k a ha =>
  h _ _ ⟨upd_same, [(key, v)], rfl, by show 1 ≤ 15; decide, k _ _ (by
    have e : mergeK [] [(key, v)] = [(key, v)] := rfl
    rw [e, upd_upd]
    exact Same.new' ha) (q a _ upd_same)⟩
end
section
variable {K : PySem.W.Frag} {σ : L2.St} {H : Hp} {t1 t2 te to : TE} {ta tb : TA} {tu tw tz : TS} {D : Ends} {a b l : Addr} {xs ys : List V} {x y v w : V} {i j : Nat} {r : R2} {Q : VK}
theorem q_lst0 (h : VA tb σ H ys) (hl : ys.length ≤ 100000) (q : ∀ p, H p = none → tz D (σ.set i (some (.ref p))) (upd H p (.lst ys))) : tSeq (tAsg (tLst tb) (gName i)) tz D σ H := h _ ⟨Nat.le_trans hl (by decide), q⟩
theorem Val.is (h : Val te σ H v) (e : v = w) : Val te σ H w := e ▸ h
/-- an if over a comparison, part by part -/
theorem st_cmp (h : t1 σ H fun x H1 => t2 σ H1 fun y H2 => r x y H2 fun z H3 => ∃ b, z = .bl b ∧ if b = true then tu D σ H3 else tw D σ H3) : tIfS (tTest (tOp r t1 t2)) tu tw D σ H := h
theorem q_cmp (h : t1 σ H fun x H1 => t2 σ H1 fun y H2 => r x y H2 fun z H3 => ∃ b, z = .bl b ∧ if b = true then tu { D with nx := tz D } σ H3 else tw { D with nx := tz D } σ H3) : tSeq (tIfS (tTest (tOp r t1 t2)) tu tw) tz D σ H := h
theorem ta_two {Q : List V → Hp → Prop} (h : t1 σ H fun v H1 => t2 σ H1 fun w H2 => Q [v, w] H2) : tCons t1 (tCons t2 tNil) σ H Q := h
theorem cb_one {r : List V → Hp → VK → Prop} (h : te σ H fun v H1 => r [v] H1 Q) : tCB r (tCons te tNil) σ H Q := h
theorem l_slHi (h : Val te σ H (.ref a)) (hx : SqL K H a xs) {n : Int} (hi : Val t1 σ H (.int n)) (q : ∀ p H', Same H H' → H' p = some (.lst (cutV xs none (some n))) → Q (.ref p) H') : tSl (rSlL K) te tNoPart (tPart t1) σ H Q :=
  h _ (hi _ ⟨n, rfl, a, xs, rfl, hx, fun p hp => q p _ (Same.new' hp) upd_same⟩)
theorem v_eq (h1 : Val t1 σ H x) (h2 : Val t2 σ H y) (hs : scal x y = true) : Val (tOp rEq t1 t2) σ H (.bl (decide (x = y))) := val_op h1 h2 fun Q q => ⟨hs, q⟩
/-- [e for x in range(n)] -/
theorem l_lcR1 {n : Nat} {vs : List Nat} (h : VA ta σ H [.int (n : Int)]) (hn : n ≤ 10000) (f : Nat → V) (hw : ∀ x, wipe ((wipe σ vs).set j (some x)) vs = wipe σ vs)
    (hv : ∀ i H1, i < n → Same H H1 → Val te ((wipe σ vs).set j (some (.int (i : Int)))) H1 (f i)) (q : ∀ p H', Same H H' → H' p = some (.lst ((List.range n).map f)) → Q (.ref p) H') : tLc (iRng1 ta) (gName j) tYes te vs σ H Q := by
  refine h _ ⟨(n : Int), rfl, by omega, by omega, fun D hD => lc_range (lo := 0) (n := (n : Int).toNat) (fun i H' => Same H H' ∧ H' D = some (.lst ((List.range i).map f)) ∧ H D = none) ⟨Same.new' hD, upd_same, hD⟩ (fun i H1 hi ⟨s, e, nD⟩ => ?_) (fun H1 ⟨s, e, _⟩ => q D H1 s (by rw [Int.toNat_natCast] at e; exact e))⟩
  refine g_name ⟨hw _, ?_⟩
  show (if true = true then te _ _ _ else (Same H H1 ∧ H1 D = some (.lst ((List.range (i + 1)).map f)) ∧ H D = none))
  rw [if_pos rfl]
  have hv0 : Val te ((wipe σ vs).set j (some (.int (0 + (i : Int))))) H1 (f i) := by
    rw [Int.zero_add]
    exact hv i H1 (by omega) s
  refine hv0 _ ⟨_, e, by rw [List.length_map, List.length_range]; exact Nat.lt_of_lt_of_le (show i < 10000 by omega) (by decide), ?_, ?_, nD⟩
  · intro b o z
    rw [upd_ne (ne_of_none z nD)]
    exact s b o z
  · rw [upd_same, List.range_succ, List.map_append]
    rfl
/-- for a, b in zip(xs, ys) -/
theorem q_forZ {g : TG} (h : ta σ H fun vs H1 => ∃ a b xs ys, vs = [.ref a, .ref b] ∧ SqL K H1 a xs ∧ SqL K H1 b ys ∧ xs.length = ys.length ∧ ∃ Pv : Nat → L2.St → Hp → Prop, Pv 0 σ H1 ∧ (∀ i σ H, Pv i σ H → SqL K H a xs ∧ SqL K H b ys) ∧
      (∀ (i : Nat) (x y : V) (T : Addr) (σ : L2.St) (H : Hp), xs[i]? = some x → ys[i]? = some y → Pv i σ H → H T = none → g (.ref T) σ (upd H T (.tup [x, y])) fun σ2 H2 => tu { D with nx := Pv (i + 1), ct := Pv (i + 1), bk := tz D } σ2 H2) ∧ ∀ σ H, Pv xs.length σ H → tz D σ H)
    (mono : ∀ {R S : List V → Hp → Prop}, (∀ v H', R v H' → S v H') → ta σ H R → ta σ H S) : tSeq (tFor (iZip K ta) g tu) tz D σ H :=
  mono (fun vs H1 ⟨a, b, xs, ys, e, h1, h2, hl, Pv, p0, hq, hs, hd⟩ => ⟨a, b, xs, ys, e, h1, h2, RZ.for_zipL (D := { D with nx := tz D }) hl Pv p0 hq hs hd⟩) h
theorem zipW {g : TG} (hl : xs.length = ys.length) (Pv : Nat → L2.St → Hp → Prop) (p0 : Pv 0 σ H) (hq : ∀ i σ H, Pv i σ H → SqL K H a xs ∧ SqL K H b ys)
    (hs : ∀ (i : Nat) (x y : V) (T : Addr) (σ : L2.St) (H : Hp), xs[i]? = some x → ys[i]? = some y → Pv i σ H → H T = none → g (.ref T) σ (upd H T (.tup [x, y])) fun σ2 H2 => tu { D with nx := Pv (i + 1), ct := Pv (i + 1), bk := tz D } σ2 H2) (hd : ∀ σ H, Pv xs.length σ H → tz D σ H) :
    ∃ W : Nat → Nat → L2.St → Hp → Prop, (∃ m, W 0 m σ H) ∧ ∀ i m σ H, W i m σ H →
      ((Itz K a b).stop i H ∧ tz D σ H) ∨ ((Itz K a b).go i H ∧ ∃ N : L2.St → Hp → Prop, (∀ σ' H', N σ' H' → ∃ m', m' < m ∧ W (i + 1) m' σ' H') ∧ ∀ v H', (Itz K a b).yld i H v H' → g v σ H' fun σ2 H2 => tu { D with nx := N, ct := N, bk := tz D } σ2 H2) :=
  RZ.for_zipL (D := { D with nx := tz D }) hl Pv p0 hq hs hd
/-- .. where the row of both is known -/
theorem q_forZ' {g : TG} (h : ta σ H fun vs H1 => ∃ a b xs ys, vs = [.ref a, .ref b] ∧ SqL K H1 a xs ∧ SqL K H1 b ys ∧ ∃ W : Nat → Nat → L2.St → Hp → Prop, (∃ m, W 0 m σ H1) ∧ ∀ i m σ H, W i m σ H →
      ((Itz K a b).stop i H ∧ tz D σ H) ∨ ((Itz K a b).go i H ∧ ∃ N : L2.St → Hp → Prop, (∀ σ' H', N σ' H' → ∃ m', m' < m ∧ W (i + 1) m' σ' H') ∧ ∀ v H', (Itz K a b).yld i H v H' → g v σ H' fun σ2 H2 => tu { D with nx := N, ct := N, bk := tz D } σ2 H2)) : tSeq (tFor (iZip K ta) g tu) tz D σ H := h
end
/-! ### what the top has written, by names -/
@[irreducible] def fA (mg : Str → Option Value) (x : Str) : Addr := match mg x with
  | some (.ref a) => a
  | _ => 0
@[irreducible] def fDat (K : PySem.W.Frag) (f : Addr) : FuncData := match K.lookup f with
  | some ⟨_, _, .func fd, _⟩ => fd
  | _ => default
/-- the def x of the text -/
structure Df (K : PySem.W.Frag) (mg : Str → Option Value) (x : Str) (st : Stmt) (ps : List Str) : Prop where
  g : mg x = some (.ref (fA mg x))
  F : Fun K x x st (fA mg x) (fDat K (fA mg x))
  b : Binds K (fDat K (fA mg x)) ps []
theorem fA_of {mg : Str → Option Value} {x : Str} {a : Addr} (h : mg x = some (.ref a)) : fA mg x = a := by
  unfold fA
  rw [h]
theorem fDat_of {K : PySem.W.Frag} {f : Addr} {oc : Value} {od : Option Addr} {fd : FuncData} {sl : Array (Option Value)} (h : K.lookup f = some ⟨oc, od, .func fd, sl⟩) : fDat K f = fd := by
  unfold fDat
  rw [h]
theorem Df.mk' {K : PySem.W.Frag} {mg : Str → Option Value} {x : Str} {st : Stmt} {ps : List Str} {h : Heap} {f : Addr} {oc : Value} {od an : Option Addr} {osl : Array (Option Value)} {kV doc pm cdv ct : Value} (X : K.In h) (G : h.Ns mainGlobals mg)
    (a : PySem.W.nsIn K mainGlobals x = some (some (.ref f))) (l : K.lookup f = some ⟨oc, od, .func (PySem.W.fnOf x x (defArgs st) (defBody st) (defScope st) .none kV doc pm an cdv ct), osl⟩)
    (c : PySem.W.codeIn K cdv x = true) (k : PySem.W.keepIn K (.ref f) = true)
    (bi : ∀ (kV doc pm : Value) (an : Option Addr) (cdv ct : Value) (us : List Value), us.length = ps.length → bindArgs (PySem.W.fnOf x x (defArgs st) (defBody st) (defScope st) .none kV doc pm an cdv ct) ⟨us, []⟩ = pure (ps.zip us)) : Df K mg x st ps := by
  have e := PySem.W.mg_of X G a
  have F := fun_mk (st := st) l c k
  have e1 := fA_of e
  have e2 := fDat_of l
  refine ⟨by rw [e1]; exact e, ?_, ?_⟩
  · rw [e1, e2]; exact F
  · rw [e1, e2]; exact F.binds bi
/-- the law's own argument -/
theorem bind_one {x : Str} {st : Stmt} {p : Str} {kV doc pm cdv ct : Value} {an : Option Addr} (h : ∀ u : Value, bindArgs (PySem.W.fnOf x x (defArgs st) (defBody st) (defScope st) .none kV doc pm an cdv ct) ⟨[u], []⟩ = pure [(p, u)]) (s : Shared) (u : Value) :
    BindsTo s (PySem.W.fnOf x x (defArgs st) (defBody st) (defScope st) .none kV doc pm an cdv ct) ⟨[u], []⟩ [(p, u)] := .of_eq (h u)
section
variable {X : Cx} {k : Nat} {x : Str} {st : Stmt} {ps : List Str} {sp : Sp} {p pos : Pos} {e : Expr} {es : List Expr} {t : TA}
/-- a call of the def x -/
theorem pe_c (d : Df X.K X.mg x st ps) (G : FnOk X.prog X.w X.K X.mg X.base CX0 k (fA X.mg x) (fDat X.K (fA X.mg x)) ps sp) (hr : Room k X.A) (ha : PA X (e :: es) t) (hg : Gl X x := by rfl) (hdb : (x == ("__debug__" : Str)) = false := by decide)
    (he : starEach (e :: es) X.env = (false, eval e X.env) :: starEach es X.env := by rfl) (hpl : (backTo pos (starEach es X.env)).any (·.1) = false := by rfl) : PE X (.Call (.Name x p) (e :: es) [] pos) (tCall sp [] E0 t) :=
  pe_call G hr hg d.g d.F.kp d.b .nil pass0 ha hdb he hpl
theorem pe_cG (d : Df X.K X.mg x st ps) (G : OkG X.prog X.w X.K X.mg X.base CX0 k (fA X.mg x) (fDat X.K (fA X.mg x)) ps sp) (hr : Room k X.A) (hq : Quiet X.A) (ha : PA X (e :: es) t) (hg : Gl X x := by rfl) (hdb : (x == ("__debug__" : Str)) = false := by decide)
    (he : starEach (e :: es) X.env = (false, eval e X.env) :: starEach es X.env := by rfl) (hpl : (backTo pos (starEach es X.env)).any (·.1) = false := by rfl) : PE X (.Call (.Name x p) (e :: es) [] pos) (tCall sp [] E0 t) :=
  pe_callG G hr hq hg d.g d.F.kp d.b .nil pass0 ha hdb he hpl
/-- a class's name as a value -/
theorem pe_cls {C : Addr} (hm : X.mg x = some (.ref C)) (hg : Gl X x := by rfl) (hd : (x == ("__debug__" : Str)) = false := by decide) : PE X (.Name x pos) (tC (.ref C)) := pe_glob hg hm rfl hd
end
theorem hu64 {A : Around} {k : Nat} (hr : Room k A) : A.units + 64 < cLine := hr.units

/-! ### the law's end, where nothing is being shown -/
section
variable {P : Program} {w : World} {K : PySem.W.Frag} {mg mb : Str → Option Value} {k : Nat} {fa a : Addr} {fd : FuncData} {x : Str} {sp : Sp} {s₁ : Shared} {vs : List Value} {ns : List Int}
/-- what the law's call must do -/
abbrev Law (P : Program) (w : World) (fa a : Addr) (s₁ : Shared) : Prop :=
  codeAny (model P w) callerA (.call (.ref fa) ⟨[.ref a], []⟩) (fun r s' => r = .ok (.ret (.bool true)) ∧ OldK s₁.heap s'.heap ∧ s'.os = s₁.os ∧ AllBare s'.gens) s₁
/-- from one abstract heap that knows the script at most -/
theorem law_from (KX : K.In s₁.heap) (hns : s₁.heap.Ns mainGlobals mg) (hb : s₁.heap.Ns builtinsNs mb) (hbb : ∀ x : Str, x ≠ "__name__" → mb x = bootBuiltins x) (hlim : s₁.heap.NoLimit) (hg : s₁.gens = #[])
    (ha : s₁.heap.get? a = some { cls := .type "list", data := .seq vs.toArray }) (hr : Room k callerA)
    (F : ∀ base : Heap, K.In base → base.Ns mainGlobals mg → OkG P w K mg base CX0 k fa fd [x] sp) (hbind : ∀ (s : Shared) (u : Value), BindsTo s fd ⟨[u], []⟩ [(x, u)])
    {H : Hp} (hO : Only H) (hsp : sp [.ref a] H (fun v _ => v = .bl true) fun _ _ _ => False) (hok : HOk P w H s₁.heap) (hA : ∀ b, H b ≠ none → b = a) (hK : H a ≠ none → K.lookup a = none) : Law P w fa a s₁ := by
  have off : ∀ {b : Addr}, b ≠ a → H b = none := fun {b} nb => Decidable.byContradiction fun z => nb (hA b z)
  have kOff : ∀ {b : Addr} {o : Obj}, K.lookup b = some o → H b = none := fun {b o} e => Decidable.byContradiction fun z => by
    have q := hA b z
    subst q
    rw [hK z] at e
    cases e
  have dOff : ∀ {b : Addr} {o : Obj} {es : Array DictEntry} {ep : Nat}, s₁.heap.get? b = some o → o.data = .dict es ep → H b = none := fun {b o es ep} e d => by
    by_cases q : b = a
    · subst q
      rw [ha] at e
      cases e
      cases d
    · exact off q
  have ns' : ∀ {b : Addr} {m : Str → Option Value}, s₁.heap.Ns b m → (hidT s₁.heap H).Ns b m := fun {b m} z => by
    obtain ⟨o, es, ep, e, d, r⟩ := z
    exact ⟨o, es, ep, hidT_get e (dOff e d), d, r⟩
  have kIn' : K.In (hidT s₁.heap H) := fun b o e => hidT_get (KX b o e) (kOff e)
  obtain ⟨mc, l1, l2⟩ := hlim
  have e0 : Env0 P w K mg (hidT s₁.heap H) callerA [] s₁ H := ⟨rfl, ⟨kIn', ns' hns, ⟨mb, ns' hb, hbb⟩, ⟨mc, ns' l1, l2⟩⟩, fun b o e => of_hidT e, Nat.le_of_eq (hidT_size _ _), trivial, (fun b z => nomatch z), hok, .of_eq hg⟩
  have run := (F _ kIn' (ns' hns)).run callerA [] s₁ H ⟨[.ref a], []⟩ [.ref a] [.ref a] _ _ hr rfl e0 (hbind s₁ (.ref a)) (.cons rfl .nil) hsp
  refine codeAny_mono run fun r s' z => ?_
  cases r with
  | error e => exact z.elim
  | ok fl => cases fl with
    | next => exact z.elim
    | brk => exact z.elim
    | cont => exact z.elim
    | ret u =>
      obtain ⟨v, H', os, bare, un, hok', rv, ev⟩ := z
      have ev' : v = .bl true := ev
      subst ev'
      cases (show u = Value.bool true from rv)
      refine ⟨rfl, OldK.of_keep fun b o e => ?_, os, bare⟩
      rcases hO b with q | ⟨ob, xs, q⟩
      · exact un.keep b o e q (fun z => nomatch z) (fun z => nomatch z)
      · obtain ⟨e1, _⟩ := hok b _ q
        obtain ⟨e2, _⟩ := hok' b _ (un.frzs b ob _ q)
        rw [e] at e1
        cases e1
        exact e2
theorem law_callG (KX : K.In s₁.heap) (hns : s₁.heap.Ns mainGlobals mg) (hb : s₁.heap.Ns builtinsNs mb) (hbb : ∀ x : Str, x ≠ "__name__" → mb x = bootBuiltins x) (hlim : s₁.heap.NoLimit) (hg : s₁.gens = #[])
    (ha : s₁.heap.get? a = some { cls := .type "list", data := .seq vs.toArray }) (hi : IntsAre vs ns) (hl : ns.length ≤ sizeLine) (hr : Room k callerA)
    (F : ∀ base : Heap, K.In base → base.Ns mainGlobals mg → OkG P w K mg base CX0 k fa fd [x] sp) (hbind : ∀ (s : Shared) (u : Value), BindsTo s fd ⟨[u], []⟩ [(x, u)])
    (hsp : ∀ H : Hp, Only H → SqL K H a (ns.map V.int) → sp [.ref a] H (fun v _ => v = .bl true) fun _ _ _ => False) : Law P w fa a s₁ := by
  have rv := vals_ints hi
  cases hk : K.lookup a with
  | some o =>
    have e := KX a o hk
    rw [ha] at e
    cases e
    have hS : SqL K (fun _ => none) a (ns.map V.int) := .inr ⟨_, vs.toArray, _, hk, rfl, rfl, rfl, by rw [List.size_toArray, hi.length]; exact hl, by simpa using rv⟩
    exact law_from KX hns hb hbb hlim hg ha hr F hbind (H := fun _ => none) (fun _ => .inl rfl) (hsp _ (fun _ => .inl rfl) hS) (fun b u z => nomatch z) (fun b z => (z rfl).elim) (fun z => (z rfl).elim)
  | none =>
    have h0 : ∀ b, b ≠ a → upd (fun _ => none) a (.frz { cls := .type "list", data := .seq vs.toArray } (.lst (ns.map V.int))) b = none := fun b z => upd_ne z
    have hO : Only (upd (fun _ => none) a (.frz { cls := .type "list", data := .seq vs.toArray } (.lst (ns.map V.int)))) := fun b => by
      by_cases q : b = a
      · rw [q]; exact .inr ⟨_, _, upd_same⟩
      · exact .inl (h0 b q)
    refine law_from KX hns hb hbb hlim hg ha hr F hbind hO (hsp _ hO (.inl (.inr ⟨_, upd_same⟩))) (fun b u z => ?_) (fun b z => ?_) (fun _ => hk)
    · by_cases q : b = a
      · subst q
        rw [upd_same] at z
        cases z
        exact ⟨ha, by rw [List.length_map]; exact hl, vs, _, rv, ha⟩
      · rw [h0 b q] at z
        cases z
    · by_cases q : b = a
      · exact q
      · exact (z (h0 b q)).elim
end
/-- the law's row, from its def's promise -/
theorem walk_G {l : PySem.W.OpenLaw} {n k : Nat} {q : Program} {loose : List Str} {XP : (Str → Option Value) → Heap → Prop} {YP : World → Heap → Prop} {d : DefRec} {K : Params → PySem.W.Frag} {sp : PySem.W.Frag → Sp} {x : Str}
    (hn : l.most = some n) (hn2 : n ≤ sizeLine) (hdf : d.params.defaults = []) (hr : Room k callerA) (hY : ∀ (w : World) (h : Heap), YP w h → (K w.params).In h)
    (F : ∀ (w : World) (mg : Str → Option Value) (fa : Addr) (h : Heap), (K w.params).In h → h.Ns mainGlobals mg → mg d.name = some (.ref fa) →
      ∃ fd : FuncData, (∀ (s : Shared) (u : Value), BindsTo s fd ⟨[u], []⟩ [(x, u)]) ∧ ∀ base : Heap, (K w.params).In base → base.Ns mainGlobals mg → OkG l.prog w (K w.params) mg base CX0 k fa fd [x] (sp (K w.params)))
    (hsp : ∀ (K : PySem.W.Frag) (H : Hp) (a : Addr) (ns : List Int), ns.length ≤ n → Only H → SqL K H a (ns.map V.int) → sp K [.ref a] H (fun v _ => v = .bl true) fun _ _ _ => False) :
    PySem.W.WalkO q loose XP YP l.row.toRowW d [] (fun f vs => PySem.call f vs) := by
  refine Att.attach_call hn hdf fun w s₀ s₁ mg mb fa o pm cd doc a vs ns G Y ho hd hcd hmg hobj hints hlen hg => ?_
  have KX := hY w _ Y
  obtain ⟨fd, hb, hF⟩ := F w mg fa _ KX G.T.g hmg
  exact law_callG KX G.T.g G.T.b G.T.builtins G.T.nolimit hg hobj hints (Nat.le_trans hlen hn2) hr hF hb fun H hO hS => hsp _ H a ns hlen hO hS
end GL

/-! Exceptions of the program's own as values: made, asked for their class, their fields read. -/
namespace GL
open PySem PySem.Spec PyProof.Rows L2

/-- an exception of the class at C stands at a, with these fields (none: it has no dict of its own) -/
inductive IsEx (H : Hp) (a C : Addr) : List (Str × V) → Prop
  | bare (e : H a = some (ExO (.ref C) a)) : IsEx H a C []
  | full {dx : Addr} {fs : List (Str × V)} (e : H a = some (exo a C (some dx))) (ed : H dx = some (exd dx fs)) : IsEx H a C fs
theorem IsEx.keep {H H' : Hp} {a C : Addr} {fs : List (Str × V)} (x : IsEx H a C fs) (s : Same H H') : IsEx H' a C fs := by
  cases x with
  | bare e => exact .bare (s _ _ e)
  | full e ed => exact .full (s _ _ e) (s _ _ ed)
section
variable {X : Cx} {pins : List (Addr × Obj)} {σ : L2.St} {H : Hp} {s : Shared} {a C : Addr} {fs : List (Str × V)}
theorem IsEx.inst (I : Inv X pins σ H s) (x : IsEx H a C fs) : ∃ ox od, PySem.W.InstAt s.heap a ox C od := by
  cases x with
  | bare e =>
    have y : ObjOk X.prog X.w H s.heap a (ExO (.ref C) a) := I.hok a _ e
    obtain ⟨⟨oe, vs, h1, ⟨z1, z2⟩, h2, _⟩, _⟩ := y
    refine ⟨oe, none, h1, z1, ?_, ?_⟩
    · unfold PySem.W.notCls; rw [h2] <;> rfl
    · rw [z2]; trivial
  | full e ed =>
    obtain ⟨t1, h1⟩ := exo_at I.hok e
    obtain ⟨mA, hns, _⟩ := exd_at I.hok ed
    obtain ⟨o, es, ep, ho, _⟩ := hns
    exact ⟨_, some o, h1, rfl, rfl, ho⟩

/-! ### isinstance -/
def rIsX (K : PySem.W.Frag) : List V → Hp → VK → Prop := fun xs H Q => ∃ (a C : Addr) (fs : List (Str × V)) (c : V) (cv : Value) (b : Bool), xs = [.ref a, c] ∧ IsEx H a C fs ∧ ExcC K C ∧ (∀ u, RelV c u → u = cv) ∧
  PySem.W.kitOne K (.ref C) cv = some b ∧ Q (.bl b) H
theorem call_isX : CallR X (.builtin "isinstance") (rIsX X.K) := by
  intro pins s σ H xs us Q I r h
  obtain ⟨a, C, fs, c, cv, b, rfl, hx, T, hcv, e, q⟩ := h
  obtain ⟨ox, od, J⟩ := hx.inst I
  cases r with
  | cons ra r1 => cases r1 with
    | cons rc r2 =>
      cases r2
      cases ra
      have ec := hcv _ rc
      subst ec
      have cl : (PySem.W.clsIn X.K C).isSome = true := by
        obtain ⟨cd, h1, _⟩ := PySem.W.any_some T.hd
        rw [h1] <;> rfl
      exact PySem.W.kia_one (PySem.W.kitx_exc cl T.hg T.hk T.hs T.ha T.hn T.ht T.hm) I.kIn J e (fun z => nomatch z) fun tk => ⟨.bl b, H, I.kept (t' := tk) fun _ _ z => z, rfl, q⟩

/-! ### a field -/
def tFldX (K : PySem.W.Frag) (f : Str) (te : TE) : TE := fun σ H Q => te σ H fun x H1 => ∃ (a C dx : Addr) (fs : List (Str × V)) (v : V), x = .ref a ∧ H1 a = some (exo a C (some dx)) ∧ H1 dx = some (exd dx fs) ∧ ExcC K C ∧
  PySem.W.findIn K (.ref C) f = some none ∧ fs.lookup f = some v ∧ Q v H1
theorem pe_fldX {e : Expr} {te : TE} {f : Str} {pos : Pos} (he : PE X e te) (hb : attributeBase e f X.env (eval e X.env) = eval e X.env := by rfl) : PE X (.Attribute e f pos) (tFldX X.K f te) := by
  refine ⟨fun pins s σ H Q I h => attr_of hb (thn (he.run pins s σ H _ I h) fun u s1 hh => ?_)⟩
  obtain ⟨x, H1, I1, rx, a, C, dx, fs, v, ex, ea, ed, T, hno, l, q⟩ := hh
  subst ex
  obtain rfl : u = Value.ref a := rx
  obtain ⟨t1, h1⟩ := exo_at I1.hok ea
  obtain ⟨mA, hns, rel⟩ := exd_at I1.hok ed
  obtain ⟨od, ho, hl⟩ := lookIn_ns hns
  obtain ⟨u, hu, ru⟩ := RelO.some_of (v := v) (o := mA f) (by rw [← l]; exact rel f)
  have J : PySem.W.InstAt s1.heap a _ C (some od) := ⟨h1, rfl, rfl, ho⟩
  exact HandSPX.exc_get I1.kIn J T.hg T.hk T.hs (PySem.W.findObj_own T.hd hno rfl (by rw [hl, hu])) (handed_of ru) ⟨v, H1, I1.tok _, ru, q⟩

/-! ### made: by an __init__ of its own, by none -/
def tExV (C : Addr) (sp : Sp) (ta : TA) : TE := fun σ H Q => ta σ H fun vs H1 => vs.length ≤ 1000 ∧ ∀ a, H1 a = none → sp (.ref a :: vs) (upd H1 a (exo a C none)) (fun v H2 => v = .non ∧ Q (.ref a) H2) (fun _ _ _ => False)
theorem pe_exV {x : Str} {C fI : Addr} {k : Nat} {fd : FuncData} {ps : List Str} {sp : Sp} {p pos : Pos} {e : Expr} {es : List Expr} {ta : TA} (T : OexC X.K C) (iC : PySem.W.findIn X.K (.ref C) "__init__" = some (some (.ref fI)))
    (tI : PySem.W.typeIn X.K (.ref fI) = some (.type "function")) (F1 : FnOk X.prog X.w X.K X.mg X.base CX0 k fI fd ps sp) (hr : Room (k + 1) X.A) (hb : Binds X.K fd ps []) (hg : Gl X x) (hm : X.mg x = some (.ref C)) (ha : PA X (e :: es) ta)
    (hdb : (x == ("__debug__" : Str)) = false := by decide) (he : starEach (e :: es) X.env = (false, eval e X.env) :: starEach es X.env := by rfl) (hpl : (backTo pos (starEach es X.env)).any (·.1) = false := by rfl) :
    PE X (.Call (.Name x p) (e :: es) [] pos) (tExV C sp ta) := by
  refine ⟨fun pins s σ H Q I h => wpAny_Call_Name_kw (ld_glob I hg hm ?_ hdb)⟩
  obtain ⟨nm, q, N, bs, bm, sn, sub, ab, col, dd, k0, k1, k2, k3, k5, hC, hbm⟩ := T.cls
  refine PySem.W.callWith_K (h₀ := X.base) I.ok.mod.kin T.kC (thn (ha.run pos pins s σ H _ I h) fun us s1 ⟨vs, H1, I1, r1, hz, q1⟩ => ⟨I1.kIn, ?_⟩) he hpl
  obtain ⟨hp, g, dr, tk, os⟩ := s1
  show wpAny _ _ (call (.ref C) us) _ _ _
  have le1 : hp.objs.size ≤ hp.objs.size + 1 := Nat.le_succ _
  have q2 := q1 (hp.objs.size + 1) (I1.hok.fresh le1)
  have grown : ∀ b o, hp.get? b = some o → ((hp.push (PySem.W.kdv_tup us)).push (PySem.HandSPX.excO C hp.objs.size)).get? b = some o := fun b o e => Heap.get?_push_of_some _ (Heap.get?_push_of_some _ e)
  have there : ((hp.push (PySem.W.kdv_tup us)).push (PySem.HandSPX.excO C hp.objs.size)).get? (hp.objs.size + 1) = some (PySem.HandSPX.excO C hp.objs.size) := by heap_get
  have I2 : Inv X pins σ (upd H1 (hp.objs.size + 1) (exo (hp.objs.size + 1) C none)) ⟨(hp.push (PySem.W.kdv_tup us)).push (PySem.HandSPX.excO C hp.objs.size), g, dr, tk, os⟩ := I1.laid (t' := tk) grown le1 (exo_ok there)
  have r2 : Vals (V.ref (hp.objs.size + 1) :: vs) (Value.ref (hp.objs.size + 1) :: us) := .cons rfl r1
  have hl : (Value.ref (hp.objs.size + 1) :: us ++ []).length = ps.length := by
    rw [List.append_nil, ← r2.length]
    exact F1.len _ _ _ _ q2
  have bb := hb _ (Value.ref (hp.objs.size + 1) :: us) I2.kIn hl
  rw [List.append_nil] at bb
  have hus : us.length ≤ sizeLine := by
    rw [← r1.length, sizeLine_eq]
    omega
  refine wpAny_call (PySem.HandSPX.call_own F.excBase_ValueError (fun Y => PySem.HandSPX.refsVE_contains Y bm hbm) (I1.kIn _ _ hC) (PySem.W.looks_findIn I1.kIn iC) (fun self => PySem.W.bind_fn I1.kIn self tI) hus
    (codeAny_mono (F1.run _ X.stack _ _ _ _ _ _ _ (hr.make C us []) (I2.env0.make C us []) bb r2 q2) fun r s' z => ?_))
  cases r with
  | error er => exact z.elim
  | ok fl => cases fl with
    | ret u =>
      obtain ⟨v, H', I3, rv, ev, q3⟩ := I2.after z
      subst ev
      exact ⟨rv, ⟨V.ref (hp.objs.size + 1), H', I3, rfl, q3⟩⟩
    | next => exact z.elim
    | brk => exact z.elim
    | cont => exact z.elim
theorem pe_exV0 {C : Addr} {bmB : List Value} {B newId initId : String} {x : Str} {p pos : Pos} (F : ExcBaseFacts B newId initId bmB) (q : PySem.W.excIn X.K C bmB newId = true) (gC : X.mg x = some (.ref C)) (kC : PySem.W.keepIn X.K (.ref C) = true) (hg : Gl X x)
    (hdb : (x == ("__debug__" : Str)) = false := by decide) : PE X (.Call (.Name x p) [] [] pos) (fun σ H Q => ∀ a, H a = none → Q (.ref a) (upd H a (ExO (.ref C) a))) := by
  refine ⟨fun pins s σ H Q I h => wpAny_Call_Name_kw (ld_glob I hg gC (PySem.W.callWith_K0 I.kIn kC ?_) hdb)⟩
  obtain ⟨bm, N, nm, qn, bs, hdct, sn, sub, ab, col, dd, k0, k1, k2, k3, k5, mN, hC, hN, hni, T⟩ := exc_obj I.kIn q
  refine wpAny_call_exc_subT F T hC hN hni (fun h' a hm => ?_) (by show 0 ≤ sizeLine; rw [sizeLine_eq]; omega)
  have hn : H a = none := I.hok.gone hm.new
  obtain ⟨t, ht, _, _⟩ := hm.there
  exact ⟨.ref a, upd H a (ExO (.ref C) a), I.laidN hm.keeps hm.new hn (exO_ok ht ⟨rfl, rfl⟩ rfl rfl rfl (show 4 < 6 by decide)), rfl, h a hn⟩
end

/-! ### the classes, by names -/
@[irreducible] def iA (K : PySem.W.Frag) (C : Addr) : Addr := match PySem.W.findIn K (.ref C) "__init__" with
  | some (some (.ref f)) => f
  | _ => 0
/-- what is asked of a class without an __init__ -/
structure Cl0 (K : PySem.W.Frag) (mg : Str → Option Value) (x : Str) : Prop where
  g : mg x = some (.ref (fA mg x))
  k : PySem.W.keepIn K (.ref (fA mg x)) = true
  e : ExcC K (fA mg x)
  q : PySem.W.excIn K (fA mg x) [.type "ValueError", .type "Exception", .type "BaseException", .type "object"] "ValueError.__new__" = true
/-- .. of one with an __init__ that stores the fields fs -/
structure ClI (K : PySem.W.Frag) (mg : Str → Option Value) (x qual : Str) (st : Stmt) (ps fs : List Str) : Prop where
  g : mg x = some (.ref (fA mg x))
  e : ExcC K (fA mg x)
  o : OexC K (fA mg x)
  i : PySem.W.findIn K (.ref (fA mg x)) "__init__" = some (some (.ref (iA K (fA mg x))))
  t : PySem.W.typeIn K (.ref (iA K (fA mg x))) = some (.type "function")
  F : Fun K "__init__" qual st (iA K (fA mg x)) (fDat K (iA K (fA mg x)))
  b : Binds K (fDat K (iA K (fA mg x))) ps []
  n : ∀ f ∈ fs, PySem.W.findIn K (.ref (fA mg x)) f = some none
theorem iA_of {K : PySem.W.Frag} {C f : Addr} (h : PySem.W.findIn K (.ref C) "__init__" = some (some (.ref f))) : iA K C = f := by
  unfold iA
  rw [h]
theorem Cl0.mk' {K : PySem.W.Frag} {mg : Str → Option Value} {x : Str} {h : Heap} {C : Addr} (X : K.In h) (G : h.Ns mainGlobals mg) (a : PySem.W.nsIn K mainGlobals x = some (some (.ref C))) (k : PySem.W.keepIn K (.ref C) = true) (e : ExcC K C)
    (q : PySem.W.excIn K C [.type "ValueError", .type "Exception", .type "BaseException", .type "object"] "ValueError.__new__" = true) : Cl0 K mg x := by
  have m := PySem.W.mg_of X G a
  have c := fA_of m
  exact ⟨by rw [c]; exact m, by rw [c]; exact k, by rw [c]; exact e, by rw [c]; exact q⟩
theorem ClI.mk' {K : PySem.W.Frag} {mg : Str → Option Value} {x qual : Str} {st : Stmt} {ps fs : List Str} {h : Heap} {C f : Addr} {oc : Value} {od an : Option Addr} {osl : Array (Option Value)} {kV doc pm cdv ct : Value} (X : K.In h) (G : h.Ns mainGlobals mg)
    (a : PySem.W.nsIn K mainGlobals x = some (some (.ref C))) (e : ExcC K C) (o : OexC K C) (i : PySem.W.findIn K (.ref C) "__init__" = some (some (.ref f))) (t : PySem.W.typeIn K (.ref f) = some (.type "function"))
    (l : K.lookup f = some ⟨oc, od, .func (PySem.W.fnOf "__init__" qual (defArgs st) (defBody st) (defScope st) .none kV doc pm an cdv ct), osl⟩) (c : PySem.W.codeIn K cdv qual = true) (k : PySem.W.keepIn K (.ref f) = true)
    (bi : ∀ (kV doc pm : Value) (an : Option Addr) (cdv ct : Value) (us : List Value), us.length = ps.length → bindArgs (PySem.W.fnOf "__init__" qual (defArgs st) (defBody st) (defScope st) .none kV doc pm an cdv ct) ⟨us, []⟩ = pure (ps.zip us))
    (n : ∀ f ∈ fs, PySem.W.findIn K (.ref C) f = some none) : ClI K mg x qual st ps fs := by
  have m := PySem.W.mg_of X G a
  have c1 := fA_of m
  have c2 : iA K (fA mg x) = f := by rw [c1]; exact iA_of i
  have c3 := fDat_of l
  have F := fun_mk (st := st) l c k
  refine ⟨by rw [c1]; exact m, by rw [c1]; exact e, by rw [c1]; exact o, by rw [c2, c1]; exact i, by rw [c2]; exact t, by rw [c2, c3]; exact F, by rw [c2, c3]; exact F.binds bi, by rw [c1]; exact n⟩
def spI1 (C : Addr) (f : Str) : Sp := fun vs H Q _ => ∃ a v, vs = [.ref a, v] ∧ H a = some (exo a C none) ∧ ∀ dx, H dx = none → dx ≠ a → Q .non (upd (upd H dx (exd dx [(f, v)])) a (exo a C (some dx)))
def spI2 (C : Addr) (f g : Str) : Sp := fun vs H Q _ => ∃ a v u, vs = [.ref a, v, u] ∧ H a = some (exo a C none) ∧ ∀ dx, H dx = none → dx ≠ a → Q .non (upd (upd (upd H dx (exd dx [(f, v)])) a (exo a C (some dx))) dx (exd dx [(g, u), (f, v)]))
section
variable {K : PySem.W.Frag} {σ : L2.St} {H : Hp} {D : Ends} {a C dx : Addr} {f g : Str} {v u : V} {ta : TA} {Q : VK}
theorem s_ost1 (T : OexC K C) (n : PySem.W.findIn K (.ref C) f = some none) (h : H a = some (exo a C none)) (h0 : σ[0]? = some (some (.ref a))) {i : Nat} (h1 : σ[i]? = some (some v))
    (q : ∀ dx, H dx = none → dx ≠ a → D.nx σ (upd (upd H dx (exd dx [(f, v)])) a (exo a C (some dx)))) : tOst K f (tVar 0) (tVar i) D σ H := ⟨v, h1, _, h0, a, C, rfl, T, n, .inl ⟨h, q⟩⟩
theorem s_ost2 (T : OexC K C) (n : PySem.W.findIn K (.ref C) g = some none) (h : H a = some (exo a C (some dx))) (hd : H dx = some (exd dx [(f, v)])) (h0 : σ[0]? = some (some (.ref a))) {i : Nat} (h1 : σ[i]? = some (some u))
    (q : D.nx σ (upd H dx (exd dx [(g, u), (f, v)]))) : tOst K g (tVar 0) (tVar i) D σ H := ⟨u, h1, _, h0, a, C, rfl, T, n, .inr ⟨dx, _, h, hd, by show 1 ≤ 900; decide, q⟩⟩
/-- what the making of one hands on -/
theorem made1 (h : VA ta σ H [v]) (k : ∀ a H', Same H H' → IsEx H' a C [(f, v)] → Q (.ref a) H') : tExV C (spI1 C f) ta σ H Q :=
  h _ ⟨by show 1 ≤ 1000; decide, fun a ha => ⟨a, v, rfl, upd_same, fun dx hd ne => ⟨rfl, k a _ (fun b o e => by
    have hb : b ≠ a := ne_of_none e ha
    rw [upd_ne ne] at hd
    rw [upd_ne hb, upd_ne (ne_of_none e hd), upd_ne hb]
    exact e) (.full upd_same (by rw [upd_ne ne, upd_same]))⟩⟩⟩
theorem made2 (h : VA ta σ H [v, u]) (k : ∀ a H', Same H H' → IsEx H' a C [(g, u), (f, v)] → Q (.ref a) H') : tExV C (spI2 C f g) ta σ H Q :=
  h _ ⟨by show 2 ≤ 1000; decide, fun a ha => ⟨a, v, u, rfl, upd_same, fun dx hd ne => ⟨rfl, k a _ (fun b o e => by
    have hb : b ≠ a := ne_of_none e ha
    rw [upd_ne ne] at hd
    have hb2 : b ≠ dx := ne_of_none e hd
    rw [upd_ne hb2, upd_ne hb, upd_ne hb2, upd_ne hb]
    exact e) (.full (by rw [upd_ne (Ne.symm ne), upd_same]) upd_same)⟩⟩⟩
theorem made0 (k : ∀ a H', Same H H' → IsEx H' a C [] → Q (.ref a) H') : (fun (σ : L2.St) (H : Hp) (Q : VK) => ∀ a, H a = none → Q (.ref a) (upd H a (ExO (.ref C) a))) σ H Q :=
  fun a ha => k a _ (Same.new' ha) (.bare upd_same)
/-- isinstance of one -/
theorem v_isx {te : TE} {fs : List (Str × V)} {c : V} {cv : Value} {b : Bool} (h : Val te σ H (.ref a)) (x : IsEx H a C fs) (e : ExcC K C) (r : ∀ w, RelV c w → w = cv) (k : PySem.W.kitOne K (.ref C) cv = some b) :
    Val (tCB (rIsX K) (tCons te (tCons (tC c) tNil))) σ H (.bl b) := v_cb (va_cons h (va_cons val_c va_nil)) fun Q q => ⟨a, C, fs, c, cv, b, rfl, x, e, r, k, q⟩
theorem v_fldx {te : TE} {fs : List (Str × V)} (h : Val te σ H (.ref a)) (x : IsEx H a C fs) (hf : fs.lookup f = some v) (e : ExcC K C) (n : PySem.W.findIn K (.ref C) f = some none) : Val (tFldX K f te) σ H v := by
  intro Q q
  cases x with
  | bare _ => cases hf
  | full e1 e2 => exact h _ ⟨a, C, _, fs, v, rfl, e1, e2, e, n, hf, q⟩
end
end GL

/-! What data the heap holds, dicts among it, and what repr tells of it. -/
namespace GL
open PySem PySem.Spec PyProof.Rows L2

def keyD : Key → PyData
  | .inl i => .int i
  | .inr x => .str x
mutual
/-- the data of a value: as Dp, dicts too -/
inductive Dd (K : PySem.W.Frag) (H : Hp) : V → PyData → Prop
  | non : Dd K H .non .none
  | bl (b : Bool) : Dd K H (.bl b) (.bool b)
  | int (i : Int) : Dd K H (.int i) (.int i)
  | str (x : Str) : Dd K H (.str x) (.str x)
  | lst {a : Addr} {xs : List V} {ds : List PyData} : SqL K H a xs → DdAll K H xs ds → Dd K H (.ref a) (.list ds)
  | tup {a : Addr} {xs : List V} {ds : List PyData} : SqT K H a xs → DdAll K H xs ds → Dd K H (.ref a) (.tuple ds)
  | dic {a : Addr} {kvs : List (Key × V)} {ps : List (PyData × PyData)} : H a = some (.dK kvs) → DdKv K H kvs ps → Dd K H (.ref a) (.dict ps)
inductive DdAll (K : PySem.W.Frag) (H : Hp) : List V → List PyData → Prop
  | nil : DdAll K H [] []
  | cons {v : V} {vs : List V} {d : PyData} {ds : List PyData} : Dd K H v d → DdAll K H vs ds → DdAll K H (v :: vs) (d :: ds)
inductive DdKv (K : PySem.W.Frag) (H : Hp) : List (Key × V) → List (PyData × PyData) → Prop
  | nil : DdKv K H [] []
  | cons {k : Key} {v : V} {r : List (Key × V)} {d : PyData} {ps : List (PyData × PyData)} : Dd K H v d → DdKv K H r ps → DdKv K H ((k, v) :: r) ((keyD k, d) :: ps)
end
theorem sqt_same {K : PySem.W.Frag} {H H' : Hp} {a : Addr} {xs : List V} (e : Same H H') (h : SqT K H a xs) : SqT K H' a xs := by
  rcases h with (h | ⟨o, h⟩) | h
  · exact .inl (.inl (e _ _ h))
  · exact .inl (.inr ⟨o, e _ _ h⟩)
  · exact .inr h
mutual
theorem Dd.same {K : PySem.W.Frag} {H H' : Hp} (s : Same H H') : ∀ (d : PyData) (v : V), Dd K H v d → Dd K H' v d
  | .none, _, h => by cases h; exact .non
  | .bool _, _, h => by cases h; exact .bl _
  | .int _, _, h => by cases h; exact .int _
  | .str _, _, h => by cases h; exact .str _
  | .list ds, _, h => by
    cases h with
    | lst a b => exact .lst (s.seq a) (Dd.sameAll s ds _ b)
  | .tuple ds, _, h => by
    cases h with
    | tup a b => exact .tup (sqt_same s a) (Dd.sameAll s ds _ b)
  | .dict ps, _, h => by
    cases h with
    | dic a b => exact .dic (s _ _ a) (Dd.sameKv s ps _ b)
theorem Dd.sameAll {K : PySem.W.Frag} {H H' : Hp} (s : Same H H') : ∀ (ds : List PyData) (vs : List V), DdAll K H vs ds → DdAll K H' vs ds
  | [], _, h => by cases h; exact .nil
  | d :: ds, _, h => by
    cases h with
    | cons a b => exact .cons (Dd.same s d _ a) (Dd.sameAll s ds _ b)
theorem Dd.sameKv {K : PySem.W.Frag} {H H' : Hp} (s : Same H H') : ∀ (ps : List (PyData × PyData)) (kvs : List (Key × V)), DdKv K H kvs ps → DdKv K H' kvs ps
  | [], _, h => by cases h; exact .nil
  | (_, d) :: ps, _, h => by
    cases h with
    | cons a b => exact .cons (Dd.same s d _ a) (Dd.sameKv s ps _ b)
end
section
variable {X : Cx} {pins : List (Addr × Obj)} {σ : L2.St} {H : Hp} {s : Shared}
/-- what repr tells of a value whose data are known -/
def Shows (X : Cx) (h : Heap) (d : PyData) (u : Value) : Prop := (∃ as, Reads h u d as) ∧ ∃ bs, ReadAtMost h d.depth bs ∧ ReprK X.prog X.w bs h d.depth u d.shown
def ShowsAll (X : Cx) (h : Heap) (ds : List PyData) (us : List Value) : Prop := (∃ as, ReadsAll h us ds as) ∧ ∃ bs, ReadAtMost h (PyData.depthAll ds) bs ∧ ReprAllK X.prog X.w bs h (PyData.depthAll ds) us (PyData.shownAll ds)
theorem ShowsAll.nil {h : Heap} : ShowsAll X h [] [] := ⟨⟨_, .nil⟩, [], (fun _ z => nomatch z), .nil⟩
theorem ShowsAll.cons {h : Heap} {d : PyData} {ds : List PyData} {u : Value} {us : List Value} (a : Shows X h d u) (b : ShowsAll X h ds us) : ShowsAll X h (d :: ds) (u :: us) := by
  obtain ⟨⟨as1, r1⟩, b1, h1, k1⟩ := a
  obtain ⟨⟨as2, r2⟩, b2, h2, k2⟩ := b
  have m1 : d.depth ≤ PyData.depthAll (d :: ds) := Nat.le_max_left _ _
  have m2 : PyData.depthAll ds ≤ PyData.depthAll (d :: ds) := Nat.le_max_right _ _
  exact ⟨⟨_, .cons r1 r2⟩, b1 ++ b2, (h1.mono m1).append (h2.mono m2), .cons ((k1.more fun _ z => List.mem_append_left _ z).level_le m1) (k2.more_le (fun _ z => List.mem_append_right _ z) m2)⟩
theorem Shows.lst {h : Heap} {ds : List PyData} {us : List Value} {a : Addr} {o : Obj} {n : Nat} (ha : h.get? a = some o) (hc : o.cls = .type "list") (hd : o.data = .seq us.toArray n) (b : ShowsAll X h ds us) : Shows X h (.list ds) (.ref a) := by
  obtain ⟨⟨as, r⟩, bs, hb, k⟩ := b
  have R : Reads h (.ref a) (.list ds) _ := .list ha hc hd r
  have off : a ∉ bs := not_mem_of_deeper R (by simp only [PyData.depth]; omega) hb
  refine ⟨⟨_, R⟩, a :: bs, ReadAtMost.cons R (by simp only [PyData.depth]; omega) hb, ?_⟩
  cases us with
  | nil =>
    cases r
    exact ReprK.listEmpty ha hc hd
  | cons u us => exact ReprK.list ha hc hd off (by simpa using k.length_eq) fun i y e => k.item i y (by simpa using e)
theorem Shows.tup {h : Heap} {ds : List PyData} {us : List Value} {a : Addr} (ha : IsTup h a us.toArray) (b : ShowsAll X h ds us) : Shows X h (.tuple ds) (.ref a) := by
  obtain ⟨⟨as, r⟩, bs, hb, k⟩ := b
  obtain ⟨o, ho, hc, n, hd⟩ := ha
  have R : Reads h (.ref a) (.tuple ds) _ := .tuple ho hc hd r
  exact ⟨⟨_, R⟩, a :: bs, ReadAtMost.cons R (by simp only [PyData.depth]; omega) hb, ReprK.tuple ho hc hd (not_mem_of_deeper R (by simp only [PyData.depth]; omega) hb) k⟩
theorem shows_key {h : Heap} {k : Key} {u : Value} (e : keyIs k u = true) (hs : (keyD k).showable = true) (hz : (keyD k).shown.length ≤ sizeLine) : Shows X h (keyD k) u := by
  rcases keyIs_shape e with ⟨i, t, rfl, rfl⟩ | ⟨x, t, rfl, rfl⟩
  · exact ⟨⟨_, .int i t⟩, [], (fun _ z => nomatch z), .of_is (ReprIs.int t (of_decide_eq_true hs)) _ _ _⟩
  · exact ⟨⟨_, .str x t⟩, [], (fun _ z => nomatch z), .of_is (ReprIs.str x t hz) _ _ _⟩
theorem Shows.dic {h : Heap} {ps : List (PyData × PyData)} {es : Array DictEntry} {a : Addr} {o : Obj} {n : Nat} (ho : h.get? a = some o) (hc : o.cls = .type "dict") (hd : o.data = .dict es n) (hsys : (a == sysModules) = false)
    (b1 : ShowsAll X h (ps.map (·.1)) (es.toList.map (·.key))) (b2 : ShowsAll X h (ps.map (·.2)) (es.toList.map (·.val))) : Shows X h (.dict ps) (.ref a) := by
  obtain ⟨⟨as1, r1⟩, c1, h1, k1⟩ := b1
  obtain ⟨⟨as2, r2⟩, c2, h2, k2⟩ := b2
  have R : Reads h (.ref a) (.dict ps) _ := .dict ho hc hd r1 r2
  have hb : ReadAtMost h (PyData.depthKv ps) (c1 ++ c2) := (h1.mono (PyData.depthAll_keys_le ps)).append (h2.mono (PyData.depthAll_vals_le ps))
  refine ⟨⟨_, R⟩, a :: (c1 ++ c2), ReadAtMost.cons R (by simp only [PyData.depth]; omega) hb, ?_⟩
  simp only [PyData.depth, PyData.shown, PyData.shownKv_eq]
  exact ReprK.dict ho hc hd hsys (not_mem_of_deeper R (by simp only [PyData.depth]; omega) hb) (ReprEntriesK.of_two es.toList _ _
    (k1.more_le (fun _ z => List.mem_append_left _ z) (PyData.depthAll_keys_le ps)) (k2.more_le (fun _ z => List.mem_append_right _ z) (PyData.depthAll_vals_le ps)))
theorem all_le {ds : List PyData} {d : PyData} (hd : d ∈ ds) : d.shown ∈ PyData.shownAll ds := by
  induction ds with
  | nil => cases hd
  | cons x xs ih =>
    simp only [PyData.shownAll]
    rcases List.mem_cons.mp hd with e | e
    · rw [e]; exact List.mem_cons_self ..
    · exact List.mem_cons_of_mem _ (ih e)
mutual
theorem Dd.shows (I : Inv X pins σ H s) : ∀ (d : PyData) (v : V) (u : Value), Dd X.K H v d → RelV v u → d.showable = true → d.shown.length ≤ sizeLine → Shows X s.heap d u
  | .none, _, _, h, r, _, _ => by
    cases h; cases r
    exact ⟨⟨_, .none⟩, [], (fun _ z => nomatch z), .of_is ReprIs.none _ _ _⟩
  | .bool b, _, _, h, r, _, _ => by
    cases h; cases r
    exact ⟨⟨_, .bool b⟩, [], (fun _ z => nomatch z), .of_is (ReprIs.bool b) _ _ _⟩
  | .int i, _, _, h, r, hs, _ => by
    cases h
    obtain ⟨t, rfl⟩ := r
    exact ⟨⟨_, .int i t⟩, [], (fun _ z => nomatch z), .of_is (ReprIs.int t (of_decide_eq_true hs)) _ _ _⟩
  | .str x, _, _, h, r, _, hz => by
    cases h
    obtain ⟨t, rfl⟩ := r
    exact ⟨⟨_, .str x t⟩, [], (fun _ z => nomatch z), .of_is (ReprIs.str x t hz) _ _ _⟩
  | .list ds, _, _, h, r, hs, hz => by
    cases h with
    | lst hq ha =>
      cases r
      obtain ⟨its, rv, ⟨o, n, ho, hc, _, hd⟩, _⟩ := I.list hq
      have hz' : (listText (PyData.shownAll ds)).length ≤ sizeLine := by simpa only [PyData.shown] using hz
      exact Shows.lst ho hc hd (Dd.showsAll I ds _ its ha rv (by simpa [PyData.showable] using hs) fun t ht => Nat.le_trans (listText_mem_le ht) hz')
  | .tuple ds, _, _, h, r, hs, hz => by
    cases h with
    | tup hq ha =>
      cases r
      obtain ⟨its, rv, ⟨o, ho, hc, n, hd⟩, _⟩ := I.tuple hq
      have hz' : (tupleText (PyData.shownAll ds)).length ≤ sizeLine := by simpa only [PyData.shown] using hz
      exact Shows.tup ⟨o, ho, hc, n, hd⟩ (Dd.showsAll I ds _ its ha rv (by simpa [PyData.showable] using hs) fun t ht => Nat.le_trans (tupleText_mem_le ht) hz')
  | .dict ps, _, _, h, r, hs, hz => by
    cases h with
    | dic hq ha =>
      cases r
      obtain ⟨_, hsys, vs, kv, o, es, ep, ho, ⟨hc, _, _⟩, hd, _, pr, _⟩ := I.hok _ _ hq
      have hz' : (dictText (PyData.shownKv ps)).length ≤ sizeLine := by simpa only [PyData.shown] using hz
      obtain ⟨b1, b2⟩ := Dd.showsKv I ps _ vs es.toList ha kv pr (by simpa [PyData.showable] using hs) (fun t ht => Nat.le_trans (dictText_mem_le ht) hz')
      exact Shows.dic ho hc hd hsys b1 b2
theorem Dd.showsAll (I : Inv X pins σ H s) : ∀ (ds : List PyData) (vs : List V) (us : List Value), DdAll X.K H vs ds → Vals vs us → PyData.showableAll ds = true → (∀ t ∈ PyData.shownAll ds, t.length ≤ sizeLine) → ShowsAll X s.heap ds us
  | [], _, _, h, r, _, _ => by
    cases h; cases r
    exact .nil
  | d :: ds, _, _, h, r, hs, hz => by
    cases h with
    | cons h1 h2 => cases r with
      | cons r1 r2 =>
        have hs' : d.showable = true ∧ PyData.showableAll ds = true := by simpa [PyData.showableAll] using hs
        exact .cons (Dd.shows I d _ _ h1 r1 hs'.1 (hz _ (by simp only [PyData.shownAll]; exact List.mem_cons_self ..))) (Dd.showsAll I ds _ _ h2 r2 hs'.2 fun t ht => hz t (by simp only [PyData.shownAll]; exact List.mem_cons_of_mem _ ht))
theorem Dd.showsKv (I : Inv X pins σ H s) : ∀ (ps : List (PyData × PyData)) (kvs : List (Key × V)) (vs : List (Key × Value)) (es : List DictEntry), DdKv X.K H kvs ps → KV kvs vs → Pairs (mixKind X.prog X.w) es vs → PyData.showableKv ps = true →
    (∀ t ∈ PyData.shownKv ps, t.length ≤ sizeLine) → ShowsAll X s.heap (ps.map (·.1)) (es.map (·.key)) ∧ ShowsAll X s.heap (ps.map (·.2)) (es.map (·.val))
  | [], _, _, _, h, kv, pr, _, _ => by
    cases h; cases kv; cases pr
    exact ⟨.nil, .nil⟩
  | (k, d) :: ps, _, _, _, h, kv, pr, hs, hz => by
    cases h with
    | cons h1 h2 => cases kv with
      | cons e kv2 => cases pr with
        | cons p1 p2 p3 =>
          rename_i k0 v0 _ q _ en _
          have hs' : ((keyD k0).showable = true ∧ d.showable = true) ∧ PyData.showableKv ps = true := by simpa [PyData.showableKv] using hs
          have z0 := hz _ (by simp only [PyData.shownKv]; exact List.mem_cons_self ..)
          obtain ⟨e1, e2⟩ := e
          have z1 : (keyD k0).shown.length ≤ sizeLine := Nat.le_trans (by simp only [Str.length_append]; omega) z0
          have z2 : d.shown.length ≤ sizeLine := Nat.le_trans (by simp only [Str.length_append]; omega) z0
          obtain ⟨i1, i2⟩ := Dd.showsKv I ps _ _ _ h2 kv2 p3 hs'.2 fun t ht => hz t (by simp only [PyData.shownKv]; exact List.mem_cons_of_mem _ ht)
          have q1 : k0 = q.1 := e1
          have ky : keyIs k0 en.key = true := by rw [q1]; exact p1
          refine ⟨.cons (shows_key ky hs'.1.1 z1) i1, .cons (Dd.shows I d v0 _ h1 ?_ hs'.1.2 z2) i2⟩
          show RelV v0 en.val
          rw [p2]; exact e2
end
/-- repr of any such data -/
def rShow (K : PySem.W.Frag) : List V → Hp → VK → Prop := fun xs H Q => ∃ (v : V) (d : PyData), xs = [v] ∧ Dd K H v d ∧ d.showable = true ∧ d.depth ≤ 40 ∧ d.shown.length ≤ sizeLine ∧ Q (.str d.shown) H
theorem call_show (hq : Quiet X.A) (hu : X.A.units + 64 < cLine) : CallR X (.builtin "repr") (rShow X.K) := by
  intro pins s σ H xs us Q I r h
  obtain ⟨v, d, rfl, hd, hs, hp, hz, q⟩ := h
  cases r with
  | cons rv rn =>
    rename_i u us'
    cases rn
    have done : ∀ h' tk, (∀ b o, s.heap.get? b = some o → h'.get? b = some o) → ∀ z, EP X pins σ Q (.str d.shown z) { s with heap := h', toks := tk } := fun h' tk hk z => ⟨.str _, H, I.kept hk, ⟨z, rfl⟩, q⟩
    cases hd with
    | non => cases rv; exact PySem.P.repr_of_none ⟨.str _, H, I.tok _, ⟨_, rfl⟩, q⟩
    | bl b => cases rv; exact PySem.P.repr_of_bool ⟨.str _, H, I.tok _, ⟨_, rfl⟩, q⟩
    | int i =>
      obtain ⟨t, rfl⟩ := rv
      exact PySem.P.repr_of_int (of_decide_eq_true hs) ⟨.str _, H, I.tok _, ⟨_, rfl⟩, q⟩
    | str x =>
      obtain ⟨t, rfl⟩ := rv
      exact PySem.P.repr_of_str ⟨.str _, H, I.tok _, ⟨_, rfl⟩, q⟩
    | @lst a xs ds hq2 ha =>
      cases rv
      obtain ⟨its, rv2, ⟨o, n, ho, hc, _, hd2⟩, _⟩ := I.list hq2
      have hz' : (listText (PyData.shownAll ds)).length ≤ sizeLine := by simpa only [PyData.shown] using hz
      have hp' : PyData.depthAll ds + 1 ≤ 40 := by simpa only [PyData.depth] using hp
      obtain ⟨⟨as, r⟩, bs, hb, k⟩ := Dd.showsAll I ds _ its ha rv2 (by simpa [PyData.showable] using hs) fun t ht => Nat.le_trans (listText_mem_le ht) hz'
      have R : Reads s.heap (.ref a) (.list ds) _ := .list ho hc hd2 r
      have off : a ∉ bs := not_mem_of_deeper R (by simp only [PyData.depth]; omega) hb
      refine call_repr_slot (by omega) ⟨o, ho, hc⟩ F.slot_list_repr.toG ?_
      simp only [PyData.shown] at done
      cases its with
      | nil =>
        cases r
        simp only [PyData.shownAll, listText_nil] at done
        exact call_list_repr_empty ⟨o, ho, hc⟩ ho hd2 ⟨_, _, rfl, done s.heap _ (fun _ _ e => e) _⟩
      | cons u us => exact call_list_reprK ho hc hd2 off (by simpa using k.length_eq) (fun i y e => k.item i y (by simpa using e)) hq (fun b _ => Clear.nil b) (by show X.A.units + 1 + (PyData.depthAll ds + 1) < cLine; omega) (fun _ _ e => e) (fun h' u tk hk => ⟨_, _, rfl, done h' tk hk u⟩) hz'
    | @tup a xs ds hq2 ha =>
      cases rv
      obtain ⟨its, rv2, ⟨o, ho, hc, n, hd2⟩, _⟩ := I.tuple hq2
      have hz' : (tupleText (PyData.shownAll ds)).length ≤ sizeLine := by simpa only [PyData.shown] using hz
      have hp' : PyData.depthAll ds + 1 ≤ 40 := by simpa only [PyData.depth] using hp
      obtain ⟨⟨as, r⟩, bs, hb, k⟩ := Dd.showsAll I ds _ its ha rv2 (by simpa [PyData.showable] using hs) fun t ht => Nat.le_trans (tupleText_mem_le ht) hz'
      have R : Reads s.heap (.ref a) (.tuple ds) _ := .tuple ho hc hd2 r
      have off : a ∉ bs := not_mem_of_deeper R (by simp only [PyData.depth]; omega) hb
      simp only [PyData.shown] at done
      exact call_repr_slot (by omega) ⟨o, ho, hc⟩ F.slot_tuple_repr (call_tuple_reprK ho hc hd2 off k hq (fun b _ => Clear.nil b) (by show X.A.units + 1 + (PyData.depthAll ds + 1) < cLine; omega) (fun _ _ e => e) (fun h' u tk hk => ⟨_, _, rfl, done h' tk hk u⟩) hz')
    | @dic a kvs ps hq2 ha =>
      cases rv
      obtain ⟨_, hsys, vs, kv, o, es, ep, ho, ⟨hc, _, _⟩, hd2, _, pr, _⟩ := I.hok _ _ hq2
      have hz' : (dictText (PyData.shownKv ps)).length ≤ sizeLine := by simpa only [PyData.shown] using hz
      have hp' : PyData.depthKv ps + 1 ≤ 40 := by simpa only [PyData.depth] using hp
      obtain ⟨⟨⟨as1, r1⟩, c1, h1, k1⟩, ⟨as2, r2⟩, c2, h2, k2⟩ := Dd.showsKv I ps _ vs es.toList ha kv pr (by simpa [PyData.showable] using hs) (fun t ht => Nat.le_trans (dictText_mem_le ht) hz')
      have R : Reads s.heap (.ref a) (.dict ps) _ := .dict ho hc hd2 r1 r2
      have hb : ReadAtMost s.heap (PyData.depthKv ps) (c1 ++ c2) := (h1.mono (PyData.depthAll_keys_le ps)).append (h2.mono (PyData.depthAll_vals_le ps))
      have off : a ∉ c1 ++ c2 := not_mem_of_deeper R (by simp only [PyData.depth]; omega) hb
      simp only [PyData.shown] at done
      exact call_repr_slot (by omega) ⟨o, ho, hc⟩ F.slot_dict_repr (call_dict_reprK ho hc hd2 hsys off (ReprEntriesK.of_two es.toList _ _
        (k1.more_le (fun _ z => List.mem_append_left _ z) (PyData.depthAll_keys_le ps)) (k2.more_le (fun _ z => List.mem_append_right _ z) (PyData.depthAll_vals_le ps)) |> fun z => by rw [← PyData.shownKv_eq] at z; exact z)
        hq (fun b _ => Clear.nil b) (by show X.A.units + 1 + (PyData.depthKv ps + 1) < cLine; omega) (fun _ _ e => e) (fun h' u tk hk => ⟨_, _, rfl, done h' tk hk u⟩) hz')
end
section
variable {K : PySem.W.Frag} {σ : L2.St} {H : Hp} {te : TE} {v : V} {d : PyData}
theorem v_show (h : Val te σ H v) (hd : Dd K H v d) (hs : d.showable = true) (hp : d.depth ≤ 40) (hz : d.shown.length ≤ 100000) : Val (tCB (rShow K) (tCons te tNil)) σ H (.str d.shown) := v_cb (va_cons h va_nil) fun Q q => ⟨v, d, rfl, hd, hs, hp, Nat.le_trans hz (by decide), q⟩
end
end GL

/-! several clauses 'except X as e' in one try -/
namespace TM
open PySem PySem.Spec PyProof.Rows L2
abbrev Cl := Value × Nat × (Addr → Value → Option Addr → TS)
/-- what the clauses wish of an exception, the first one first -/
def wNames (K : PySem.W.Frag) (Wout : WX) (D : Ends) (l : List Cl) : WX := l.foldr (fun q W => wAs K q.1 q.2.1 q.2.2 W D) Wout
/-- asked only of states that hold every name -/
def wLen (n : Nat) (W : WX) : WX := fun cls d σ H => σ.length = n → W cls d σ H
inductive Clauses (X : Cx) : List ExceptHandler → List Cl → Prop
  | nil : Clauses X [] []
  | cons {x n : Str} {c : Value} {i : Nat} {ts : Addr → Value → Option Addr → TS} {b : Stmt} {r : List Stmt} {np hp : Pos} {hds : List ExceptHandler} {l : List Cl} (hi : X.N[i]? = some n) (hn : X.env.kindOf n = some .local) (hc : Names X x c)
      (suite : ∀ (a : Addr) (oe : Obj) (cls : Value) (d : Option Addr) (pn : List (Addr × Obj)), Zc cls d oe → (∃ vs, oe.data = .fields vs) → PSs (X.suite a ((a, oe) :: pn)) (b :: r) (ts a cls d)) (more : Clauses X hds l) :
      Clauses X (.ExceptHandler (some (.Name x np)) (some n) (b :: r) hp :: hds) ((c, i, ts) :: l)
section
variable {X : Cx} {body : List Stmt} {h₀ : ExceptHandler} {hds : List ExceptHandler} {l : List Cl} {pos : Pos} {tb : WX → TS} {Wout : WX}
theorem ps_try_names (hs : X.stack = X.env :: X.outer) (hf : X.env.frame = some X.env.locals) (hN : X.N.Nodup) (tk : Takes X Wout)
    (hb : ∀ (W : WX) (pn : List (Addr × Obj)) (xe : Value → Shared → Prop), Takes (X.tr pn xe) W → PassesOwn (model X.prog X.w) X.A X.env xe → PSs (X.tr pn xe) body (tb W))
    (cl : Clauses X (h₀ :: hds) l) : PS X (.Try body (h₀ :: hds) [] [] pos) (fun D σ H => tb (wLen X.N.length (wNames X.K Wout D l)) D σ H) := by
  refine ⟨fun pins s σ H D I h => ?_⟩
  have ok := I.ok
  have frames : X.A.frames = some (X.env :: X.outer) := by rw [ok.frames, hs]
  refine wpAny_Try_except ?_
  have run := (hb (wLen X.N.length (wNames X.K Wout D l)) (X.pn ++ pins) (fun e t => wpAny (model X.prog X.w) X.A (noteFrame e X.env) (fun _ t2 => wpAny (model X.prog X.w) X.A (setFlight e none) (fun _ t3 =>
    wpAny (model X.prog X.w) X.A (handleBy e X.env (h₀ :: hds)) (SP X pins D) X.xe t3) X.xe t2) X.xe t) (fun u s' xx => ?_) PassesOwn.looking).run [] s σ H D (I.toTry _) h
  · refine wpAny_mono run (fun f s1 e => ?_) (fun e s1 he => he)
    cases f with
    | next =>
      obtain ⟨σ', H', J', q⟩ := e
      exact wpAny_execs_nil ⟨σ', H', J'.ofTry ok, q⟩
    | brk =>
      obtain ⟨σ', H', J', q⟩ := e
      exact ⟨σ', H', J'.ofTry ok, q⟩
    | cont =>
      obtain ⟨σ', H', J', q⟩ := e
      exact ⟨σ', H', J'.ofTry ok, q⟩
    | ret u =>
      obtain ⟨v, σ', H', J', r, q⟩ := e
      exact ⟨v, σ', H', J'.ofTry ok, r, q⟩
  · obtain ⟨a, B, sI, pins', σ', H', cls, d, rfl, J', nb, up, sky, na, os, ag, w⟩ := xx
    have J : Inv X pins σ' H' sI := J'.ofTry ok
    have sky' : Sky B (X.env :: X.outer) a (Zc cls d) X.env.locals s'.heap := by rw [← hs]; exact sky
    show wpAny (model X.prog X.w) X.A (noteFrame (.ref a) X.env) _ _ _
    refine Sky.land Zc.steady frames hf sky' fun h3 fl3 up3 => ?_
    have J3 : Inv X pins σ' H' { s' with heap := h3 } := J.landed nb fl3.1 (up.trans up3) os ag
    obtain ⟨oe, vs, he, hz, hd⟩ := fl3.there
    have away : a ∉ frs (X.env :: X.outer) := fun hm => by
      obtain ⟨_, o', e', no⟩ := fl3.2.2.1.mem hm
      rw [he] at e'; cases e'
      exact no _ hd
    have nL : a ≠ X.env.locals := fun z => away (List.mem_filterMap.mpr ⟨X.env, List.mem_cons_self, by rw [hf, z]⟩)
    have nF : a ∉ X.fs := fun hm => by
      obtain ⟨e, m, q⟩ := List.mem_filterMap.mp hm
      exact away (List.mem_filterMap.mpr ⟨e, List.mem_cons_of_mem _ m, q⟩)
    have S3 := J3.suite he hd na nL nF
    have looks : PySem.W.Looks (model X.prog X.w) h3 (typeOf (.ref a)) cls := fun A Q E s k q => wpAny_typeOf_ref (k _ _ he) (by rw [hz.1]; exact q)
    suffices go : ∀ {hs' : List ExceptHandler} {l' : List Cl}, Clauses X hs' l' → wNames X.K Wout D l' cls d σ' H' → wpAny (model X.prog X.w) X.A (handleBy (.ref a) X.env hs') (SP X pins D) X.xe { s' with heap := h3 } from go cl (w J.len)
    intro hs' l' k
    induction k with
    | nil =>
      intro w
      refine wpAny_handleBy_nil ?_
      obtain ⟨k1, k2, k3, oe2, vs2, T, oT, ts', he2, hz2, hd2, h1, hr⟩ := id fl3
      unfold PySem.passOn
      refine wpAny_bind (wpAny_field he2 hd2 h1 ?_)
      rw [if_neg (show ¬ ((Value.ref T == Value.none) = true) from by simp)]
      have out : wpAny (model X.prog X.w) X.A (setFlight (.ref a) X.env.frame) (fun _ s4 => wpAny (model X.prog X.w) X.A (throw (.ref a) : Sem Flow) (SP X pins D) X.xe s4) X.xe { s' with heap := h3 } := by
        rw [hf]
        refine HandSPX.setFlight_upZ fl3 fun h4 hh4 up4 => wpAny_throw (tk _ _ ?_)
        exact ⟨a, B, sI, pins, σ', H', cls, d, rfl, J, nb, (up.trans up3).trans up4, .inr (.inr (by rw [hs]; exact hh4)), na, os, ag, w⟩
      first
        | exact wpAny_bind (wpAny_pure (wpAny_bind out))
        | exact wpAny_bind out
    | @cons x n c i ts b r np hp hds2 l2 hi hn hc suite more ih =>
      intro w
      obtain ⟨t, ht, yes, no⟩ := w
      refine wpAny_handleBy_cons (codeAny_handlers_test ?_) (by intro q; cases q)
      have LM := PySem.W.exm_one (M := model X.prog X.w) (J3.kIn) looks ht
      have test : ∀ {Q : Value → Shared → Prop} {E : Value → Shared → Prop}, Q c { s' with heap := h3 } → wpAny (model X.prog X.w) (X.A.mark (some (.ref a))) (eval (.Name x np) X.env) Q E { s' with heap := h3 } := fun {Q E} q => by
        obtain ⟨g, db, hm | ⟨hm, hv, nn⟩⟩ := hc
        · exact ld_glob (X := X.suite a ((a, oe) :: (X.pn ++ pins))) S3 g hm q db
        · exact ld_blt (X := X.suite a ((a, oe) :: (X.pn ++ pins))) S3 g hm hv q nn db
      refine test (LM.here ?_)
      cases t with
      | false => exact ih (no rfl)
      | true =>
        refine codeAny_handlers_suite_as ?_
        refine HandSPX.lands_againZ fl3 fun h4 fl4 up4 => ?_
        have J4 : Inv X pins σ' H' { s' with heap := h4 } := J.landed nb fl4.1 ((up.trans up3).trans up4) os ag
        obtain ⟨oe4, vs4, he4, hz4, hd4⟩ := fl4.there
        have S4 := J4.suite he4 hd4 na nL nF
        refine store_ok (X := X.suite a ((a, oe4) :: (X.pn ++ pins))) (v := .ref a) S4 hN hi (.inl hn) rfl (fun s5 S5 => ?_) (.inr hn)
        refine wpAny_mono ((suite a oe4 cls d (X.pn ++ pins) hz4 ⟨_, hd4⟩).run [] s5 _ H' _ S5 (yes rfl a na)) (fun f s6 e => ?_) (fun _ _ z => False.elim z)
        cases f with
        | next =>
          obtain ⟨σ6, H6, S6, q6⟩ := e
          exact gone_ok (S6.unsuite ok) hN hi hn fun s7 J7 => ⟨_, _, J7, q6⟩
        | brk =>
          obtain ⟨σ6, H6, S6, q6⟩ := e
          exact gone_ok (S6.unsuite ok) hN hi hn fun s7 J7 => ⟨_, _, J7, q6⟩
        | cont =>
          obtain ⟨σ6, H6, S6, q6⟩ := e
          exact gone_ok (S6.unsuite ok) hN hi hn fun s7 J7 => ⟨_, _, J7, q6⟩
        | ret u =>
          obtain ⟨v6, σ6, H6, S6, r6, q6⟩ := e
          exact gone_ok (S6.unsuite ok) hN hi hn fun s7 J7 => ⟨_, _, _, J7, r6, q6⟩
end
end TM

/-! Instances of an own class under operators: two of them, one beside a value of a built-in class on either side; -x; ==. -/
namespace GL
open PySem PySem.Spec PyProof.Rows L2
section
variable {P : Program} {w : World} {A : Around} {E : Value → Shared → Prop} {s : Shared} {K : PySem.W.Frag} {x C B f : Addr} {base : Heap} {mp : Str → Option Value} {ox : Obj} {od : Option Obj} {T : String}
theorem try_own {Q : Option Value → Shared → Prop} {name : Str} {b : Value} (X : K.In s.heap) (I : PySem.W.InstAt s.heap x ox C od) (hs : PySem.W.findIn K (.ref C) name = some (some (.ref f))) (hf : PySem.W.isFn K (.ref f) = true)
    (h : wpAny (model P w) A (call (.ref f) [.ref x, b]) (PySem.W.CmpBack fun v s' => Q (some v) s') E s) : wpAny (model P w) A (tryMethod (.ref x) name b) Q E s := by
  unfold tryMethod
  refine wpAny_bind (PySem.W.special_fn X I hs (beq_iff_eq.mp hf) (wpAny_mono h (fun v s' hv => ?_) fun _ _ e => e))
  cases v <;> first | exact hv.elim | exact wpAny_pure hv
/-- what the classes tell of x op b, b of the built-in class T -/
structure OpT (K : PySem.W.Frag) (C f : Addr) (T : String) (op : Operator) : Prop where
  me : PySem.W.selfFirst K C = true
  at_ : PySem.W.findIn K (.ref C) (PySem.dunder op.info.2) = some (some (.ref f))
  fn : PySem.W.isFn K (.ref f) = true
  rc : ∃ g : Addr, PySem.W.findIn K (.ref C) (dunderR op.info.2) = some (some (.ref g))
  lo : ∃ fo, PySem.W.findIn K (.type T) (PySem.dunder op.info.2) = some fo
  ro : ∃ ro, PySem.W.findIn K (.type T) (dunderR op.info.2) = some ro
  sub : PySem.W.subIn K (.type T) (.ref C) = some false
theorem bin_left {op : Operator} {b : Value} {Q : Value → Shared → Prop} (F : Fr base B s.heap mp) (X0 : K.In base) (I : PySem.W.InstAt s.heap x ox C od) (hb : PySem.W.Looks (model P w) s.heap (typeOf b) (.type T)) (o : OpT K C f T op)
    (h : wpAny (model P w) A (call (.ref f) [.ref x, b]) (PySem.W.CmpBack Q) E s) : wpAny (model P w) A (binaryOp op (.ref x) b) Q E s := by
  obtain ⟨hc, hs, hf, ⟨rc, hr⟩, ⟨fo, h1⟩, ⟨ro, h2⟩, hsub⟩ := o
  have X := X0.keeps F.keep
  obtain ⟨cd, rest, hcd, hm⟩ := PySem.W.ksp_first hc
  rcases hi : op.info with ⟨sym, nm⟩
  rw [hi] at hs hr h1 h2
  dsimp only at hs hr h1 h2
  have one : wpAny (model P w) A (tryMethod (.ref x) (PySem.dunder nm) b) (fun r s' => ∃ v, r = some v ∧ Q v s') E s := try_own X I hs hf (wpAny_mono h (fun v s' z => by cases v <;> first | exact z.elim | exact ⟨_, rfl, z⟩) fun _ _ e => e)
  obtain ⟨hh, g, d, tt, os⟩ := s
  have a1 := I.type (M := model P w)
  have a3 : PySem.W.Looks (model P w) hh (fillsNumberSlot (.ref C) nm) true := PySem.W.fills_K X hcd hm hs
  have a4 : PySem.W.Looks (model P w) hh (fillsNumberSlot (.type T) nm) _ := PySem.W.ksp_fillsT X h1 h2
  have a5 := PySem.W.looks_subIn (M := model P w) X hsub
  have a6 : PySem.W.Looks (model P w) hh (numberSlotInPython (.ref C) nm) true := PySem.W.ksp_inPy X hs hr (.inr ⟨_, rfl⟩)
  have a7 : PySem.W.Looks (model P w) hh (numberSlotInPython (.type T) nm) false := .of_pure rfl
  have a8 := PySem.W.looks_findIn (M := model P w) X h2
  generalize ((fo.isSome && !isSeqSlot fo) || (ro.isSome && !isSeqSlot ro)) = rt at a4
  have ne : (Value.ref C == Value.type T) = false := Bool.eq_false_iff.mpr fun q => by cases beq_iff_eq.mp q
  simp only [binaryOp, hi]
  refine wpAny_holding (wpAny_bind ?_)
  unfold binaryOp1
  refine wpAny_bind (a1.at (wpAny_bind (hb.at (wpAny_bind (a3.at ?_)))))
  simp only [ne, Bool.false_eq_true, if_false]
  cases rt <;> ksp_lk <;> refine wpAny_mono one (fun r s' q => ?_) fun _ _ e => e
  all_goals
    obtain ⟨v, rfl, q⟩ := q
    ksp_lk
    exact q
/-- .. of a op x, a of the built-in class T -/
structure OpR' (K : PySem.W.Frag) (C f : Addr) (T : String) (op : Operator) (k : Bool) : Prop where
  me : PySem.W.selfFirst K C = true
  lf : ∃ g : Addr, PySem.W.findIn K (.ref C) (PySem.dunder op.info.2) = some (some (.ref g))
  at_ : PySem.W.findIn K (.ref C) (dunderR op.info.2) = some (some (.ref f))
  fn : PySem.W.isFn K (.ref f) = true
  lr : ∃ fo ro, PySem.W.findIn K (.type T) (PySem.dunder op.info.2) = some fo ∧ PySem.W.findIn K (.type T) (dunderR op.info.2) = some ro ∧ ((fo.isSome && !isSeqSlot fo) || (ro.isSome && !isSeqSlot ro)) = k
  sub : PySem.W.subIn K (.ref C) (.type T) = some false
theorem bin_right {op : Operator} {k : Bool} {a : Value} {Q : Value → Shared → Prop} (F : Fr base B s.heap mp) (X0 : K.In base) (I : PySem.W.InstAt s.heap x ox C od) (ha : PySem.W.Looks (model P w) s.heap (typeOf a) (.type T)) (o : OpR' K C f T op k)
    (hno : k = true → ∀ Q', Q' none s → wpAny (model P w) A (tryMethod a (PySem.dunder op.info.2) (.ref x)) Q' E s)
    (h : wpAny (model P w) A (call (.ref f) [.ref x, a]) (PySem.W.CmpBack Q) E s) : wpAny (model P w) A (binaryOp op a (.ref x)) Q E s := by
  obtain ⟨hc, ⟨lf, hl⟩, hs, hf, ⟨fo, ro, h1, h2, hk⟩, hsub⟩ := o
  have X := X0.keeps F.keep
  obtain ⟨cd, rest, hcd, hm⟩ := PySem.W.ksp_first hc
  rcases hi : op.info with ⟨sym, nm⟩
  rw [hi] at hs hl h1 h2 hno
  dsimp only at hs hl h1 h2 hno
  have one : wpAny (model P w) A (tryMethod (.ref x) (dunderR nm) a) (fun r s' => ∃ v, r = some v ∧ Q v s') E s := try_own X I hs hf (wpAny_mono h (fun v s' z => by cases v <;> first | exact z.elim | exact ⟨_, rfl, z⟩) fun _ _ e => e)
  obtain ⟨hh, g, d, tt, os⟩ := s
  have a1 := I.type (M := model P w)
  have a3 : PySem.W.Looks (model P w) hh (fillsNumberSlot (.ref C) nm) true := PySem.W.fills_K X hcd hm hl
  have a4 : PySem.W.Looks (model P w) hh (fillsNumberSlot (.type T) nm) _ := PySem.W.ksp_fillsT X h1 h2
  have a5 := PySem.W.looks_subIn (M := model P w) X hsub
  have a7 : PySem.W.Looks (model P w) hh (numberSlotInPython (.type T) nm) false := .of_pure rfl
  rw [hk] at a4
  have ne : (Value.type T == Value.ref C) = false := Bool.eq_false_iff.mpr fun q => by cases beq_iff_eq.mp q
  simp only [binaryOp, hi]
  refine wpAny_holding (wpAny_bind ?_)
  unfold binaryOp1
  refine wpAny_bind (ha.at (wpAny_bind (a1.at (wpAny_bind (a4.at ?_)))))
  simp only [ne, Bool.false_eq_true, if_false]
  cases k
  · ksp_lk
    refine wpAny_mono one (fun r s' q => ?_) fun _ _ e => e
    obtain ⟨v, rfl, q⟩ := q
    ksp_lk
    exact q
  · ksp_lk
    refine hno rfl _ ?_
    ksp_lk
    refine wpAny_mono one (fun r s' q => ?_) fun _ _ e => e
    obtain ⟨v, rfl, q⟩ := q
    ksp_lk
    exact q
/-- an int's own +, -, * decline an instance -/
theorem int_bin {n : String} {g : Int → Int → Sem Fin} {i : Int} {t : Tok} {dx : Addr} {R : Fin → Shared → Prop} {A : Around} {E : Value → Shared → Prop} (hx : s.heap.get? x = some (PySem.W.instObj C dx)) (q : R (.done (.ret .notImplemented)) s) :
    wpAny (model P w) A (Builtin.Int.intBinary n g false ⟨[.int i t, .ref x], []⟩) R E s := by
  unfold Builtin.Int.intBinary
  refine wpAny_bind (wpAny_of_eq (show _ = pure (Value.int i t, [Value.ref x]) from rfl) ?_)
  refine wpAny_bind (wpAny_of_eq (show _ = pure i from rfl) ?_)
  refine wpAny_bind ?_
  show wpAny (model P w) A (asInt? (.ref x)) _ _ _
  unfold asInt?
  refine wpAny_bind (wpAny_load hx ?_)
  refine wpAny_pure ?_
  exact wpAny_bind (wpAny_rule (wpAny_pure q))
theorem int_is : (∃ g, Builtin.«int.__add__» = Builtin.Int.intBinary "__add__" g false) ∧ (∃ g, Builtin.«int.__sub__» = Builtin.Int.intBinary "__sub__" g false) ∧ ∃ g, Builtin.«int.__mul__» = Builtin.Int.intBinary "__mul__" g false := ⟨⟨_, rfl⟩, ⟨_, rfl⟩, ⟨_, rfl⟩⟩
theorem int_call {Q : Value → Shared → Prop} {i : Int} {t : Tok} {dx : Addr} (hx : s.heap.get? x = some (PySem.W.instObj C dx)) (q : Q .notImplemented s) :
    wpAny (model P w) A (call (.builtin "int.__add__") [.int i t, .ref x]) Q E s ∧ wpAny (model P w) A (call (.builtin "int.__sub__") [.int i t, .ref x]) Q E s ∧ wpAny (model P w) A (call (.builtin "int.__mul__") [.int i t, .ref x]) Q E s := by
  obtain ⟨⟨g1, e1⟩, ⟨g2, e2⟩, g3, e3⟩ := int_is
  refine ⟨?_, ?_, ?_⟩
  · refine GQ.call_here PySem.F.slot_int_add (typeIs_int s i t) PySem.F.entry_int_add (PySem.F.args_int_add_2 _ _) ?_
    rw [e1]
    refine int_bin hx ?_
    exact q
  · refine GQ.call_here PySem.F.slot_int_sub (typeIs_int s i t) PySem.F.entry_int_sub (PySem.F.args_int_sub_2 _ _) ?_
    rw [e2]
    refine int_bin hx ?_
    exact q
  · refine GQ.call_here PySem.F.slot_int_mul (typeIs_int s i t) PySem.F.entry_int_mul (PySem.F.args_int_mul_2 _ _) ?_
    rw [e3]
    refine int_bin hx ?_
    exact q
theorem int_no {op : Operator} {i : Int} {t : Tok} {dx : Addr} (ho : op = .Add ∨ op = .Sub ∨ op = .Mult) (hx : s.heap.get? x = some (PySem.W.instObj C dx)) (Q' : Option Value → Shared → Prop) (q : Q' none s) :
    wpAny (model P w) A (tryMethod (.int i t) (PySem.dunder op.info.2) (.ref x)) Q' E s := by
  have h := int_call (P := P) (w := w) (A := A) (E := E) (i := i) (t := t) (Q := fun v s' => v = .notImplemented ∧ Q' none s') hx ⟨rfl, q⟩
  have n1 : (Operator.info .Add).2 = "add" := rfl
  have n2 : (Operator.info .Sub).2 = "sub" := rfl
  have n3 : (Operator.info .Mult).2 = "mul" := rfl
  rcases ho with e | e | e
  · rw [e, n1]
    have sl := PySem.F.slot_int_add
    generalize PySem.dunder "add" = nm at sl ⊢
    exact wpAny_tryMethod_declines (typeIs_int s i t) sl h.1
  · rw [e, n2]
    have sl := PySem.F.slot_int_sub
    generalize PySem.dunder "sub" = nm at sl ⊢
    exact wpAny_tryMethod_declines (typeIs_int s i t) sl h.2.1
  · rw [e, n3]
    have sl := PySem.F.slot_int_mul
    generalize PySem.dunder "mul" = nm at sl ⊢
    exact wpAny_tryMethod_declines (typeIs_int s i t) sl h.2.2
end
end GL

namespace GL
open PySem PySem.Spec PyProof.Rows L2
/-! ### over the layer -/
/-- the value is of the built-in class T -/
inductive OfT (H : Hp) : V → String → Prop
  | int (i : Int) : OfT H (.int i) "int"
  | tup {q : Addr} {xs : List V} (e : H q = some (.tup xs)) : OfT H (.ref q) "tuple"
section
variable {X : Cx} {pins : List (Addr × Obj)} {σ : L2.St} {H : Hp} {s : Shared} {C f : Addr} {k : Nat} {fd : FuncData} {ps : List Str} {sp : Sp}
theorem OfT.looks (I : Inv X pins σ H s) {y : V} {u : Value} {T : String} (h : OfT H y T) (r : RelV y u) : PySem.W.Looks (model X.prog X.w) s.heap (typeOf u) (.type T) := by
  cases h with
  | int i =>
    obtain ⟨t, rfl⟩ := r
    exact .of_pure rfl
  | tup e =>
    cases r
    obtain ⟨its, rv, ⟨o, ho, hc, n, hd⟩, _⟩ := I.tuple (SqT.of e)
    have q := PySem.W.Looks.ld (M := model X.prog X.w) (part := none) ho
    rw [← hc]
    exact q.andThen .now
/-- x op y by a def at f of the class of x or y, what comes out being an object -/
def obQ (Q : VK) : VK := fun v H => (∃ a, v = .ref a) ∧ Q v H
theorem back_ob {Q : VK} {v : Value} {s' : Shared} (h : EP X pins σ (obQ Q) v s') : PySem.W.CmpBack (EP X pins σ Q) v s' := by
  obtain ⟨x, H', I, r, ⟨a, rfl⟩, q⟩ := h
  cases r
  exact ⟨.ref a, H', I, rfl, q⟩
structure OpI (K : PySem.W.Frag) (C f : Addr) (op : Operator) : Prop where
  me : PySem.W.selfFirst K C = true
  at_ : PySem.W.findIn K (.ref C) (PySem.dunder op.info.2) = some (some (.ref f))
  fn : PySem.W.isFn K (.ref f) = true
theorem fin_ob {a : Addr} {y : V} {u : Value} {Q : VK} (F : FnOk X.prog X.w X.K X.mg X.base CX0 k f fd ps sp) (hr : Room k X.A) (hb : L2.Binds X.K fd ps []) (I : Inv X pins σ H s) (r : RelV y u) (h : sp [.ref a, y] H (obQ Q) E0) :
    wpAny (model X.prog X.w) X.A (call (.ref f) [.ref a, u]) (PySem.W.CmpBack (EP X pins σ Q)) X.xe s :=
  wpAny_mono (run_fn (us := [.ref a, u]) (vs := [.ref a, y]) (dvs := []) F hr hb .nil pass0 I (.cons rfl (.cons r .nil)) h) (fun _ _ z => back_ob z) fun _ _ e => e
/-- of two instances -/
theorem op_two {op : Operator} (o : OpI X.K C f op) (F : FnOk X.prog X.w X.K X.mg X.base CX0 k f fd ps sp) (hr : Room k X.A) (hb : L2.Binds X.K fd ps []) :
    OpR X (binaryOp op) fun x y H Q => ∃ a dx fs b dy gs, x = .ref a ∧ y = .ref b ∧ H a = some (.ins C dx fs) ∧ H b = some (.ins C dy gs) ∧ sp [x, y] H (obQ Q) E0 := by
  intro pins s σ H x y u v Q I rx ry h
  obtain ⟨a, dx, fs, b, dy, gs, rfl, rfl, ha, hb', q⟩ := h
  cases rx
  cases ry
  obtain ⟨mA, J, _⟩ := ins_get I.hok ha
  obtain ⟨mB, J', _⟩ := ins_get I.hok hb'
  obtain ⟨od, J, _⟩ := J.look
  obtain ⟨od', J', _⟩ := J'.look
  obtain ⟨m, hF⟩ := I.fr
  exact PySem.W.binop_K hF I.ok.mod.kin J J'.type o.me o.at_ o.fn (fin_ob (y := .ref b) (u := .ref b) F hr hb I rfl q)
/-- an instance, a value beside it on the right -/
theorem op_left {op : Operator} {T : String} (o : OpT X.K C f T op) (F : FnOk X.prog X.w X.K X.mg X.base CX0 k f fd ps sp) (hr : Room k X.A) (hb : L2.Binds X.K fd ps []) :
    OpR X (binaryOp op) fun x y H Q => ∃ a dx fs, x = .ref a ∧ H a = some (.ins C dx fs) ∧ OfT H y T ∧ sp [x, y] H (obQ Q) E0 := by
  intro pins s σ H x y u v Q I rx ry h
  obtain ⟨a, dx, fs, rfl, ha, hT, q⟩ := h
  cases rx
  obtain ⟨mA, J, _⟩ := ins_get I.hok ha
  obtain ⟨od, J, _⟩ := J.look
  obtain ⟨m, hF⟩ := I.fr
  exact bin_left hF I.ok.mod.kin J (hT.looks I ry) o (fin_ob F hr hb I ry q)
/-- .. on the left -/
theorem op_rightI {op : Operator} (ho : op = .Add ∨ op = .Sub ∨ op = .Mult) (o : OpR' X.K C f "int" op true) (F : FnOk X.prog X.w X.K X.mg X.base CX0 k f fd ps sp) (hr : Room k X.A) (hb : L2.Binds X.K fd ps []) :
    OpR X (binaryOp op) fun x y H Q => ∃ a dx fs i, y = .ref a ∧ H a = some (.ins C dx fs) ∧ x = .int i ∧ sp [y, x] H (obQ Q) E0 := by
  intro pins s σ H x y u v Q I rx ry h
  obtain ⟨a, dx, fs, i, rfl, ha, rfl, q⟩ := h
  cases ry
  obtain ⟨mA, J, _⟩ := ins_get I.hok ha
  have hx := J.obj
  obtain ⟨od, J, _⟩ := J.look
  obtain ⟨m, hF⟩ := I.fr
  refine bin_right hF I.ok.mod.kin J ((OfT.int i).looks I rx) o (fun _ Q' z => ?_) (fin_ob F hr hb I rx q)
  obtain ⟨t, rfl⟩ := rx
  exact int_no ho hx Q' z
theorem op_rightT {op : Operator} (o : OpR' X.K C f "tuple" op false) (F : FnOk X.prog X.w X.K X.mg X.base CX0 k f fd ps sp) (hr : Room k X.A) (hb : L2.Binds X.K fd ps []) :
    OpR X (binaryOp op) fun x y H Q => ∃ a dx fs q xs, y = .ref a ∧ H a = some (.ins C dx fs) ∧ x = .ref q ∧ H q = some (.tup xs) ∧ sp [y, x] H (obQ Q) E0 := by
  intro pins s σ H x y u v Q I rx ry h
  obtain ⟨a, dx, fs, p, xs, rfl, ha, rfl, hp, q⟩ := h
  cases ry
  obtain ⟨mA, J, _⟩ := ins_get I.hok ha
  obtain ⟨od, J, _⟩ := J.look
  obtain ⟨m, hF⟩ := I.fr
  exact bin_right hF I.ok.mod.kin J ((OfT.tup hp).looks I rx) o (fun z => nomatch z) (fin_ob F hr hb I rx q)
/-- -x -/
theorem un_own {f : Addr} (at_ : PySem.W.findIn X.K (.ref C) "__neg__" = some (some (.ref f))) (fn : PySem.W.isFn X.K (.ref f) = true) (F : FnOk X.prog X.w X.K X.mg X.base CX0 k f fd ps sp) (hr : Room k X.A) (hb : L2.Binds X.K fd ps []) :
    UnR X (unaryOp .USub) fun x H Q => ∃ a dx fs, x = .ref a ∧ H a = some (.ins C dx fs) ∧ sp [x] H Q E0 := by
  intro pins s σ H x v Q I rx h
  obtain ⟨a, dx, fs, rfl, ha, q⟩ := h
  cases rx
  obtain ⟨mA, J, _⟩ := ins_get I.hok ha
  obtain ⟨od, J, _⟩ := J.look
  obtain ⟨m, hF⟩ := I.fr
  exact PySem.W.ksp_neg hF I.ok.mod.kin J at_ fn (run_fn (us := [.ref a]) (vs := [.ref a]) (dvs := []) F hr hb .nil pass0 I (.cons rfl .nil) q)
/-- x == y, x an instance -/
theorem op_eqO {op : CmpOp} (ho : op = .Eq) (at_ : PySem.W.findIn X.K (.ref C) "__eq__" = some (some (.ref f))) (fn : PySem.W.isFn X.K (.ref f) = true) (sb : ∀ T : String, T = "int" ∨ T = "tuple" → PySem.W.subIn X.K (.type T) (.ref C) = some false)
    (F : FnOk X.prog X.w X.K X.mg X.base CX0 k f fd ps sp) (hr : Room k X.A) (hb : L2.Binds X.K fd ps []) :
    OpR X (compareOp op) fun x y H Q => ∃ a dx fs, x = .ref a ∧ H a = some (.ins C dx fs) ∧ ((∃ b dy gs, y = .ref b ∧ H b = some (.ins C dy gs)) ∨ ∃ T, OfT H y T) ∧ sp [x, y] H (fun v H' => (∃ b, v = .bl b) ∧ Q v H') E0 := by
  subst ho
  intro pins s σ H x y u v Q I rx ry h
  obtain ⟨a, dx, fs, rfl, ha, hy, q⟩ := h
  cases rx
  obtain ⟨mA, J, _⟩ := ins_get I.hok ha
  obtain ⟨od, J, _⟩ := J.look
  obtain ⟨m, hF⟩ := I.fr
  have fin : wpAny (model X.prog X.w) X.A (call (.ref f) [.ref a, v]) (PySem.W.CmpBack (EP X pins σ Q)) X.xe s :=
    wpAny_mono (run_fn (us := [.ref a, v]) (vs := [.ref a, y]) (dvs := []) F hr hb .nil pass0 I (.cons rfl (.cons ry .nil)) q) (fun z s' hz => by
      obtain ⟨x', H', I', r', ⟨b, rfl⟩, q'⟩ := hz
      cases r'
      exact ⟨.bl b, H', I', rfl, q'⟩) fun _ _ e => e
  show wpAny (model X.prog X.w) X.A (richCompare .Eq (.ref a) v) (EP X pins σ Q) X.xe s
  rcases hy with ⟨b, dy, gs, rfl, hb'⟩ | ⟨T, hT⟩
  · cases ry
    obtain ⟨mB, J', _⟩ := ins_get I.hok hb'
    obtain ⟨od', J', _⟩ := J'.look
    exact PySem.W.cmp_K (op := .Eq) hr.units0 hF I.ok.mod.kin J J'.type (by simp [PySem.W.notFirst]) at_ fn fin
  · have hs := sb T (by cases hT <;> simp)
    exact PySem.W.cmp_K (op := .Eq) hr.units0 hF I.ok.mod.kin J (hT.looks I ry) (by simp [PySem.W.notFirst, hs]) at_ fn fin
/-- what is never come to -/
theorem pe_never {e : Expr} : PE X e (fun _ _ _ => False) := ⟨fun _ _ _ _ _ _ h => h.elim⟩
end
end GL

namespace LW
open PySem PySem.Spec PyProof.Rows L2 GL
def top (i : Nat) : Stmt := PySem.Challenge.pw_flowpapers_k02_whole_polynomials_of_one.main.body.getD i (.Pass ⟨0, 0, 0, 0⟩)
abbrev sis_ratio : Stmt := top 7
theorem scis_ratio : FnScope ["value"] ["value"] (defScope sis_ratio) := ⟨rfl, rfl, rfl, by decide +kernel, rfl, by decide +kernel, by decide +kernel⟩
abbrev stold : Stmt := top 8
theorem sctold : FnScope ["value", "what", "top", "bottom"] ["value", "what"] (defScope stold) := ⟨rfl, rfl, rfl, by decide +kernel, rfl, by decide +kernel, by decide +kernel⟩
abbrev splus : Stmt := top 9
theorem scplus : FnScope ["one", "other", "top", "bottom", "other_top", "other_bottom"] ["one", "other"] (defScope splus) := ⟨rfl, rfl, rfl, by decide +kernel, rfl, by decide +kernel, by decide +kernel⟩
abbrev stimes : Stmt := top 10
theorem sctimes : FnScope ["one", "other", "top", "bottom", "other_top", "other_bottom"] ["one", "other"] (defScope stimes) := ⟨rfl, rfl, rfl, by decide +kernel, rfl, by decide +kernel, by decide +kernel⟩
abbrev sis_integer : Stmt := top 11
theorem scis_integer : FnScope ["value"] ["value"] (defScope sis_integer) := ⟨rfl, rfl, rfl, by decide +kernel, rfl, by decide +kernel, by decide +kernel⟩
abbrev s_parts : Stmt := top 12
theorem sc_parts : FnScope ["value", "what"] ["value", "what"] (defScope s_parts) := ⟨rfl, rfl, rfl, by decide +kernel, rfl, by decide +kernel, by decide +kernel⟩
abbrev s_lowest : Stmt := top 13
theorem sc_lowest : FnScope ["top", "bottom", "divisor"] ["top", "bottom"] (defScope s_lowest) := ⟨rfl, rfl, rfl, by decide +kernel, rfl, by decide +kernel, by decide +kernel⟩
abbrev sis_row : Stmt := top 15
theorem scis_row : FnScope ["value", "number"] ["value"] (defScope sis_row) := ⟨rfl, rfl, rfl, by decide +kernel, rfl, by decide +kernel, by decide +kernel⟩
abbrev sis_strict_ratio : Stmt := top 16
theorem scis_strict_ratio : FnScope ["value"] ["value"] (defScope sis_strict_ratio) := ⟨rfl, rfl, rfl, by decide +kernel, rfl, by decide +kernel, by decide +kernel⟩
abbrev sbottom_of : Stmt := top 18
theorem scbottom_of : FnScope ["pairs", "below", "_", "bottom"] ["pairs"] (defScope sbottom_of) := ⟨rfl, rfl, rfl, by decide +kernel, rfl, by decide +kernel, by decide +kernel⟩
abbrev swhole_row : Stmt := top 19
theorem scwhole_row : FnScope ["pairs", "below", "top", "bottom"] ["pairs"] (defScope swhole_row) := ⟨rfl, rfl, rfl, by decide +kernel, rfl, by decide +kernel, by decide +kernel⟩
abbrev stop_power : Stmt := top 20
theorem sctop_power : FnScope ["tops", "power"] ["tops"] (defScope stop_power) := ⟨rfl, rfl, rfl, by decide +kernel, rfl, by decide +kernel, by decide +kernel⟩
abbrev srow_product : Stmt := top 21
theorem scrow_product : FnScope ["one", "other", "many", "k", "power"] ["one", "other"] (defScope srow_product) := ⟨rfl, rfl, rfl, by decide +kernel, rfl, by decide +kernel, by decide +kernel⟩
abbrev s_beside : Stmt := top 24
theorem sc_beside : FnScope ["value"] ["value"] (defScope s_beside) := ⟨rfl, rfl, rfl, by decide +kernel, rfl, by decide +kernel, by decide +kernel⟩
abbrev s_number : Stmt := top 25
theorem sc_number : FnScope ["poly", "power"] ["poly", "power"] (defScope s_number) := ⟨rfl, rfl, rfl, by decide +kernel, rfl, by decide +kernel, by decide +kernel⟩
abbrev s_sum : Stmt := top 26
theorem sc_sum : FnScope ["one", "other", "many", "power"] ["one", "other"] (defScope s_sum) := ⟨rfl, rfl, rfl, by decide +kernel, rfl, by decide +kernel, by decide +kernel⟩
abbrev s_product : Stmt := top 27
theorem sc_product : FnScope ["one", "other", "tops", "below", "other_tops", "other_below", "number"] ["one", "other"] (defScope s_product) := ⟨rfl, rfl, rfl, by decide +kernel, rfl, by decide +kernel, by decide +kernel⟩
abbrev s_law_pen : Stmt := top 29
theorem sc_law_pen : FnScope ["_law_script", "_law_fold", "_law_cell"] ["_law_script"] (defScope s_law_pen) := ⟨rfl, rfl, rfl, by decide +kernel, rfl, by decide +kernel, by decide +kernel⟩
abbrev s_law_draw : Stmt := top 30
theorem sc_law_draw : FnScope ["_law_pen_here", "_law_many", "_law_cell", "_law_digit", "_law_mixed"] ["_law_pen_here", "_law_many"] (defScope s_law_draw) := ⟨rfl, rfl, rfl, by decide +kernel, rfl, by decide +kernel, by decide +kernel⟩
abbrev s_law_pick : Stmt := top 31
theorem sc_law_pick : FnScope ["_law_pen_here", "_law_some"] ["_law_pen_here", "_law_some"] (defScope s_law_pick) := ⟨rfl, rfl, rfl, by decide +kernel, rfl, by decide +kernel, by decide +kernel⟩
abbrev s_law_gcd : Stmt := top 32
theorem sc_law_gcd : FnScope ["_law_one", "_law_two", "_law_lap"] ["_law_one", "_law_two"] (defScope s_law_gcd) := ⟨rfl, rfl, rfl, by decide +kernel, rfl, by decide +kernel, by decide +kernel⟩
abbrev s_law_q : Stmt := top 33
theorem sc_law_q : FnScope ["_law_top", "_law_bottom", "_law_by"] ["_law_top", "_law_bottom"] (defScope s_law_q) := ⟨rfl, rfl, rfl, by decide +kernel, rfl, by decide +kernel, by decide +kernel⟩
abbrev s_law_plus : Stmt := top 34
theorem sc_law_plus : FnScope ["_law_one", "_law_two"] ["_law_one", "_law_two"] (defScope s_law_plus) := ⟨rfl, rfl, rfl, by decide +kernel, rfl, by decide +kernel, by decide +kernel⟩
abbrev s_law_times : Stmt := top 35
theorem sc_law_times : FnScope ["_law_one", "_law_two"] ["_law_one", "_law_two"] (defScope s_law_times) := ⟨rfl, rfl, rfl, by decide +kernel, rfl, by decide +kernel, by decide +kernel⟩
abbrev s_law_passed : Stmt := top 36
theorem sc_law_passed : FnScope ["_law_pen_here", "_law_ratio_here", "_law_by"] ["_law_pen_here", "_law_ratio_here"] (defScope s_law_passed) := ⟨rfl, rfl, rfl, by decide +kernel, rfl, by decide +kernel, by decide +kernel⟩
abbrev s_law_ratio : Stmt := top 37
theorem sc_law_ratio : FnScope ["_law_pen_here", "_law_most", "_law_bottom"] ["_law_pen_here", "_law_most"] (defScope s_law_ratio) := ⟨rfl, rfl, rfl, by decide +kernel, rfl, by decide +kernel, by decide +kernel⟩
abbrev s_law_poly : Stmt := top 38
theorem sc_law_poly : FnScope ["_law_numbers", "_law_found", "_law_lap"] ["_law_numbers"] (defScope s_law_poly) := ⟨rfl, rfl, rfl, by decide +kernel, rfl, by decide +kernel, by decide +kernel⟩
abbrev s_law_p_plus : Stmt := top 39
theorem sc_law_p_plus : FnScope ["_law_one", "_law_two", "_law_many", "_law_first", "_law_second", "_law_a", "_law_b"] ["_law_one", "_law_two"] (defScope s_law_p_plus) := ⟨rfl, rfl, rfl, by decide +kernel, rfl, by decide +kernel, by decide +kernel⟩
abbrev s_law_p_scaled : Stmt := top 40
theorem sc_law_p_scaled : FnScope ["_law_one", "_law_by", "_law_a"] ["_law_one", "_law_by"] (defScope s_law_p_scaled) := ⟨rfl, rfl, rfl, by decide +kernel, rfl, by decide +kernel, by decide +kernel⟩
abbrev s_law_p_minus : Stmt := top 41
theorem sc_law_p_minus : FnScope ["_law_one", "_law_two"] ["_law_one", "_law_two"] (defScope s_law_p_minus) := ⟨rfl, rfl, rfl, by decide +kernel, rfl, by decide +kernel, by decide +kernel⟩
abbrev s_law_p_times : Stmt := top 42
theorem sc_law_p_times : FnScope ["_law_one", "_law_two", "_law_found", "_law_i", "_law_k"] ["_law_one", "_law_two"] (defScope s_law_p_times) := ⟨rfl, rfl, rfl, by decide +kernel, rfl, by decide +kernel, by decide +kernel⟩
abbrev s_law_p_at : Stmt := top 43
theorem sc_law_p_at : FnScope ["_law_one", "_law_point", "_law_total", "_law_number"] ["_law_one", "_law_point"] (defScope s_law_p_at) := ⟨rfl, rfl, rfl, by decide +kernel, rfl, by decide +kernel, by decide +kernel⟩
abbrev s_law_p_slope : Stmt := top 44
theorem sc_law_p_slope : FnScope ["_law_one", "_law_k"] ["_law_one"] (defScope s_law_p_slope) := ⟨rfl, rfl, rfl, by decide +kernel, rfl, by decide +kernel, by decide +kernel⟩
abbrev s_law_made_poly : Stmt := top 45
theorem sc_law_made_poly : FnScope ["_law_pen_here", "_law_one", "_law_numbers", "_law_number"] ["_law_pen_here", "_law_one"] (defScope s_law_made_poly) := ⟨rfl, rfl, rfl, by decide +kernel, rfl, by decide +kernel, by decide +kernel⟩
abbrev s_law_drawn : Stmt := top 46
theorem sc_law_drawn : FnScope ["_law_pen_here", "_law_degree", "_law_most", "_law_k"] ["_law_pen_here", "_law_degree", "_law_most"] (defScope s_law_drawn) := ⟨rfl, rfl, rfl, by decide +kernel, rfl, by decide +kernel, by decide +kernel⟩
abbrev s_law_why : Stmt := top 47
theorem sc_law_why : FnScope ["_law_call", "e"] ["_law_call"] (defScope s_law_why) := ⟨rfl, rfl, rfl, by decide +kernel, rfl, by decide +kernel, by decide +kernel⟩
abbrev s_law_any : Stmt := top 48
theorem sc_law_any : FnScope ["_law_pen_here", "_law_some"] ["_law_pen_here"] (defScope s_law_any) := ⟨rfl, rfl, rfl, by decide +kernel, rfl, by decide +kernel, by decide +kernel⟩
abbrev s_law_far : Stmt := top 49
theorem sc_law_far : FnScope ["_law_pen_here", "_law_found", "_law_k"] ["_law_pen_here"] (defScope s_law_far) := ⟨rfl, rfl, rfl, by decide +kernel, rfl, by decide +kernel, by decide +kernel⟩
abbrev s_law_some_ratio : Stmt := top 50
theorem sc_law_some_ratio : FnScope ["_law_pen_here"] ["_law_pen_here"] (defScope s_law_some_ratio) := ⟨rfl, rfl, rfl, by decide +kernel, rfl, by decide +kernel, by decide +kernel⟩
abbrev s_law_made_right : Stmt := top 51
theorem sc_law_made_right : FnScope ["_law_pen_here", "_law_numbers", "_law_k", "_law_given", "_law_due", "_law_number", "_law_lists", "_law_kept", "_law_made", "_law_other", "_law_odd", "_law_strange"] ["_law_pen_here"] (defScope s_law_made_right) := ⟨rfl, rfl, rfl, by decide +kernel, rfl, by decide +kernel, by decide +kernel⟩
abbrev slaw : Stmt := top 52
theorem sclaw : FnScope ["_law_script", "_law_pen_here", "_law_lap", "_law_one", "_law_two", "_law_a", "_law_b", "_law_by", "_law_passed_here", "_law_flat", "_law_point", "_law_odd"] ["_law_script"] (defScope slaw) := ⟨rfl, rfl, rfl, by decide +kernel, rfl, by decide +kernel, by decide +kernel⟩
/-! ### the pen -/
abbrev kCe : Key := Sum.inr ("cells" : Str)
abbrev kAt : Key := Sum.inr ("at" : Str)
abbrev kDi : Key := Sum.inr ("digits" : Str)
abbrev kCo : Key := Sum.inr ("count" : Str)
abbrev kFo : Key := Sum.inr ("fold" : Str)
def penK (c : Addr) (a d n f : Int) : List (Key × V) := [(kCe, .ref c), (kAt, .int a), (kDi, .int d), (kCo, .int n), (kFo, .int f)]
theorem sneCeAt : ¬ (("cells" : Str) = "at") := by decide +kernel
theorem neCeAt : ¬ (kCe = kAt) := by decide +kernel
theorem sneCeDi : ¬ (("cells" : Str) = "digits") := by decide +kernel
theorem neCeDi : ¬ (kCe = kDi) := by decide +kernel
theorem sneCeCo : ¬ (("cells" : Str) = "count") := by decide +kernel
theorem neCeCo : ¬ (kCe = kCo) := by decide +kernel
theorem sneCeFo : ¬ (("cells" : Str) = "fold") := by decide +kernel
theorem neCeFo : ¬ (kCe = kFo) := by decide +kernel
theorem sneAtCe : ¬ (("at" : Str) = "cells") := by decide +kernel
theorem neAtCe : ¬ (kAt = kCe) := by decide +kernel
theorem sneAtDi : ¬ (("at" : Str) = "digits") := by decide +kernel
theorem neAtDi : ¬ (kAt = kDi) := by decide +kernel
theorem sneAtCo : ¬ (("at" : Str) = "count") := by decide +kernel
theorem neAtCo : ¬ (kAt = kCo) := by decide +kernel
theorem sneAtFo : ¬ (("at" : Str) = "fold") := by decide +kernel
theorem neAtFo : ¬ (kAt = kFo) := by decide +kernel
theorem sneDiCe : ¬ (("digits" : Str) = "cells") := by decide +kernel
theorem neDiCe : ¬ (kDi = kCe) := by decide +kernel
theorem sneDiAt : ¬ (("digits" : Str) = "at") := by decide +kernel
theorem neDiAt : ¬ (kDi = kAt) := by decide +kernel
theorem sneDiCo : ¬ (("digits" : Str) = "count") := by decide +kernel
theorem neDiCo : ¬ (kDi = kCo) := by decide +kernel
theorem sneDiFo : ¬ (("digits" : Str) = "fold") := by decide +kernel
theorem neDiFo : ¬ (kDi = kFo) := by decide +kernel
theorem sneCoCe : ¬ (("count" : Str) = "cells") := by decide +kernel
theorem neCoCe : ¬ (kCo = kCe) := by decide +kernel
theorem sneCoAt : ¬ (("count" : Str) = "at") := by decide +kernel
theorem neCoAt : ¬ (kCo = kAt) := by decide +kernel
theorem sneCoDi : ¬ (("count" : Str) = "digits") := by decide +kernel
theorem neCoDi : ¬ (kCo = kDi) := by decide +kernel
theorem sneCoFo : ¬ (("count" : Str) = "fold") := by decide +kernel
theorem neCoFo : ¬ (kCo = kFo) := by decide +kernel
theorem sneFoCe : ¬ (("fold" : Str) = "cells") := by decide +kernel
theorem neFoCe : ¬ (kFo = kCe) := by decide +kernel
theorem sneFoAt : ¬ (("fold" : Str) = "at") := by decide +kernel
theorem neFoAt : ¬ (kFo = kAt) := by decide +kernel
theorem sneFoDi : ¬ (("fold" : Str) = "digits") := by decide +kernel
theorem neFoDi : ¬ (kFo = kDi) := by decide +kernel
theorem sneFoCo : ¬ (("fold" : Str) = "count") := by decide +kernel
theorem neFoCo : ¬ (kFo = kCo) := by decide +kernel
theorem pen_cells {c : Addr} {a d n f : Int} : valV (penK c a d n f) kCe = some (.ref c) := by
  unfold penK
  rw [valV_pos rfl]
theorem pen_at {c : Addr} {a d n f : Int} : valV (penK c a d n f) kAt = some (.int a) := by
  unfold penK
  rw [valV_neg neCeAt, valV_pos rfl]
theorem pen_digits {c : Addr} {a d n f : Int} : valV (penK c a d n f) kDi = some (.int d) := by
  unfold penK
  rw [valV_neg neCeDi, valV_neg neAtDi, valV_pos rfl]
theorem pen_count {c : Addr} {a d n f : Int} : valV (penK c a d n f) kCo = some (.int n) := by
  unfold penK
  rw [valV_neg neCeCo, valV_neg neAtCo, valV_neg neDiCo, valV_pos rfl]
theorem pen_fold {c : Addr} {a d n f : Int} : valV (penK c a d n f) kFo = some (.int f) := by
  unfold penK
  rw [valV_neg neCeFo, valV_neg neAtFo, valV_neg neDiFo, valV_neg neCoFo, valV_pos rfl]
theorem put_at {c : Addr} {a d n f x : Int} : putK (penK c a d n f) kAt (.int x) = penK c x d n f := by
  simp [putK, penK, sneCeAt, sneDiAt, sneCoAt, sneFoAt]
theorem put_digits {c : Addr} {a d n f x : Int} : putK (penK c a d n f) kDi (.int x) = penK c a x n f := by
  simp [putK, penK, sneCeDi, sneAtDi, sneCoDi, sneFoDi]
theorem put_count {c : Addr} {a d n f x : Int} : putK (penK c a d n f) kCo (.int x) = penK c a d x f := by
  simp [putK, penK, sneCeCo, sneAtCo, sneDiCo, sneFoCo]
theorem put_fold {c : Addr} {a d n f x : Int} : putK (penK c a d n f) kFo (.int x) = penK c a d n x := by
  simp [putK, penK, sneCeFo, sneAtFo, sneDiFo, sneCoFo]
theorem merge_pen {c : Addr} {f : Int} : mergeK [] (penK c 0 0 0 f) = penK c 0 0 0 f := by
  simp [mergeK, putK, penK, sneCeAt, sneCeDi, sneCeCo, sneCeFo, sneAtDi, sneAtCo, sneAtFo, sneDiCo, sneDiFo, sneCoFo]
/-- a pen stands at p: at most m draws were made -/
def PenAt (H : Hp) (p c : Addr) (m : Nat) : Prop := ∃ (a d n f : Int) (ns : List Int), H p = some (.dK (penK c a d n f)) ∧ H c = some (.lst (ns.map V.int)) ∧
  0 ≤ a ∧ a ≤ ns.length ∧ 0 ≤ d ∧ 0 ≤ n ∧ n ≤ m ∧ 0 ≤ f ∧ f < 2147483587
theorem PenAt.le {H : Hp} {p c : Addr} {m m' : Nat} (h : PenAt H p c m) (l : m ≤ m') : PenAt H p c m' := by
  obtain ⟨a, d, n, f, ns, h1, h2, h3, h4, h5, h6, h7, h8⟩ := h
  exact ⟨a, d, n, f, ns, h1, h2, h3, h4, h5, h6, by omega, h8⟩
/-- all that stood stands, but what the pen's own dict holds -/
def But (p : Addr) (H H' : Hp) : Prop := ∀ b o, H b = some o → b ≠ p → H' b = some o
theorem But.refl {p : Addr} {H : Hp} : But p H H := fun _ _ h _ => h
theorem But.trans {p : Addr} {H H1 H2 : Hp} (a : But p H H1) (b : But p H1 H2) : But p H H2 := fun c o h n => b c o (a c o h n) n
theorem But.of {p : Addr} {H H' : Hp} (a : Same H H') : But p H H' := fun b o h _ => a b o h
/-- a list of its own may change -/
theorem PenAt.off {H H' : Hp} {p c : Addr} {m : Nat} (h : PenAt H p c m) (s1 : ∀ o, H p = some o → H' p = some o) (s2 : ∀ o, H c = some o → H' c = some o) : PenAt H' p c m := by
  obtain ⟨a, d, n, f, ns, h1, h2, h3⟩ := h
  exact ⟨a, d, n, f, ns, s1 _ h1, s2 _ h2, h3⟩
theorem Same.new {H : Hp} {p : Addr} {o : HO} (h : H p = none) : Same H (upd H p o) := fun b u e => by
  rw [upd_ne (ne_of_none e h)]
  exact e
theorem PenAt.same {H H' : Hp} {p c : Addr} {m : Nat} (h : PenAt H p c m) (s : Same H H') : PenAt H' p c m := by
  obtain ⟨a, d, n, f, ns, h1, h2, h3⟩ := h
  exact ⟨a, d, n, f, ns, s _ _ h1, s _ _ h2, h3⟩

/-! ### what they promise -/
def spPen (K : PySem.W.Frag) : Sp := fun vs H Q _ => ∃ (a : Addr) (ns : List Int), vs = [.ref a] ∧ SqL K H a (ns.map V.int) ∧ ns.length ≤ 63 ∧ ∀ (p c : Addr) (H' : Hp), Same H H' → PenAt H' p c 0 → Q (.ref p) H'
/-- the number of draws that may have been made -/
def most : Nat := 1000000000
def spDraw : Sp := fun vs H Q _ => ∃ (p c : Addr) (many : Int) (m : Nat), vs = [.ref p, .int many] ∧ PenAt H p c m ∧ m < most ∧ 0 < many ∧ many < 1000000000 ∧
  ∀ (r : Int) (H' : Hp), 0 ≤ r → r < many → But p H H' → PenAt H' p c (m + 1) → Q (.int r) H'

structure Txt (K : PySem.W.Frag) (mg : Str → Option Value) : Prop where
  int : mg "int" = none
  bool : mg "bool" = none
  list : mg "list" = none
  tuple : mg "tuple" = none
  len : mg "len" = none
  range : mg "range" = none
  isinstance : mg "isinstance" = none
  repr : mg "repr" = none
  abs : mg "abs" = none
  all : mg "all" = none
  reversed : mg "reversed" = none
  max : mg "max" = none
  min : mg "min" = none
  sum : mg "sum" = none
  enumerate : mg "enumerate" = none
  zip : mg "zip" = none
  NotImplemented : mg "NotImplemented" = none
  gcd : mg "gcd" = some (.builtin "math.gcd")
  lcm : mg "lcm" = some (.builtin "math.lcm")
  is_ratio : Df K mg "is_ratio" sis_ratio ["value"]
  told : Df K mg "told" stold ["value", "what"]
  plus : Df K mg "plus" splus ["one", "other"]
  times : Df K mg "times" stimes ["one", "other"]
  is_integer : Df K mg "is_integer" sis_integer ["value"]
  _parts : Df K mg "_parts" s_parts ["value", "what"]
  _lowest : Df K mg "_lowest" s_lowest ["top", "bottom"]
  is_row : Df K mg "is_row" sis_row ["value"]
  is_strict_ratio : Df K mg "is_strict_ratio" sis_strict_ratio ["value"]
  bottom_of : Df K mg "bottom_of" sbottom_of ["pairs"]
  whole_row : Df K mg "whole_row" swhole_row ["pairs"]
  top_power : Df K mg "top_power" stop_power ["tops"]
  row_product : Df K mg "row_product" srow_product ["one", "other"]
  _beside : Df K mg "_beside" s_beside ["value"]
  _number : Df K mg "_number" s_number ["poly", "power"]
  _sum : Df K mg "_sum" s_sum ["one", "other"]
  _product : Df K mg "_product" s_product ["one", "other"]
  _law_pen : Df K mg "_law_pen" s_law_pen ["_law_script"]
  _law_draw : Df K mg "_law_draw" s_law_draw ["_law_pen_here", "_law_many"]
  _law_pick : Df K mg "_law_pick" s_law_pick ["_law_pen_here", "_law_some"]
  _law_gcd : Df K mg "_law_gcd" s_law_gcd ["_law_one", "_law_two"]
  _law_q : Df K mg "_law_q" s_law_q ["_law_top", "_law_bottom"]
  _law_plus : Df K mg "_law_plus" s_law_plus ["_law_one", "_law_two"]
  _law_times : Df K mg "_law_times" s_law_times ["_law_one", "_law_two"]
  _law_passed : Df K mg "_law_passed" s_law_passed ["_law_pen_here", "_law_ratio_here"]
  _law_ratio : Df K mg "_law_ratio" s_law_ratio ["_law_pen_here", "_law_most"]
  _law_poly : Df K mg "_law_poly" s_law_poly ["_law_numbers"]
  _law_p_plus : Df K mg "_law_p_plus" s_law_p_plus ["_law_one", "_law_two"]
  _law_p_scaled : Df K mg "_law_p_scaled" s_law_p_scaled ["_law_one", "_law_by"]
  _law_p_minus : Df K mg "_law_p_minus" s_law_p_minus ["_law_one", "_law_two"]
  _law_p_times : Df K mg "_law_p_times" s_law_p_times ["_law_one", "_law_two"]
  _law_p_at : Df K mg "_law_p_at" s_law_p_at ["_law_one", "_law_point"]
  _law_p_slope : Df K mg "_law_p_slope" s_law_p_slope ["_law_one"]
  _law_made_poly : Df K mg "_law_made_poly" s_law_made_poly ["_law_pen_here", "_law_one"]
  _law_drawn : Df K mg "_law_drawn" s_law_drawn ["_law_pen_here", "_law_degree", "_law_most"]
  _law_why : Df K mg "_law_why" s_law_why ["_law_call"]
  _law_any : Df K mg "_law_any" s_law_any ["_law_pen_here"]
  _law_far : Df K mg "_law_far" s_law_far ["_law_pen_here"]
  _law_some_ratio : Df K mg "_law_some_ratio" s_law_some_ratio ["_law_pen_here"]
  _law_made_right : Df K mg "_law_made_right" s_law_made_right ["_law_pen_here"]
  law : Df K mg "law" slaw ["_law_script"]
  BadText : ClI K mg "BadText" "BadText.__init__" (inClass (top 3) 0) ["self", "column"] ["column"]
  BadNumber : ClI K mg "BadNumber" "BadNumber.__init__" (inClass (top 4) 0) ["self", "what", "number"] ["what", "number"]
  BadRow : ClI K mg "BadRow" "BadRow.__init__" (inClass (top 5) 0) ["self", "row"] ["row"]
  xBadNumberBadText : PySem.W.exmOne K (.ref (fA mg "BadNumber")) (.ref (fA mg "BadText")) = some false
  xBadNumberBadNumber : PySem.W.exmOne K (.ref (fA mg "BadNumber")) (.ref (fA mg "BadNumber")) = some true
  xBadRowBadText : PySem.W.exmOne K (.ref (fA mg "BadRow")) (.ref (fA mg "BadText")) = some false
  xBadRowBadNumber : PySem.W.exmOne K (.ref (fA mg "BadRow")) (.ref (fA mg "BadNumber")) = some false
  xBadRowBadRow : PySem.W.exmOne K (.ref (fA mg "BadRow")) (.ref (fA mg "BadRow")) = some true
  lb : ∀ (s : PySem.Shared) (u : PySem.Value), BindsTo s (fDat K (fA mg "law")) ⟨[u], []⟩ [("_law_script", u)]
section
variable {P : Program} {w : World} {K : PySem.W.Frag} {mg : Str → Option Value} {base : Heap}
theorem scI_BadNumber : FnScope ["self", "what", "number"] ["self", "what", "number"] (defScope (inClass (top 4) 0)) := ⟨rfl, rfl, rfl, by decide +kernel, rfl, by decide +kernel, by decide +kernel⟩
theorem init_BadNumber (T : Txt K mg) : FnOk P w K mg base CX0 1 (iA K (fA mg "BadNumber")) (fDat K (iA K (fA mg "BadNumber"))) ["self", "what", "number"] (spI2 (fA mg "BadNumber") "what" "number") := by
  refine T.BadNumber.F.ok scI_BadNumber (fun vs H Q E h => ?_) (fun cdv A outer s H vs Q E hr h => ?_)
  · obtain ⟨a, v, u, rfl, _⟩ := h
    rfl
  · obtain ⟨a, v, u, rfl, ha, k⟩ := h
    refine ⟨_, pss_cons (ps_ost (pv 0) (pv 1)) (pss_one (ps_ost (pv 0) (pv 2))), s_ost1 T.BadNumber.o (T.BadNumber.n _ (by simp)) ha rfl rfl fun dx hd ne => ?_⟩
    exact s_ost2 T.BadNumber.o (T.BadNumber.n _ (by simp)) upd_same (by rw [upd_ne ne, upd_same]) rfl rfl (k dx hd ne)

/-! ### kinds of values -/
def kinds : List String := ["int", "bool", "str", "NoneType", "dict", "list", "tuple"]
theorem kit_int {n : String} (h : n ∈ kinds) : PySem.W.kitOne K (.type n) (.type "int") = some (decide (n = "int") || decide (n = "bool")) := by
  simp only [kinds, List.mem_cons, List.not_mem_nil, or_false] at h
  rcases h with rfl | rfl | rfl | rfl | rfl | rfl | rfl <;> exact kit_ty (by decide +kernel)
theorem kit_bool {n : String} (h : n ∈ kinds) : PySem.W.kitOne K (.type n) (.type "bool") = some (decide (n = "bool")) := by
  simp only [kinds, List.mem_cons, List.not_mem_nil, or_false] at h
  rcases h with rfl | rfl | rfl | rfl | rfl | rfl | rfl <;> exact kit_ty (by decide +kernel)
theorem kit_tuple {n : String} (h : n ∈ kinds) : PySem.W.kitOne K (.type n) (.type "tuple") = some (decide (n = "tuple")) := by
  simp only [kinds, List.mem_cons, List.not_mem_nil, or_false] at h
  rcases h with rfl | rfl | rfl | rfl | rfl | rfl | rfl <;> exact kit_ty (by decide +kernel)
theorem kit_list {n : String} (h : n ∈ kinds) : PySem.W.kitOne K (.type n) (.type "list") = some (decide (n = "list")) := by
  simp only [kinds, List.mem_cons, List.not_mem_nil, or_false] at h
  rcases h with rfl | rfl | rfl | rfl | rfl | rfl | rfl <;> exact kit_ty (by decide +kernel)
theorem kit_seq {n : String} (h : n ∈ kinds) : PySem.W.kitAny K (.type n) [.type "tuple", .type "list"] = some (decide (n = "tuple") || decide (n = "list")) := by
  refine kitAny_cons (kit_tuple h) (fun e => ?_) (fun e => by rw [e]; rfl)
  rw [e]
  exact kitAny_cons (kit_list h) (fun e2 => by rw [e2]; rfl) (fun e2 => by rw [e2]; rfl)
/-- a value's kind, by its name -/
inductive Is (H : Hp) : V → String → Prop
  | int (i : Int) : Is H (.int i) "int"
  | bl (b : Bool) : Is H (.bl b) "bool"
  | str (x : Str) : Is H (.str x) "str"
  | non : Is H .non "NoneType"
  | lst {a : Addr} {xs : List V} (e : H a = some (.lst xs)) : Is H (.ref a) "list"
  | tup {a : Addr} {xs : List V} (e : H a = some (.tup xs)) : Is H (.ref a) "tuple"
  | dic {a : Addr} {kvs : List (Key × V)} (e : H a = some (.dK kvs)) : Is H (.ref a) "dict"
theorem Is.ty {K : PySem.W.Frag} {H : Hp} {v : V} {n : String} (h : Is H v n) : TyX K H v (.type n) ∧ n ∈ kinds := by
  cases h with
  | int i => exact ⟨.base (.int i), by decide⟩
  | bl b => exact ⟨.base (.bl b), by decide⟩
  | str x => exact ⟨.base (.str x), by decide⟩
  | non => exact ⟨.base .non, by decide⟩
  | lst e => exact ⟨.base (.lst e), by decide⟩
  | tup e => exact ⟨.base (.tup e), by decide⟩
  | dic e => exact ⟨.base (.dK e), by decide⟩
theorem Is.same {H H' : Hp} {v : V} {n : String} (h : Is H v n) (s : Same H H') : Is H' v n := by
  cases h with
  | int i => exact .int i
  | bl b => exact .bl b
  | str x => exact .str x
  | non => exact .non
  | lst e => exact .lst (s _ _ e)
  | tup e => exact .tup (s _ _ e)
  | dic e => exact .dic (s _ _ e)
theorem v_isi {σ : L2.St} {H : Hp} {te : TE} {v : V} {n c : String} {b : Bool} (h : Val te σ H v) (ty : TyX K H v (.type n)) (k : PySem.W.kitOne K (.type n) (.type c) = some b) :
    Val (tCB (rIsi K) (tCons te (tCons (tC (.ty c)) tNil))) σ H (.bl b) := v_cb (va_cons h (va_cons val_c va_nil)) fun Q q => ⟨v, _, _, _, b, rfl, .ty c, ty, k, q⟩
def spInt : Sp := fun vs H Q _ => ∃ (v : V) (n : String), vs = [v] ∧ Is H v n ∧ Q (.bl (decide (n = "int"))) H
theorem ok_is_integer (T : Txt K mg) : FnOk P w K mg base CX0 1 (fA mg "is_integer") (fDat K (fA mg "is_integer")) ["value"] spInt := by
  refine T.is_integer.F.ok scis_integer (fun vs H Q E h => ?_) (fun cdv A outer s H vs Q E hr h => ?_)
  · obtain ⟨v, n, rfl, _⟩ := h
    rfl
  · obtain ⟨v, n, rfl, is, k⟩ := h
    obtain ⟨ty, hn⟩ := is.ty (K := K)
    refine ⟨_, (pss_one (ps_ret (pe_and (pe_callB call_isi (by rfl) T.isinstance (by decide +kernel) (pa_cons (pv 0) (pa_cons (pe_bltn (v := .ty "int") (by rfl) T.int (by decide +kernel) rfl) pa_nil))) (pe_one (pe_not (pe_callB call_isi (by rfl) T.isinstance (by decide +kernel) (pa_cons (pv 0) (pa_cons (pe_bltn (v := .ty "bool") (by rfl) T.bool (by decide +kernel) rfl) pa_nil)))))))), ?_⟩
    refine r_ret ?_
    refine (v_isi (val_var rfl) ty (kit_int hn)) _ ?_
    refine ⟨_, rfl, ?_⟩
    by_cases h1 : n = "int"
    · subst h1
      refine iteT ?_
      refine (v_isi (val_var rfl) ty (kit_bool hn)) _ ?_
      exact ⟨_, rfl, k⟩
    · by_cases h2 : n = "bool"
      · subst h2
        refine iteT ?_
        refine (v_isi (val_var rfl) ty (kit_bool hn)) _ ?_
        exact ⟨_, rfl, k⟩
      · have e : (decide (n = "int") || decide (n = "bool")) = false := by simp [h1, h2]
        rw [e]
        refine iteF ?_
        rw [decide_eq_false h1] at k
        exact k

/-! ### is_ratio -/
/-- a list or a tuple stands at a -/
def Sq (H : Hp) (a : Addr) (xs : List V) : Prop := H a = some (.lst xs) ∨ H a = some (.tup xs)
theorem Sq.same {H H' : Hp} {a : Addr} {xs : List V} (h : Sq H a xs) (s : Same H H') : Sq H' a xs := h.elim (fun z => .inl (s _ _ z)) fun z => .inr (s _ _ z)
theorem Sq.is {H : Hp} {a : Addr} {xs : List V} (h : Sq H a xs) : ∃ n, Is H (.ref a) n ∧ (n = "list" ∨ n = "tuple") := by
  rcases h with h | h
  · exact ⟨"list", .lst h, .inl rfl⟩
  · exact ⟨"tuple", .tup h, .inr rfl⟩
theorem Sq.sq {K : PySem.W.Frag} {H : Hp} {a : Addr} {xs : List V} (h : Sq H a xs) : SqL K H a xs ∨ SqT K H a xs := h.elim (fun z => .inl (SqL.of z)) fun z => .inr (SqT.of z)
theorem v_ixS {K : PySem.W.Frag} {σ : L2.St} {H : Hp} {te tb : TE} {a : Addr} {xs : List V} {n : Nat} {v : V} (h : Val te σ H (.ref a)) (hi : Val tb σ H (.int (n : Int))) (hx : Sq H a xs) (he : xs[n]? = some v) : Val (tOp (rIx K) te tb) σ H v :=
  val_op h hi fun Q q => hx.elim (fun z => .inl ⟨a, xs, n, v, rfl, rfl, SqL.of z, atI_nat he, q⟩) fun z => .inr (.inl ⟨a, xs, n, v, rfl, rfl, SqT.of z, atI_nat he, q⟩)
/-- what is_ratio answers -/
inductive RatQ (H : Hp) : V → Bool → Prop
  | int (i : Int) : RatQ H (.int i) true
  | odd {v : V} {n : String} (h : Is H v n) (o : n = "bool" ∨ n = "str" ∨ n = "NoneType" ∨ n = "dict") : RatQ H v false
  | len {a : Addr} {xs : List V} (h : Sq H a xs) (l : xs.length ≠ 2) : RatQ H (.ref a) false
  | fst {a : Addr} {x y : V} {n : String} (h : Sq H a [x, y]) (hx : Is H x n) (o : n ≠ "int") : RatQ H (.ref a) false
  | snd {a : Addr} {i : Int} {y : V} {n : String} (h : Sq H a [.int i, y]) (hx : Is H y n) (o : n ≠ "int") : RatQ H (.ref a) false
  | pair {a : Addr} {i j : Int} (h : Sq H a [.int i, .int j]) : RatQ H (.ref a) (decide (0 < j))
theorem RatQ.same {H H' : Hp} {v : V} {b : Bool} (h : RatQ H v b) (s : Same H H') : RatQ H' v b := by
  cases h with
  | int i => exact .int i
  | odd h o => exact .odd (h.same s) o
  | len h l => exact .len (h.same s) l
  | fst h hx o => exact .fst (h.same s) (hx.same s) o
  | snd h hx o => exact .snd (h.same s) (hx.same s) o
  | pair h => exact .pair (h.same s)
def spRat : Sp := fun vs H Q _ => ∃ (v : V) (b : Bool), vs = [v] ∧ RatQ H v b ∧ ∀ H', Same H H' → Q (.bl b) H'
/-- if not t: .. -/
theorem q_ifNot {σ : L2.St} {H : Hp} {t : TT} {t1 tz : TS} {D : Ends} (h : t σ H fun c H1 => if (!c) = true then t1 { D with nx := tz D } σ H1 else tz D σ H1) : tSeq (tIfS (tNot t) t1 tNext) tz D σ H := h
/-- if not t or u: .. -/
theorem q_ifOrNot {σ : L2.St} {H : Hp} {t u : TT} {t1 tz : TS} {D : Ends} (h : t σ H fun c H1 => if (!c) = true then (if true = true then t1 { D with nx := tz D } σ H1 else tz D σ H1) else
    u σ H1 fun b H2 => if b = true then t1 { D with nx := tz D } σ H2 else tz D σ H2) : tSeq (tIfS (tOr (tNot t) u) t1 tNext) tz D σ H := h
theorem ok_is_ratio (T : Txt K mg) : FnOk P w K mg base CX0 3 (fA mg "is_ratio") (fDat K (fA mg "is_ratio")) ["value"] spRat := by
  have Gis_integer := ok_is_integer (P := P) (w := w) (base := base) T
  refine T.is_ratio.F.ok scis_ratio (fun vs H Q E h => ?_) (fun cdv A outer s H vs Q E hr h => ?_)
  · obtain ⟨v, b, rfl, _⟩ := h
    rfl
  · obtain ⟨v, b, rfl, hR, k⟩ := h
    refine ⟨_, (pss_cons (ps_if (pt_val (pe_c T.is_integer Gis_integer (hr.mono (by decide)) (pa_cons (pv 0) pa_nil))) (pss_one (ps_ret pe_bl)) pss_nil)
  (pss_cons (ps_if (PW.pt (pw_or (pt_not (pt_val (pe_callB call_isiT (by rfl) T.isinstance (by decide +kernel) (pa_cons (pv 0) (pa_cons (pe_tup (pa_cons (pe_bltn (v := .ty "tuple") (by rfl) T.tuple (by decide +kernel) rfl) (pa_cons (pe_bltn (v := .ty "list") (by rfl) T.list (by decide +kernel) rfl) pa_nil))) pa_nil))))) (pw_or1 (pt_cmpR op_ne (pe_callB call_len_seq (by rfl) T.len PySem.boot_len (pa_cons (pv 0) pa_nil)) pe_int (nomark _))))) (pss_one (ps_ret pe_bl)) pss_nil)
  (pss_one (ps_ret (pe_and (pe_c T.is_integer Gis_integer (hr.mono (by decide)) (pa_cons (pe_ix ix_seq (pv 0) pe_int (fun _ _ => rfl)) pa_nil)) (pe_and (pe_c T.is_integer Gis_integer (hr.mono (by decide)) (pa_cons (pe_ix ix_seq (pv 0) pe_int (fun _ _ => rfl)) pa_nil)) (pe_one (pe_cmpR op_gt (pe_ix ix_seq (pv 0) pe_int (fun _ _ => rfl)) pe_int (nomark _))))))))), ?_⟩
    have whole : ∀ {te : TE} {σ : L2.St} {H1 : Hp} {v : V} {n : String}, Val te σ H1 v → Is H1 v n → Val (tCall spInt [] E0 (tCons te tNil)) σ H1 (.bl (decide (n = "int"))) := fun h i Q q => c_call (va_cons h va_nil) ⟨_, _, rfl, i, q⟩
    have no : ∀ {n : String}, n ≠ "int" → decide (n = "int") = false := fun h => decide_eq_false h
    -- isinstance(value, (tuple, list)): a new tuple of both
    have both : ∀ {H1 : Hp} {v : V} {n : String} {Q : Bool → Hp → Prop}, Is H1 v n → (∀ H2, Same H1 H2 → Q (decide (n = "tuple") || decide (n = "list")) H2) →
        tB (tCB (rIsiT K) (tCons (tVar 0) (tCons (tTup (tCons (tC (.ty "tuple")) (tCons (tC (.ty "list")) tNil))) tNil))) [some v] H1 Q := fun {H1 v n Q} i q =>
      ⟨v, rfl, ⟨by show 2 ≤ sizeLine; decide, fun p hp => ⟨v, p, [.ty "tuple", .ty "list"], _, [.type "tuple", .type "list"], _, rfl, upd_same, .cons (.ty _) (.cons (.ty _) .nil), (i.same (Same.new' hp)).ty.1, kit_seq (i.ty (K := K)).2, _, rfl, q _ (Same.new' hp)⟩⟩⟩
    have notI : ∀ {a : Addr} {xs : List V}, Sq H a xs → ∃ n, Is H (.ref a) n ∧ n ≠ "int" ∧ (decide (n = "tuple") || decide (n = "list")) = true := fun {a xs} h => by
      obtain ⟨n, i, o⟩ := h.is
      exact ⟨n, i, by rcases o with rfl | rfl <;> decide, by rcases o with rfl | rfl <;> decide⟩
    have lenOf : ∀ {a : Addr} {xs : List V} {H2 : Hp}, Sq H2 a xs → Val (tCB (fun xs H Q => ∃ p ys, xs = [.ref p] ∧ (SqL K H p ys ∨ SqT K H p ys) ∧ Q (.int ys.length) H) (tCons (tVar 0) tNil)) [some (.ref a)] H2 (.int (xs.length : Int)) := fun h => v_len (val_var rfl) h.sq
    have two : ∀ {a : Addr} {x y : V} {H2 : Hp} {j : Nat} {v : V}, Sq H2 a [x, y] → [x, y][j]? = some v → Val (tOp (rIx K) (tVar 0) (tC (.int (j : Int)))) [some (.ref a)] H2 v := fun h e => v_ixS (val_var rfl) val_c h e
    cases hR with
    | int i => exact q_when (b := true) (ans_val (whole (val_var rfl) (.int i))) (fun _ => st_ret val_c (k H (Same.refl H))) (fun z => nomatch z)
    | @odd _ n h o =>
      have ni : n ≠ "int" := by rcases o with rfl | rfl | rfl | rfl <;> decide
      have ns : (decide (n = "tuple") || decide (n = "list")) = false := by rcases o with rfl | rfl | rfl | rfl <;> decide
      refine q_unless (Ans.to (ans_val (whole (val_var rfl) h)) (no ni)) ?_
      refine q_ifOrNot (both h fun H2 s2 => ?_)
      rw [ns]
      exact iteT (iteT (st_ret val_c (k H2 s2)))
    | @len a xs h l =>
      obtain ⟨n, i, ni, ns⟩ := notI h
      refine q_unless (Ans.to (ans_val (whole (val_var rfl) i)) (no ni)) ?_
      refine q_ifOrNot (both i fun H2 s2 => ?_)
      rw [ns]
      refine iteF ?_
      refine (ans_ne (lenOf (h.same s2)) val_c rfl (b := true) (by simp; omega)) _ ?_
      exact iteT (st_ret val_c (k H2 s2))
    | @fst a x y n h hx o =>
      obtain ⟨m, i, ni, ns⟩ := notI h
      refine q_unless (Ans.to (ans_val (whole (val_var rfl) i)) (no ni)) ?_
      refine q_ifOrNot (both i fun H2 s2 => ?_)
      rw [ns]
      refine iteF ?_
      refine (ans_ne (lenOf (h.same s2)) val_c rfl (b := false) (by simp)) _ ?_
      refine iteF ?_
      refine r_ret ?_
      refine (whole (two (j := 0) (h.same s2) rfl) (hx.same s2)) _ ⟨_, rfl, ?_⟩
      rw [no o]
      exact iteF (k H2 s2)
    | @snd a i y n h hx o =>
      obtain ⟨m, j, ni, ns⟩ := notI h
      refine q_unless (Ans.to (ans_val (whole (val_var rfl) j)) (no ni)) ?_
      refine q_ifOrNot (both j fun H2 s2 => ?_)
      rw [ns]
      refine iteF ?_
      refine (ans_ne (lenOf (h.same s2)) val_c rfl (b := false) (by simp)) _ ?_
      refine iteF ?_
      refine r_ret ?_
      refine (whole (two (j := 0) (h.same s2) rfl) (.int i)) _ ⟨_, rfl, ?_⟩
      refine iteT ?_
      refine (whole (two (j := 1) (h.same s2) rfl) (hx.same s2)) _ ⟨_, rfl, ?_⟩
      rw [no o]
      exact iteF (k H2 s2)
    | @pair a i j h =>
      obtain ⟨m, i2, ni, ns⟩ := notI h
      refine q_unless (Ans.to (ans_val (whole (val_var rfl) i2)) (no ni)) ?_
      refine q_ifOrNot (both i2 fun H2 s2 => ?_)
      rw [ns]
      refine iteF ?_
      refine (ans_ne (lenOf (h.same s2)) val_c rfl (b := false) (by simp)) _ ?_
      refine iteF ?_
      refine r_ret ?_
      refine (whole (two (j := 0) (h.same s2) rfl) (.int i)) _ ⟨_, rfl, ?_⟩
      refine iteT ?_
      refine (whole (two (j := 1) (h.same s2) rfl) (.int j)) _ ⟨_, rfl, ?_⟩
      refine iteT ?_
      refine (two (j := 1) (h.same s2) rfl) _ ?_
      exact ⟨_, _, rfl, rfl, k H2 s2⟩

/-! ### the parts of a ratio -/
inductive Rt (H : Hp) : V → Int → Int → Prop
  | int (i : Int) : Rt H (.int i) i 1
  | pair {a : Addr} {i j : Int} (h : Sq H a [.int i, .int j]) (p : 0 < j) : Rt H (.ref a) i j
theorem Rt.same {H H' : Hp} {v : V} {i j : Int} (h : Rt H v i j) (s : Same H H') : Rt H' v i j := by
  cases h with
  | int i => exact .int i
  | pair h p => exact .pair (h.same s) p
theorem Rt.pos {H : Hp} {v : V} {i j : Int} (h : Rt H v i j) : 0 < j := by
  cases h with
  | int i => decide
  | pair h p => exact p
theorem Rt.yes {H : Hp} {v : V} {i j : Int} (h : Rt H v i j) : RatQ H v true := by
  cases h with
  | int i => exact .int i
  | pair h p =>
    have q := RatQ.pair h
    rw [decide_eq_true p] at q
    exact q
/-- BadNumber(what, number) leaves -/
def Bad (mg : Str → Option Value) (H : Hp) (wh v : V) (E : XK) : Prop := ∀ (d : Addr) (H' : Hp), Same H H' → H d = none → H' d = some (.xd [("number", v), ("what", wh)]) → E (.ref (fA mg "BadNumber")) (some d) H'
theorem Bad.from {mg : Str → Option Value} {H H' : Hp} {wh v : V} {E : XK} (b : Bad mg H wh v E) (s : Same H H') : Bad mg H' wh v E := fun d H2 s2 n e => b d H2 (s.trans s2) (s.free n) e
theorem x_made2 {σ : L2.St} {H : Hp} {ta : TA} {C : Addr} {f g : Str} {v u : V} {Q : XK} (h : VA ta σ H [v, u]) (k : ∀ d H', Same H H' → H d = none → H' d = some (.xd [(g, u), (f, v)]) → Q (.ref C) (some d) H') : tMkO C (spI2 C f g) [] ta σ H Q :=
  h _ ⟨by show 2 ≤ 1000; decide, fun a ha => ⟨a, v, u, rfl, upd_same, fun dx hd ne => by
    rw [upd_ne ne] at hd
    refine ⟨rfl, dx, _, by rw [upd_ne (Ne.symm ne), upd_same], upd_same, hd, k dx _ (fun b o e => ?_) hd upd_same⟩
    have hb : b ≠ a := ne_of_none e ha
    have hb2 : b ≠ dx := ne_of_none e hd
    rw [upd_ne hb2, del_ne hb, upd_ne hb2, upd_ne hb, upd_ne hb2, upd_ne hb]
    exact e⟩⟩
def spParts (mg : Str → Option Value) : Sp := fun vs H Q E => ∃ (v wh : V), vs = [v, wh] ∧ ((∃ i j, Rt H v i j ∧ ∀ (p : Addr) (H' : Hp), Same H H' → H' p = some (.tup [.int i, .int j]) → Q (.ref p) H') ∨ (RatQ H v false ∧ Bad mg H wh v E))
theorem ok_parts (T : Txt K mg) : FnOk P w K mg base (L2.CX P w) 5 (fA mg "_parts") (fDat K (fA mg "_parts")) ["value", "what"] (spParts mg) := by
  have Gis_ratio := ok_is_ratio (P := P) (w := w) (base := base) T
  have Gi_BadNumber := init_BadNumber (P := P) (w := w) (base := base) T
  refine T._parts.F.okX sc_parts (fun vs H Q E h => ?_) (fun cdv A outer s H vs Q E hr h => ?_)
  · obtain ⟨v, wh, rfl, _⟩ := h
    rfl
  · obtain ⟨v, wh, rfl, h⟩ := h
    refine ⟨_, (pss_cons (ps_if (pt_not (pt_val (pe_c T.is_ratio Gis_ratio (hr.mono (by decide)) (pa_cons (pv 0) pa_nil)))) (pss_one (ps_raise rfl (takes_of rfl rfl rfl rfl) (pmk_oex T.BadNumber.o T.BadNumber.i T.BadNumber.t Gi_BadNumber (hr.mono (by decide)) T.BadNumber.b .nil pass0 (by rfl) T.BadNumber.g (pa_cons (pv 1) (pa_cons (pv 0) pa_nil))))) pss_nil)
  (pss_cons (ps_if (pt_val (pe_callB call_isi (by rfl) T.isinstance (by decide +kernel) (pa_cons (pv 0) (pa_cons (pe_bltn (v := .ty "int") (by rfl) T.int (by decide +kernel) rfl) pa_nil)))) (pss_one (ps_ret (pe_tup (pa_cons (pv 0) (pa_cons pe_int pa_nil))))) pss_nil)
  (pss_one (ps_ret (pe_tup (pa_cons (pe_ix ix_seq (pv 0) pe_int (fun _ _ => rfl)) (pa_cons (pe_ix ix_seq (pv 0) pe_int (fun _ _ => rfl)) pa_nil))))))), ?_⟩
    have rat : ∀ {b : Bool} {X : Bool → Hp → Prop}, RatQ H v b → (∀ H', Same H H' → X b H') → (tB (tCall spRat [] E0 (tCons (tVar 0) tNil))) [some v, some wh] H X := fun r k =>
      c_call (va_cons (val_var rfl) va_nil) ⟨_, _, rfl, r, fun H' s => ⟨_, rfl, k H' s⟩⟩
    rcases h with ⟨i, j, r, k⟩ | ⟨r, k⟩
    · refine q_ifNot (rat r.yes fun H1 s1 => ?_)
      refine iteF ?_
      have r1 := r.same s1
      cases r1 with
      | int i =>
        obtain ⟨ty, hn⟩ := (Is.int (H := H1) i).ty (K := K)
        refine q_when (b := true) (ans_val (v_isi (val_var rfl) ty (kit_int hn))) (fun _ => ?_) (fun z => nomatch z)
        exact r_ret (te := tTup _) ((va_cons (val_var rfl) (va_cons val_c va_nil)) _ ⟨by show 2 ≤ sizeLine; decide, fun p hp => k p _ (s1.trans (Same.new' hp)) upd_same⟩)
      | @pair a i j h p =>
        obtain ⟨n, is, o⟩ := h.is
        have e : (decide (n = "int") || decide (n = "bool")) = false := by rcases o with rfl | rfl <;> decide
        obtain ⟨ty, hn⟩ := is.ty (K := K)
        have z := v_isi (K := K) (σ := [some (.ref a), some wh]) (te := tVar 0) (val_var rfl) ty (kit_int hn)
        rw [e] at z
        refine q_unless (ans_val z) ?_
        exact r_ret (te := tTup _) ((va_cons (v_ixS (n := 0) (val_var rfl) val_c h rfl) (va_cons (v_ixS (n := 1) (val_var rfl) val_c h rfl) va_nil)) _ ⟨by show 2 ≤ sizeLine; decide, fun p hp => k p _ (s1.trans (Same.new' hp)) upd_same⟩)
    · refine q_ifNot (rat r fun H1 s1 => ?_)
      exact iteT (x_made2 (va_cons (val_var rfl) (va_cons (val_var rfl) va_nil)) fun d H' s n e => k d H' (s1.trans s) (s1.free n) e)

theorem op_fdivS {X : Cx} : OpR X (binaryOp .FloorDiv) (rI (fun _ j => j ≠ 0 ∧ j.natAbs.log2 < 9000) fun i j => .int (i.fdiv j)) := opI fun _ _ _ _ _ _ _ hc q => floordiv_int hc.1 q (.inl (PyProof.noPylong_of_log2 hc.2))
/-! ### lowest terms -/
def gI (i j : Int) : Int := ((Nat.gcd i.natAbs j.natAbs : Nat) : Int)
theorem gI_pos {i j : Int} (h : 0 < j) : 0 < gI i j := by
  have : 0 < Nat.gcd i.natAbs j.natAbs := Nat.gcd_pos_of_pos_right _ (by omega)
  unfold gI
  omega
theorem gI_le {i j : Int} (h : 0 < j) : gI i j ≤ j := by
  have : Nat.gcd i.natAbs j.natAbs ≤ j.natAbs := Nat.le_of_dvd (by omega) (Nat.gcd_dvd_right _ _)
  unfold gI
  omega
def wd : Nat := 4000
def spLow : Sp := fun vs H Q _ => ∃ i j : Int, vs = [.int i, .int j] ∧ 0 < j ∧ j.natAbs < 2 ^ wd ∧ ∀ (p : Addr) (H' : Hp), Same H H' → H' p = some (.tup [.int (i / gI i j), .int (j / gI i j)]) → Q (.ref p) H'
theorem ok_lowest (T : Txt K mg) : FnOk P w K mg base CX0 1 (fA mg "_lowest") (fDat K (fA mg "_lowest")) ["top", "bottom"] spLow := by
  refine T._lowest.F.ok sc_lowest (fun vs H Q E h => ?_) (fun cdv A outer s H vs Q E hr h => ?_)
  · obtain ⟨i, j, rfl, _⟩ := h
    rfl
  · obtain ⟨i, j, rfl, hj, hb, k⟩ := h
    refine ⟨_, (pss_cons (ps_set (i := 2) sc_lowest.nd rfl (Or.inl rfl) (pe_callBfun cr_gcd (by rfl) T.gcd (pa_cons (pv 0) (pa_cons (pv 1) pa_nil))))
  (pss_one (ps_ret (pe_tup (pa_cons (pe_op op_fdivW (pv 0) (pv 2)) (pa_cons (pe_op op_fdivW (pv 1) (pv 2)) pa_nil)))))), ?_⟩
    have hd : CDivW i (gI i j) ∧ CDivW j (gI i j) := by
      have h := wide_div (i := i) (gI_pos (i := i) hj) (b := wd) (wide_le (Int.le_of_lt (gI_pos hj)) (gI_le hj) hb) (by decide) (by decide)
      exact ⟨h, h⟩
    refine q_set (v := .int (gI i j)) (v_cb (va_cons (val_var rfl) (va_cons (val_var rfl) va_nil)) fun Q q => ⟨i, j, rfl, q⟩) ?_
    exact r_ret (te := tTup _) ((va_cons (v_div (val_var rfl) (val_var rfl) hd.1) (va_cons (v_div (val_var rfl) (val_var rfl) hd.2) va_nil)) _ ⟨by show 2 ≤ sizeLine; decide, fun p hp => k p _ (Same.new' hp) upd_same⟩)
/-- a ratio of any terms below 2 ^ 1000, and its parts -/
def Fit (i j : Int) : Prop := i.natAbs < 2 ^ 1000 ∧ j.natAbs < 2 ^ 1000
theorem fit_mul {i j : Int} (h : i.natAbs < 2 ^ 1000) (g : j.natAbs < 2 ^ 1000) : CMulW i j := wide_mul h g (by decide) (by decide) (by decide)
theorem fit_lt {i j : Int} (h : i.natAbs < 2 ^ 1000) (g : j.natAbs < 2 ^ 1000) : (i * j).natAbs < 2 ^ wd := Nat.lt_of_lt_of_le (wide_lt h g) (Nat.pow_le_pow_right (by decide) (by decide))
theorem fit_add {i j : Int} (h : i.natAbs < 2 ^ (1000 + 1000)) (g : j.natAbs < 2 ^ (1000 + 1000)) : (i + j).natAbs < 2 ^ wd := by
  have e : 2 ^ (1000 + 1000) + 2 ^ (1000 + 1000) = 2 ^ (1000 + 1000 + 1) := by rw [Nat.pow_succ (n := 2) (m := 1000 + 1000)]; exact (Nat.mul_two _).symm
  have l : 2 ^ (1000 + 1000 + 1) ≤ 2 ^ wd := Nat.pow_le_pow_right (by decide) (by decide)
  exact Nat.lt_of_lt_of_le (Nat.lt_of_le_of_lt (Int.natAbs_add_le i j) (Nat.add_lt_add h g)) (Nat.le_trans (Nat.le_of_eq e) l)
theorem fit_sub {i j : Int} (h : i.natAbs < 2 ^ (1000 + 1000)) (g : j.natAbs < 2 ^ (1000 + 1000)) : (i - j).natAbs < 2 ^ wd := by
  rw [Int.sub_eq_add_neg]
  exact fit_add h (by rw [Int.natAbs_neg]; exact g)
theorem q_parts {mg : Str → Option Value} {K : PySem.W.Frag} {σ : L2.St} {H : Hp} {E : XK} {ta : TA} {v wh : V} {a b : Int} {i j n : Nat} {tz : TS} {D : Ends} (hn : n = 2) (h : VA ta σ H [v, wh]) (r : Rt H v a b)
    (q : ∀ H', Same H H' → tz D ((σ.set i (some (.int a))).set j (some (.int b))) H') : tSeq (tAsg (tCall (spParts mg) [] E ta) (gTup K n (gCons (gName i) (gCons (gName j) gNil)))) tz D σ H := by
  subst hn
  exact (show tAsg _ _ _ _ _ from c_call h ⟨v, wh, rfl, .inl ⟨a, b, r, fun p H' s e => g_two (SqT.of e) (q H' s)⟩⟩)
theorem q_partsX {mg : Str → Option Value} {σ : L2.St} {H : Hp} {E : XK} {ta : TA} {v wh : V} {g : TG} {tz : TS} {D : Ends} (h : VA ta σ H [v, wh]) (r : RatQ H v false) (b : Bad mg H wh v E) :
    tSeq (tAsg (tCall (spParts mg) [] E ta) g) tz D σ H := (show tAsg _ _ _ _ _ from c_call h ⟨v, wh, rfl, .inr ⟨r, b⟩⟩)

def sp_plus (mg : Str → Option Value) : Sp := fun vs H Q E => ∃ (v u : V), vs = [v, u] ∧ ((∃ i j k l, Rt H v i j ∧ Rt H u k l ∧ Fit i j ∧ Fit k l ∧ ∀ (p : Addr) (H' : Hp), Same H H' → H' p = some (.tup [.int ((i * l + k * j) / gI (i * l + k * j) (j * l)), .int ((j * l) / gI (i * l + k * j) (j * l))]) → Q (.ref p) H') ∨
  (RatQ H v false ∧ Bad mg H (.str "ratio") v E) ∨ (∃ i j, Rt H v i j ∧ RatQ H u false ∧ Bad mg H (.str "ratio") u E))
theorem ok_plus (T : Txt K mg) : FnOk P w K mg base (L2.CX P w) 6 (fA mg "plus") (fDat K (fA mg "plus")) ["one", "other"] (sp_plus mg) := by
  have G_parts := ok_parts (P := P) (w := w) (base := base) T
  have G_lowest := ok_lowest (P := P) (w := w) (base := base) T
  have Gi_BadNumber := init_BadNumber (P := P) (w := w) (base := base) T
  refine T.plus.F.okX scplus (fun vs H Q E h => ?_) (fun cdv A outer s H vs Q E hr h => ?_)
  · obtain ⟨v, u, rfl, _⟩ := h
    rfl
  · obtain ⟨v, u, rfl, h⟩ := h
    refine ⟨_, (pss_cons (ps_asg (pe_call G_parts (hr.mono (by decide)) (by rfl) T._parts.g T._parts.F.kp T._parts.b .nil (passes_call (takes_of rfl rfl rfl rfl) (fun _ _ _ _ h => h)) (pa_cons (pv 0) (pa_cons pe_str pa_nil))) (pg_tup rfl (pgs_cons (pg_name (i := 2) scplus.nd rfl (Or.inl rfl)) (pgs_cons (pg_name (i := 3) scplus.nd rfl (Or.inl rfl)) pgs_nil))))
  (pss_cons (ps_asg (pe_call G_parts (hr.mono (by decide)) (by rfl) T._parts.g T._parts.F.kp T._parts.b .nil (passes_call (takes_of rfl rfl rfl rfl) (fun _ _ _ _ h => h)) (pa_cons (pv 1) (pa_cons pe_str pa_nil))) (pg_tup rfl (pgs_cons (pg_name (i := 4) scplus.nd rfl (Or.inl rfl)) (pgs_cons (pg_name (i := 5) scplus.nd rfl (Or.inl rfl)) pgs_nil))))
  (pss_one (ps_ret (pe_c T._lowest G_lowest (hr.mono (by decide)) (pa_cons (pe_op op_add (pe_op op_mulW (pv 2) (pv 5)) (pe_op op_mulW (pv 4) (pv 3))) (pa_cons (pe_op op_mulW (pv 3) (pv 5)) pa_nil))))))), ?_⟩
    rcases h with ⟨i, j, k, l, r, t, ⟨fi, fj⟩, ⟨fk, fl⟩, q⟩ | ⟨r, b⟩ | ⟨i, j, r, t, b⟩
    · refine q_parts rfl (va_cons (val_var rfl) (va_cons val_c va_nil)) r fun H1 s1 => ?_
      refine q_parts rfl (va_cons (val_var rfl) (va_cons val_c va_nil)) (t.same s1) fun H2 s2 => ?_
      exact r_ret (te := tCall _ _ _ _) (c_call (va_cons (v_add (v_mul (val_var rfl) (val_var rfl) (fit_mul fi fl)) (v_mul (val_var rfl) (val_var rfl) (fit_mul fk fj))) (va_cons (v_mul (val_var rfl) (val_var rfl) (fit_mul fj fl)) va_nil)) ⟨_, _, rfl, Int.mul_pos r.pos t.pos, fit_lt fj fl, fun p H' s e => q p H' ((s1.trans s2).trans s) e⟩)
    · exact q_partsX (va_cons (val_var rfl) (va_cons val_c va_nil)) r b
    · refine q_parts rfl (va_cons (val_var rfl) (va_cons val_c va_nil)) r fun H1 s1 => ?_
      exact q_partsX (va_cons (val_var rfl) (va_cons val_c va_nil)) (t.same s1) (b.from s1)

def sp_times (mg : Str → Option Value) : Sp := fun vs H Q E => ∃ (v u : V), vs = [v, u] ∧ ((∃ i j k l, Rt H v i j ∧ Rt H u k l ∧ Fit i j ∧ Fit k l ∧ ∀ (p : Addr) (H' : Hp), Same H H' → H' p = some (.tup [.int ((i * k) / gI (i * k) (j * l)), .int ((j * l) / gI (i * k) (j * l))]) → Q (.ref p) H') ∨
  (RatQ H v false ∧ Bad mg H (.str "ratio") v E) ∨ (∃ i j, Rt H v i j ∧ RatQ H u false ∧ Bad mg H (.str "ratio") u E))
theorem ok_times (T : Txt K mg) : FnOk P w K mg base (L2.CX P w) 6 (fA mg "times") (fDat K (fA mg "times")) ["one", "other"] (sp_times mg) := by
  have G_parts := ok_parts (P := P) (w := w) (base := base) T
  have G_lowest := ok_lowest (P := P) (w := w) (base := base) T
  have Gi_BadNumber := init_BadNumber (P := P) (w := w) (base := base) T
  refine T.times.F.okX sctimes (fun vs H Q E h => ?_) (fun cdv A outer s H vs Q E hr h => ?_)
  · obtain ⟨v, u, rfl, _⟩ := h
    rfl
  · obtain ⟨v, u, rfl, h⟩ := h
    refine ⟨_, (pss_cons (ps_asg (pe_call G_parts (hr.mono (by decide)) (by rfl) T._parts.g T._parts.F.kp T._parts.b .nil (passes_call (takes_of rfl rfl rfl rfl) (fun _ _ _ _ h => h)) (pa_cons (pv 0) (pa_cons pe_str pa_nil))) (pg_tup rfl (pgs_cons (pg_name (i := 2) sctimes.nd rfl (Or.inl rfl)) (pgs_cons (pg_name (i := 3) sctimes.nd rfl (Or.inl rfl)) pgs_nil))))
  (pss_cons (ps_asg (pe_call G_parts (hr.mono (by decide)) (by rfl) T._parts.g T._parts.F.kp T._parts.b .nil (passes_call (takes_of rfl rfl rfl rfl) (fun _ _ _ _ h => h)) (pa_cons (pv 1) (pa_cons pe_str pa_nil))) (pg_tup rfl (pgs_cons (pg_name (i := 4) sctimes.nd rfl (Or.inl rfl)) (pgs_cons (pg_name (i := 5) sctimes.nd rfl (Or.inl rfl)) pgs_nil))))
  (pss_one (ps_ret (pe_c T._lowest G_lowest (hr.mono (by decide)) (pa_cons (pe_op op_mulW (pv 2) (pv 4)) (pa_cons (pe_op op_mulW (pv 3) (pv 5)) pa_nil))))))), ?_⟩
    rcases h with ⟨i, j, k, l, r, t, ⟨fi, fj⟩, ⟨fk, fl⟩, q⟩ | ⟨r, b⟩ | ⟨i, j, r, t, b⟩
    · refine q_parts rfl (va_cons (val_var rfl) (va_cons val_c va_nil)) r fun H1 s1 => ?_
      refine q_parts rfl (va_cons (val_var rfl) (va_cons val_c va_nil)) (t.same s1) fun H2 s2 => ?_
      exact r_ret (te := tCall _ _ _ _) (c_call (va_cons (v_mul (val_var rfl) (val_var rfl) (fit_mul fi fk)) (va_cons (v_mul (val_var rfl) (val_var rfl) (fit_mul fj fl)) va_nil)) ⟨_, _, rfl, Int.mul_pos r.pos t.pos, fit_lt fj fl, fun p H' s e => q p H' ((s1.trans s2).trans s) e⟩)
    · exact q_partsX (va_cons (val_var rfl) (va_cons val_c va_nil)) r b
    · refine q_parts rfl (va_cons (val_var rfl) (va_cons val_c va_nil)) r fun H1 s1 => ?_
      exact q_partsX (va_cons (val_var rfl) (va_cons val_c va_nil)) (t.same s1) (b.from s1)

def sp_told (mg : Str → Option Value) : Sp := fun vs H Q E => ∃ (v wh : V), vs = [v, wh] ∧ ((∃ i j, Rt H v i j ∧ Fit i j ∧ ∀ (p : Addr) (H' : Hp), Same H H' → H' p = some (.tup [.int ((i) / gI (i) (j)), .int ((j) / gI (i) (j))]) → Q (.ref p) H') ∨ (RatQ H v false ∧ Bad mg H wh v E))
theorem ok_told (T : Txt K mg) : FnOk P w K mg base (L2.CX P w) 6 (fA mg "told") (fDat K (fA mg "told")) ["value", "what"] (sp_told mg) := by
  have G_parts := ok_parts (P := P) (w := w) (base := base) T
  have G_lowest := ok_lowest (P := P) (w := w) (base := base) T
  refine T.told.F.okX sctold (fun vs H Q E h => ?_) (fun cdv A outer s H vs Q E hr h => ?_)
  · obtain ⟨v, u, rfl, _⟩ := h
    rfl
  · obtain ⟨v, u, rfl, h⟩ := h
    refine ⟨_, (pss_cons (ps_asg (pe_call G_parts (hr.mono (by decide)) (by rfl) T._parts.g T._parts.F.kp T._parts.b .nil (passes_call (takes_of rfl rfl rfl rfl) (fun _ _ _ _ h => h)) (pa_cons (pv 0) (pa_cons (pv 1) pa_nil))) (pg_tup rfl (pgs_cons (pg_name (i := 2) sctold.nd rfl (Or.inl rfl)) (pgs_cons (pg_name (i := 3) sctold.nd rfl (Or.inl rfl)) pgs_nil))))
  (pss_one (ps_ret (pe_c T._lowest G_lowest (hr.mono (by decide)) (pa_cons (pv 2) (pa_cons (pv 3) pa_nil)))))), ?_⟩
    rcases h with ⟨i, j, r, ⟨fi, fj⟩, q⟩ | ⟨r, b⟩
    · refine q_parts rfl (va_cons (val_var rfl) (va_cons (val_var rfl) va_nil)) r fun H1 s1 => ?_
      exact r_ret (te := tCall _ _ _ _) (c_call (va_cons (val_var rfl) (va_cons (val_var rfl) va_nil)) ⟨_, _, rfl, r.pos, Nat.lt_of_lt_of_le fj (Nat.pow_le_pow_right (by decide) (by decide)), fun p H' s e => q p H' (s1.trans s) e⟩)
    · exact q_partsX (va_cons (val_var rfl) (va_cons (val_var rfl) va_nil)) r b
theorem q_told {mg : Str → Option Value} {K : PySem.W.Frag} {σ : L2.St} {H : Hp} {E : XK} {ta : TA} {v wh : V} {a b : Int} {i j n : Nat} {tz : TS} {D : Ends} (hn : n = 2) (h : VA ta σ H [v, wh]) (r : Rt H v a b) (f : Fit a b)
    (q : ∀ H', Same H H' → tz D ((σ.set i (some (.int (a / gI a b)))).set j (some (.int (b / gI a b)))) H') : tSeq (tAsg (tCall (sp_told mg) [] E ta) (gTup K n (gCons (gName i) (gCons (gName j) gNil)))) tz D σ H := by
  subst hn
  exact (show tAsg _ _ _ _ _ from c_call h ⟨v, wh, rfl, .inl ⟨a, b, r, f, fun p H' s e => g_two (SqT.of e) (q H' s)⟩⟩)
theorem q_toldX {mg : Str → Option Value} {σ : L2.St} {H : Hp} {E : XK} {ta : TA} {v wh : V} {g : TG} {tz : TS} {D : Ends} (h : VA ta σ H [v, wh]) (r : RatQ H v false) (b : Bad mg H wh v E) :
    tSeq (tAsg (tCall (sp_told mg) [] E ta) g) tz D σ H := (show tAsg _ _ _ _ _ from c_call h ⟨v, wh, rfl, .inr ⟨r, b⟩⟩)

theorem q_while0 {t : TT} {tb tz : TS} {D : Ends} {σ : L2.St} {H : Hp} (h : Ans t σ H false) (q : tz D σ H) : tSeq (tWhile t tb) tz D σ H :=
  ⟨fun _ σ' H' => σ' = σ ∧ H' = H, ⟨0, rfl, rfl⟩, fun m σ' H' ⟨e1, e2⟩ => by
    subst e1 e2
    exact h _ (iteF q)⟩
theorem q_app0 {to te : TE} {tz : TS} {D : Ends} {σ : L2.St} {H : Hp} {l : Addr} {xs : List V} (h : Val to σ H (.ref l)) (hl : H l = some (.lst xs)) (he : te σ H fun v H1 => rAppend (.ref l) [v] H1 fun _ H2 => tz D σ H2) :
    tSeq (tDrop (tBM K "list" rAppend to (tCons te tNil))) tz D σ H := s_appC (D := { D with nx := tz D }) h hl he
theorem op_l {r : R2} {ta tb : TE} {σ : L2.St} {H : Hp} {Q : VK} {x : V} (h : Val ta σ H x) (k : tb σ H fun y H1 => r x y H1 Q) : tOp r ta tb σ H Q := h _ k
theorem v_tif {t : TT} {x y z : V} {σ : L2.St} {H : Hp} {b : Bool} (h : Ans t σ H b) (e : (if b = true then x else y) = z) : Val (tIf t (tC x) (tC y)) σ H z := fun Q q => h _ (by
  subst e
  cases b <;> exact q)
theorem ok_pen {f : Addr} {fd : FuncData} (F : Fun K "_law_pen" "_law_pen" s_law_pen f fd) (T : Txt K mg) : FnOk P w K mg base CX0 1 f fd ["_law_script"] (spPen K) := by
  refine F.ok sc_law_pen (fun vs H Q E h => ?_) (fun cdv A outer s H vs Q E hr h => ?_)
  · obtain ⟨a, ns, rfl, _⟩ := h
    rfl
  · obtain ⟨a, ns, rfl, hS, hl, k⟩ := h
    refine ⟨_, pss_cons (ps_set (i := 1) sc_law_pen.nd rfl (Or.inl rfl) pe_int)
      (pss_cons (ps_for PassesOwn.never rfl (pi_list (pv 0)) (pg_name (i := 2) sc_law_pen.nd rfl (Or.inl rfl))
        (pss_one (ps_set (i := 1) sc_law_pen.nd rfl (Or.inl rfl) (pe_op op_mod (pe_callTy call_int1 (by rfl) T.int (by decide +kernel) (pa_cons (pe_op op_add (pe_op op_mul (pv 1) pe_int) (pv 2)) pa_nil)) pe_int))))
      (pss_one (ps_ret (pe_disp (pps_cons pe_str (pe_callTy call_list_of (by rfl) T.list (by decide +kernel) (pa_cons (pv 0) pa_nil)) (pps_cons pe_str pe_int (pps_cons pe_str pe_int (pps_cons pe_str pe_int (pps_cons pe_str (pv 1) pps_nil))))) (by rfl) (by rfl) (fun z => by cases z) (by decide))))), ?_⟩
    refine ⟨_, rfl, a, rfl, ⟨_, hS⟩, for_list (K := K) (a := a) (xs := ns.map V.int) (fun i σ H' => ∃ (v : Int) (c : Option V), σ = [some (.ref a), some (.int v), c] ∧ H' = H ∧ 0 ≤ v ∧ v < 1000000007)
      ⟨0, none, rfl, rfl, by decide, by decide⟩ (fun i σ H' _ ⟨_, _, _, e, _⟩ => e ▸ hS) ?_ ?_⟩
    · rintro i y σ H' hi ⟨v, c, rfl, rfl, h0, h1⟩
      obtain ⟨z, rfl⟩ : ∃ z, y = V.int z := by
        rw [List.getElem?_map] at hi
        cases e : ns[i]? with
        | none => rw [e] at hi; cases hi
        | some z => rw [e] at hi; exact ⟨z, (Option.some.inj hi).symm⟩
      refine ⟨_, rfl, _, _, rfl, rfl, .inl ⟨by omega, by omega⟩, _, rfl, _, _, rfl, rfl, .inl ⟨_, rfl, ?_⟩⟩
      refine ⟨_, _, rfl, rfl, (by show (0 : Int) < 1000000007; decide), ?_⟩
      exact ⟨_, _, rfl, rfl, Int.emod_nonneg _ (by decide), Int.emod_lt_of_pos _ (by decide)⟩
    · rintro σ H' ⟨v, c, rfl, rfl, h0, h1⟩
      intro p hp
      refine ⟨_, rfl, a, _, rfl, .inl (Same.seq (Same.new hp) hS), fun l hl' => ?_⟩
      refine ⟨_, rfl, ?_⟩
      have npl : p ≠ l := ne_of_none upd_same hl'
      refine ⟨by rw [upd_ne npl, upd_same], penK l 0 0 0 v, rfl, (by show 5 ≤ 15; decide), ?_⟩
      rw [merge_pen]
      have hl0 : H' l = none := (Same.new hp).free hl'
      refine k p l _ (fun b o e => ?_) ⟨0, 0, 0, v, ns, upd_same, ?_, by decide, by omega, by decide, by decide, by decide, h0, by omega⟩
      · rw [upd_ne (ne_of_none e hp), upd_ne (ne_of_none e hl0), upd_ne (ne_of_none e hp)]
        exact e
      · rw [upd_ne npl.symm, upd_same]
theorem ok_draw {f : Addr} {fd : FuncData} (F : Fun K "_law_draw" "_law_draw" s_law_draw f fd) (T : Txt K mg) : FnOk P w K mg base CX0 1 f fd ["_law_pen_here", "_law_many"] spDraw := by
  refine F.ok sc_law_draw (fun vs H Q E h => ?_) (fun cdv A outer s H vs Q E hr h => ?_)
  · obtain ⟨p, c, many, m, rfl, _⟩ := h
    rfl
  · obtain ⟨p, c, many, m, rfl, hP, hm, h0, h1, k⟩ := h
    have hu := hu_of hr
    refine ⟨_, pss_cons (ps_dput hu (pv 0) pe_str (pe_op op_add (pe_dget hu (pv 0) pe_str (fun _ _ => rfl)) pe_int) rfl)
      (C8.pss_cut (ps_if (PW.pt (pw_and (pt_cmpR op_eq (pe_dget hu (pv 0) pe_str (fun _ _ => rfl)) pe_int (nomark _))
          (pw_and1 (pt_cmpR op_lt (pe_dget hu (pv 0) pe_str (fun _ _ => rfl)) (pe_callB call_len_seq (by rfl) T.len PySem.boot_len (pa_cons (pe_dget hu (pv 0) pe_str (fun _ _ => rfl)) pa_nil)) (nomark _)))))
        (pss_cons (ps_set (i := 2) sc_law_draw.nd rfl (Or.inl rfl) (pe_ix ix_list (pe_dget hu (pv 0) pe_str (fun _ _ => rfl)) (pe_dget hu (pv 0) pe_str (fun _ _ => rfl)) (fun _ _ => rfl)))
        (pss_cons (ps_dput hu (pv 0) pe_str (pe_op op_add (pe_dget hu (pv 0) pe_str (fun _ _ => rfl)) pe_int) rfl)
        (pss_one (ps_if (pt_cmpR op_ge (pv 2) (pe_op op_pow pe_int pe_int) (nomark _))
          (pss_one (ps_dput hu (pv 0) pe_str (pe_op op_sub (pv 2) (pe_op op_pow pe_int pe_int)) rfl))
          (pss_one (ps_dput hu (pv 0) pe_str (pe_op op_mod (pe_callTy call_int1 (by rfl) T.int (by decide +kernel) (pa_cons (pe_op op_add (pe_op op_mul (pe_dget hu (pv 0) pe_str (fun _ _ => rfl)) pe_int) (pv 2)) pa_nil)) pe_int) rfl))))))
        pss_nil)
      (pss_cons (ps_if (pt_cmpR op_gt (pe_dget hu (pv 0) pe_str (fun _ _ => rfl)) pe_int (nomark _))
        (pss_cons (ps_set (i := 3) sc_law_draw.nd rfl (Or.inl rfl) (pe_op op_modN (pe_callTy call_int1 (by rfl) T.int (by decide +kernel) (pa_cons (pe_dget hu (pv 0) pe_str (fun _ _ => rfl)) pa_nil)) (pv 1)))
        (pss_cons (ps_dput hu (pv 0) pe_str (pe_op op_fdivN (pe_dget hu (pv 0) pe_str (fun _ _ => rfl)) (pv 1)) rfl)
        (pss_one (ps_ret (pv 3)))))
        pss_nil)
      (pss_cons (ps_set (i := 4) sc_law_draw.nd rfl (Or.inl rfl) (pe_op op_add (pe_op op_add (pe_dget hu (pv 0) pe_str (fun _ _ => rfl)) (pe_op op_mul (pe_dget hu (pv 0) pe_str (fun _ _ => rfl)) pe_int)) pe_int))
      (pss_one (ps_ret (pe_op op_modN (pe_op op_fdiv (pe_callTy call_int1 (by rfl) T.int (by decide +kernel) (pa_cons (pe_op op_mod (pe_op op_pow (pv 4) pe_int) pe_int) pa_nil)) pe_int) (pv 1))))))), ?_⟩
    obtain ⟨a, d, n, fo, ns, hp, hc, b1, b2, b3, b4, b5, b6, b7⟩ := hP
    have npc : c ≠ p := ne_of hc hp (by intro z; cases z)
    have get : ∀ {z1 z2 z3 : Option V} {H1 : Hp} {c : Addr} {a d n f : Int} {k : Key} {v : V}, H1 p = some (.dK (penK c a d n f)) → valV (penK c a d n f) k = some v →
      Val (tDGet (tVar 0) (tC (kV k))) [some (.ref p), some (.int many), z1, z2, z3] H1 v := fun h1 h2 => v_get (val_var rfl) h1 h2
    have pn : ∀ {H1 : Hp} {o : HO}, H1 c = some (.lst (ns.map V.int)) → upd H1 p o c = some (.lst (ns.map V.int)) := fun e => by rw [upd_ne npc]; exact e
    have bu : ∀ {H1 : Hp} {o : HO}, But p H H1 → But p H (upd H1 p o) := fun e b o h ne => by rw [upd_ne ne]; exact e b o h ne
    -- count
    refine s_put (k := kCo) (val_var rfl) (v_I0 (get (k := kCo) hp pen_count) val_c) hp (by show 5 ≤ 100; decide) ?_
    rw [put_count]
    have hp1 : upd H p (HO.dK (penK c a d (n + 1) fo)) p = some (.dK (penK c a d (n + 1) fo)) := upd_same
    have hc1 : upd H p (HO.dK (penK c a d (n + 1) fo)) c = some (.lst (ns.map V.int)) := pn hc
    have bt : But p H (upd H p (HO.dK (penK c a d (n + 1) fo))) := bu But.refl
    generalize upd H p (HO.dK (penK c a d (n + 1) fo)) = H1 at hp1 hc1 bt
    refine ⟨fun σ' H' => ∃ (a' d' f' : Int) (z : Option V), σ' = [some (.ref p), some (.int many), z, none, none] ∧ But p H H' ∧ H' p = some (.dK (penK c a' d' (n + 1) f')) ∧ H' c = some (.lst (ns.map V.int)) ∧
      0 ≤ a' ∧ a' ≤ ns.length ∧ 0 ≤ d' ∧ 0 ≤ f' ∧ f' < 2147483587, ?_, ?_⟩
    · -- a cell is taken
      refine st_if (b := decide (d = 0) && decide (a < ns.length)) (ans_and2 ((ans_eq (get (k := kDi) hp1 pen_digits) val_c rfl rfl).to (by simp)) ((a_I (get (k := kAt) hp1 pen_at) (v_len (get (k := kCe) hp1 pen_cells) (.inl (SqL.of hc1)))).to (by simp))) (fun e => ?_) (fun e => ?_)
      · have e1 : d = 0 ∧ a < ns.length := by simpa using e
        obtain ⟨i, rfl⟩ : ∃ i : Nat, a = i := ⟨a.toNat, by omega⟩
        have hi : i < ns.length := by omega
        refine st_set (v := .int ns[i]) (v_ixL (get (k := kCe) hp1 pen_cells) (get (k := kAt) hp1 pen_at) (SqL.of hc1) (by simp [hi])) ?_
        refine s_put (k := kAt) (val_var rfl) (v_I0 (get (k := kAt) hp1 pen_at) val_c) hp1 (by show 5 ≤ 100; decide) ?_
        rw [put_at]
        refine st_if (b := decide (ns[i] ≥ 10 ^ 18)) ((a_I (val_var rfl) (v_pow val_c val_c ⟨by decide, by decide, by decide⟩)).to ?_) (fun e2 => ?_) (fun e2 => ?_)
        · simp
        · refine s_put (k := kDi) (val_var rfl) (v_I0 (val_var rfl) (v_pow val_c val_c ⟨by decide, by decide, by decide⟩)) upd_same (by show 5 ≤ 100; decide) ?_
          rw [put_digits]
          exact ⟨_, _, _, _, rfl, bu (bu bt), upd_same, pn (pn hc1), by omega, by omega, by simp at e2; simp; omega, b6, b7⟩
        · refine s_put (k := kFo) (val_var rfl) (v_I (v_int1 (v_I0 (v_I (get (k := kFo) upd_same pen_fold) val_c (.inl ⟨by omega, by omega⟩)) (val_var rfl))) val_c (by decide)) upd_same (by show 5 ≤ 100; decide) ?_
          rw [put_fold]
          exact ⟨_, _, _, _, rfl, bu (bu bt), upd_same, pn (pn hc1), by omega, by omega, b3, Int.emod_nonneg _ (by decide), Int.emod_lt_of_pos _ (by decide)⟩
      · exact ⟨a, d, fo, none, rfl, bt, hp1, hc1, b1, b2, b3, b6, b7⟩
    · rintro σ' H' ⟨a', d', f', z, rfl, bt', hp', hc', g1, g2, g3, g4, g5⟩
      refine st_if (b := decide (0 < d')) ((a_I (get (k := kDi) hp' pen_digits) val_c).to (by simp)) (fun e => ?_) (fun e => ?_)
      · have e1 : 0 < d' := by simpa using e
        refine st_set (v_I (v_int1 (get (k := kDi) hp' pen_digits)) (val_var rfl) (by omega)) ?_
        refine s_put (k := kDi) (val_var rfl) (v_I (get (k := kDi) hp' pen_digits) (val_var rfl) ⟨by omega, by omega⟩) hp' (by show 5 ≤ 100; decide) ?_
        rw [put_digits]
        refine st_ret (val_var rfl) ?_
        refine k _ _ (Int.fmod_nonneg_of_pos _ h0) (Int.fmod_lt_of_pos _ h0) (bu bt') ⟨_, _, _, _, _, upd_same, pn hc', g1, g2, Int.fdiv_nonneg (by omega) (by omega), by omega, by omega, g4, g5⟩
      · refine st_set (v_add (v_add (get (k := kFo) hp' pen_fold) (v_mul (get (k := kCo) hp' pen_count) val_c (.inl ⟨by omega, by unfold most at hm; omega⟩))) val_c) ?_
        refine st_ret (v_fmod (v_div (v_int1 (v_mod (v_pow (val_var rfl) val_c ⟨by decide, by decide, by unfold most at hm; omega⟩) val_c (by decide))) val_c ⟨by decide, by decide⟩) (val_var rfl) (by omega)) ?_
        exact k _ _ (Int.fmod_nonneg_of_pos _ h0) (Int.fmod_lt_of_pos _ h0) bt' ⟨_, _, _, _, _, hp', hc', g1, g2, g3, by omega, by omega, g4, g5⟩
theorem But.seq {K : PySem.W.Frag} {H H' : Hp} {p q : Addr} {kvs : List (Key × V)} {xs : List V} (b : But p H H') (hp : H p = some (.dK kvs)) (h : SqL K H q xs) : SqL K H' q xs := by
  rcases h with (h | ⟨o, h⟩) | h
  · exact .inl (.inl (b _ _ h (ne_of h hp (by intro z; cases z))))
  · exact .inl (.inr ⟨o, b _ _ h (ne_of h hp (by intro z; cases z))⟩)
  · exact .inr h
theorem PenAt.dk {H : Hp} {p c : Addr} {m : Nat} (h : PenAt H p c m) : ∃ kvs, H p = some (.dK kvs) := by
  obtain ⟨a, d, n, f, ns, h1, _⟩ := h
  exact ⟨_, h1⟩
/-- one item of a list is drawn -/
def spPick (K : PySem.W.Frag) : Sp := fun vs H Q _ => ∃ (p c q : Addr) (xs : List V) (m : Nat), vs = [.ref p, .ref q] ∧ PenAt H p c m ∧ m < most ∧ SqL K H q xs ∧ 0 < xs.length ∧ xs.length < 1000000000 ∧
  ∀ (v : V) (H' : Hp), v ∈ xs → But p H H' → PenAt H' p c (m + 1) → Q v H'
theorem ok_pick (T : Txt K mg) : FnOk P w K mg base CX0 3 (fA mg "_law_pick") (fDat K (fA mg "_law_pick")) ["_law_pen_here", "_law_some"] (spPick K) := by
  have G_law_draw := ok_draw (P := P) (w := w) (base := base) T._law_draw.F T
  refine T._law_pick.F.ok sc_law_pick (fun vs H Q E h => ?_) (fun cdv A outer s H vs Q E hr h => ?_)
  · obtain ⟨p, c, q, xs, m, rfl, _⟩ := h
    rfl
  · obtain ⟨p, c, q, xs, m, rfl, hP, hm, hS, h0, h1, k⟩ := h
    refine ⟨_, (pss_one (ps_ret (pe_ix ix_list (pv 1) (pe_c T._law_draw G_law_draw (hr.mono (by decide)) (pa_cons (pv 0) (pa_cons (pe_callB call_len_seq (by rfl) T.len PySem.boot_len (pa_cons (pv 1) pa_nil)) pa_nil))) (fun _ _ => rfl)))), ?_⟩
    refine ⟨_, rfl, c_call (va_cons (val_var rfl) (va_cons (v_len (val_var rfl) (.inl hS)) va_nil)) ⟨p, c, _, m, rfl, hP, hm, by omega, by omega, fun r H' r0 r1 b P' => ?_⟩⟩
    obtain ⟨kvs, hd⟩ := hP.dk
    obtain ⟨i, rfl⟩ : ∃ i : Nat, r = i := ⟨r.toNat, by omega⟩
    have hi : i < xs.length := by omega
    exact ⟨q, xs, i, xs[i], rfl, rfl, b.seq hd hS, atI_nat (List.getElem?_eq_getElem hi), k _ _ (List.getElem_mem hi) b P'⟩
/-- a number of any of some sizes -/
def big : Int := 1000000000000000000
def spFar : Sp := fun vs H Q _ => ∃ (p c : Addr) (m : Nat), vs = [.ref p] ∧ PenAt H p c m ∧ m + 8 < most ∧ ∀ (n : Int) (H' : Hp), -big < n → n < big → But p H H' → PenAt H' p c (m + 8) → Q (.int n) H'
theorem ok_far (T : Txt K mg) : FnOk P w K mg base CX0 5 (fA mg "_law_far") (fDat K (fA mg "_law_far")) ["_law_pen_here"] spFar := by
  have G_law_draw := ok_draw (P := P) (w := w) (base := base) T._law_draw.F T
  have G_law_pick := ok_pick (P := P) (w := w) (base := base) T
  refine T._law_far.F.ok sc_law_far (fun vs H Q E h => ?_) (fun cdv A outer s H vs Q E hr h => ?_)
  · obtain ⟨p, c, m, rfl, _⟩ := h
    rfl
  · obtain ⟨p, c, m, rfl, hP, hm, k⟩ := h
    refine ⟨_, (pss_cons (ps_set (i := 1) sc_law_far.nd rfl (Or.inl rfl) pe_int)
  (pss_cons (ps_for PassesOwn.never rfl (pi_range1 (by rfl) T.range (pa_cons (pe_c T._law_pick G_law_pick (hr.mono (by decide)) (pa_cons (pv 0) (pa_cons (pe_lst (pa_cons pe_int (pa_cons pe_int (pa_cons pe_int (pa_cons pe_int (pa_cons pe_int pa_nil)))))) pa_nil))) pa_nil)) (pg_name (i := 2) sc_law_far.nd rfl (Or.inl rfl))
  (pss_one (ps_set (i := 1) sc_law_far.nd rfl (Or.inl rfl) (pe_op op_add (pe_op op_mul (pv 1) pe_int) (pe_c T._law_draw G_law_draw (hr.mono (by decide)) (pa_cons (pv 0) (pa_cons pe_int pa_nil)))))))
  (pss_one (ps_ret (pe_ifExp (pt_cmpR op_gt (pe_c T._law_draw G_law_draw (hr.mono (by decide)) (pa_cons (pv 0) (pa_cons pe_int pa_nil))) pe_int (nomark _)) (pv 1) (pe_un un_neg (pv 1))))))), ?_⟩
    -- how many groups of three figures
    refine ⟨_, rfl, l_lst (va_cons val_c (va_cons val_c (va_cons val_c (va_cons val_c (va_cons val_c va_nil))))) (by decide) fun q hq => ?_⟩
    refine ⟨p, c, q, _, m, rfl, hP.same (Same.new hq), by omega, SqL.of upd_same, by decide, by decide, fun v H1 hv b1 P1 => ?_⟩
    obtain ⟨j, rfl, hj⟩ : ∃ j : Nat, v = .int j ∧ j ≤ 6 := by
      simp at hv
      rcases hv with e | e | e | e
      · exact ⟨0, e, by decide⟩
      · exact ⟨1, e, by decide⟩
      · exact ⟨2, e, by decide⟩
      · exact ⟨6, e, by decide⟩
    have b0 : But p H H1 := (But.of (Same.new hq)).trans b1
    refine ⟨(j : Int), rfl, by omega, by omega, for_range (lo := 0) (n := (j : Int).toNat) (fun i σ H' => ∃ (v : Int) (z : Option V), σ = [some (.ref p), some (.int v), z] ∧ But p H H' ∧ PenAt H' p c (m + 1 + i) ∧ 0 ≤ v ∧ v < ((1000 ^ i : Nat) : Int))
      ⟨0, none, rfl, b0, P1, by decide, by decide⟩ ?_ ?_⟩
    · rintro i σ H' hi ⟨v, z, rfl, b, P', v0, v1⟩
      have hi6 : i < 6 := by omega
      have hv : v < 1000000000000000 := by
        have : 1000 ^ i ≤ 1000 ^ 5 := Nat.pow_le_pow_right (by decide) (by omega)
        omega
      refine (v_mul (C := CMul) (val_var rfl) val_c (.inl ⟨by omega, by omega⟩)) _ ?_
      refine c_call (va_cons (val_var rfl) (va_cons val_c va_nil)) ⟨p, c, 1000, m + 1 + i, rfl, P', by omega, by decide, by decide, fun r H2 r0 r1 b2 P2 => ?_⟩
      refine ⟨_, _, rfl, rfl, _, _, rfl, b.trans b2, P2, by omega, ?_⟩
      rw [Nat.pow_succ]
      omega
    · rintro σ H' ⟨v, z, rfl, b, P', v0, v1⟩
      have hv : v < big := by
        have : 1000 ^ (j : Int).toNat ≤ 1000 ^ 6 := Nat.pow_le_pow_right (by decide) (by omega)
        unfold big
        omega
      refine c_call (va_cons (val_var rfl) (va_cons val_c va_nil)) ⟨p, c, 3, m + 1 + (j : Int).toNat, rfl, P', by omega, by decide, by decide, fun r H2 r0 r1 b2 P2 => ?_⟩
      refine ⟨_, _, rfl, rfl, _, rfl, ?_⟩
      refine ite2 (fun _ => ?_) (fun _ => ?_)
      · exact ⟨_, rfl, k _ _ (by unfold big at *; omega) hv (b.trans b2) (P2.le (by omega))⟩
      · exact ⟨_, rfl, _, rfl, k _ _ (by omega) (by unfold big at *; omega) (b.trans b2) (P2.le (by omega))⟩

/-! ### which class -/

/-! ### the law's own ratios -/
theorem half {a b : Nat} (h : b < a) (h0 : 0 < b) : b * (a % b) * 2 ≤ a * b := by
  have h1 := Nat.mod_lt a h0
  have h2 := Nat.mod_add_div a b
  have h3 : 1 ≤ a / b := Nat.div_pos (Nat.le_of_lt h) h0
  have h4 : b ≤ b * (a / b) := Nat.le_mul_of_pos_right _ h3
  have h5 : a % b * 2 ≤ a := by omega
  rw [Nat.mul_assoc, Nat.mul_comm a b]
  exact Nat.mul_le_mul_left _ h5
theorem v_abs {te : TE} {σ : L2.St} {H : Hp} {x : Int} (h : Val te σ H (.int x)) : Val (tCB (fun xs H Q => ∃ i, xs = [.int i] ∧ Q (.int (if i < 0 then -i else i)) H) (tCons te tNil)) σ H (.int (x.natAbs : Int)) := fun Q q => h _ ⟨x, rfl, by
  have e : (if x < 0 then -x else x) = (x.natAbs : Int) := by split <;> omega
  rw [e]
  exact q⟩
def spLGcd : Sp := fun vs H Q _ => ∃ x y : Int, vs = [.int x, .int y] ∧ x.natAbs < 2 ^ wd ∧ y.natAbs < 2 ^ wd ∧ Q (.int (gI x y)) H
theorem ok_law_gcd (T : Txt K mg) : FnOk P w K mg base CX0 1 (fA mg "_law_gcd") (fDat K (fA mg "_law_gcd")) ["_law_one", "_law_two"] spLGcd := by
  refine T._law_gcd.F.ok sc_law_gcd (fun vs H Q E h => ?_) (fun cdv A outer s H vs Q E hr h => ?_)
  · obtain ⟨x, y, rfl, _⟩ := h
    rfl
  · obtain ⟨x, y, rfl, hx, hy, k⟩ := h
    refine ⟨_, (pss_cons (ps_par (i := 0) (j := 1) (by rfl) sc_law_gcd.nd rfl rfl (by decide) rfl rfl (pa_cons (pe_callB call_abs (by rfl) T.abs (by decide +kernel) (pa_cons (pv 0) pa_nil)) (pa_cons (pe_callB call_abs (by rfl) T.abs (by decide +kernel) (pa_cons (pv 1) pa_nil)) pa_nil)) (by rfl))
  (pss_cons (ps_for PassesOwn.never rfl (pi_range1 (by rfl) T.range (pa_cons pe_int pa_nil)) (pg_name (i := 2) sc_law_gcd.nd rfl (Or.inl rfl))
  (pss_cons (ps_if (pt_cmpR op_eq (pv 1) pe_int (nomark _)) (pss_one ps_break) pss_nil)
  (pss_one (ps_par (i := 0) (j := 1) (by rfl) sc_law_gcd.nd rfl rfl (by decide) rfl rfl (pa_cons (pv 1) (pa_cons (pe_op op_modN (pe_callTy call_int1 (by rfl) T.int (by decide +kernel) (pa_cons (pv 0) pa_nil)) (pv 1)) pa_nil)) (by rfl)))))
  (pss_one (ps_ret (pv 0))))), ?_⟩
    have hM : x.natAbs * y.natAbs < 2 ^ (wd + wd) := by
      rw [Nat.pow_add]
      exact Nat.mul_lt_mul'' hx hy
    refine (show tPar 0 1 _ _ _ _ from ?_)
    refine (va_cons (v_abs (val_var rfl)) (va_cons (v_abs (val_var rfl)) va_nil)) _ ⟨_, _, rfl, ?_⟩
    refine q_forR1 (n := 50000) (va_cons val_c va_nil) (by decide) (fun i σ H' => ∃ (a b : Nat) (z : Option V), σ = [some (.int a), some (.int b), z] ∧ H' = H ∧ Nat.gcd a b = Nat.gcd x.natAbs y.natAbs ∧ (i = 0 ∨ b < a) ∧ a * b * 2 ^ (i - 1) ≤ x.natAbs * y.natAbs)
      ⟨x.natAbs, y.natAbs, none, rfl, rfl, rfl, .inl rfl, by simp⟩ ?_ ?_
    · rintro i σ H' hi ⟨a, b, z, rfl, rfl, hg, hb, hm⟩
      refine (show tSeq (tIfS _ _ _) _ _ _ _ from ?_)
      by_cases b0 : b = 0
      · subst b0
        refine q_when (b := true) (ans_eq (x := .int ((0 : Nat) : Int)) (y := .int 0) (val_var rfl) val_c rfl rfl) (fun _ => ?_) (fun z => nomatch z)
        unfold tBreak
        refine st_ret (val_var rfl) ?_
        have e : gI x y = (a : Int) := by
          unfold gI
          rw [← hg, Nat.gcd_zero_right]
        rw [← e]
        exact k
      · refine q_unless (ans_eq (x := .int (b : Int)) (y := .int 0) (val_var rfl) val_c rfl (decide_eq_false (by simp [b0]))) ?_
        have e : ((a : Int).fmod (b : Int)) = ((a % b : Nat) : Int) := by
          rw [Int.fmod_eq_emod_of_nonneg _ (by omega)]
          exact (Int.natCast_emod a b).symm
        refine (show tPar 0 1 _ _ _ _ from ?_)
        refine (va_cons (val_var rfl) (va_cons (v_fmod (i := (a : Int)) (j := (b : Int)) (v_int1 (val_var rfl)) (val_var rfl) (by omega)) va_nil)) _ ⟨_, _, rfl, ?_⟩
        rw [e]
        refine ⟨b, a % b, _, rfl, rfl, ?_, .inr (Nat.mod_lt _ (by omega)), ?_⟩
        · rw [← hg, Nat.gcd_comm b, ← Nat.gcd_rec, Nat.gcd_comm]
        · rcases hb with rfl | hb
          · refine Nat.le_trans ?_ hm
            simp only [Nat.zero_add, Nat.sub_self, Nat.zero_sub, Nat.pow_zero, Nat.mul_one]
            rw [Nat.mul_comm a b]
            exact Nat.mul_le_mul_left _ (Nat.mod_le _ _)
          · cases i with
            | zero => 
              refine Nat.le_trans ?_ hm
              simp only [Nat.zero_add, Nat.sub_self, Nat.zero_sub, Nat.pow_zero, Nat.mul_one]
              rw [Nat.mul_comm a b]
              exact Nat.mul_le_mul_left _ (Nat.mod_le _ _)
            | succ i =>
              refine Nat.le_trans ?_ hm
              have h := Nat.mul_le_mul_right (2 ^ i) (half hb (by omega))
              simp only [Nat.add_sub_cancel]
              rw [Nat.pow_succ, Nat.mul_comm (2 ^ i) 2, ← Nat.mul_assoc]
              exact h
    · rintro σ H' ⟨a, b, z, rfl, rfl, hg, hb, hm⟩
      have b0 : b = 0 := by
        rcases Nat.eq_zero_or_pos b with h | h
        · exact h
        · exfalso
          have ha : b < a := hb.resolve_left (by decide)
          have h1 : 1 ≤ a * b := Nat.mul_pos (by omega) h
          have h2 : 2 ^ (50000 - 1) ≤ a * b * 2 ^ (50000 - 1) := Nat.le_mul_of_pos_left _ h1
          have h3 : 2 ^ (wd + wd) ≤ 2 ^ (50000 - 1) := Nat.pow_le_pow_right (by decide) (by decide)
          exact Nat.lt_irrefl _ (Nat.lt_of_le_of_lt (Nat.le_trans h3 (Nat.le_trans h2 hm)) hM)
      subst b0
      refine st_ret (val_var rfl) ?_
      have e : gI x y = (a : Int) := by
        unfold gI
        rw [← hg, Nat.gcd_zero_right]
      rw [← e]
      exact k
def spLQ : Sp := fun vs H Q _ => ∃ x y : Int, vs = [.int x, .int y] ∧ x.natAbs < 2 ^ wd ∧ y.natAbs < 2 ^ wd ∧ ((0 < y ∧ ∀ (p : Addr) (H' : Hp), Same H H' → H' p = some (.tup [.int (x / gI x y), .int (y / gI x y)]) → Q (.ref p) H') ∨
  (y < 0 ∧ ∀ (p : Addr) (H' : Hp), Same H H' → H' p = some (.tup [.int ((-x) / gI x y), .int ((-y) / gI x y)]) → Q (.ref p) H'))
theorem ok_law_q (T : Txt K mg) : FnOk P w K mg base CX0 2 (fA mg "_law_q") (fDat K (fA mg "_law_q")) ["_law_top", "_law_bottom"] spLQ := by
  have G_law_gcd := ok_law_gcd (P := P) (w := w) (base := base) T
  refine T._law_q.F.ok sc_law_q (fun vs H Q E h => ?_) (fun cdv A outer s H vs Q E hr h => ?_)
  · obtain ⟨x, y, rfl, _⟩ := h
    rfl
  · obtain ⟨x, y, rfl, hx, hy, k⟩ := h
    refine ⟨_, (pss_cons (ps_set (i := 2) sc_law_q.nd rfl (Or.inl rfl) (pe_c T._law_gcd G_law_gcd (hr.mono (by decide)) (pa_cons (pv 0) (pa_cons (pv 1) pa_nil))))
  (pss_cons (ps_set (i := 2) sc_law_q.nd rfl (Or.inl rfl) (pe_ifExp (pt_cmpR op_lt (pv 1) pe_int (nomark _)) (pe_un un_neg (pv 2)) (pv 2)))
  (pss_one (ps_ret (pe_tup (pa_cons (pe_op op_fdivS (pv 0) (pv 2)) (pa_cons (pe_op op_fdivS (pv 1) (pv 2)) pa_nil))))))), ?_⟩
    refine q_asg (c_call (va_cons (val_var rfl) (va_cons (val_var rfl) va_nil)) ⟨x, y, rfl, hx, hy, ?_⟩)
    have big : ∀ {d : Int}, d = gI x y ∨ d = -gI x y → 0 < gI x y → y ≠ 0 → d ≠ 0 ∧ d.natAbs.log2 < 9000 := fun {d} h g y0 => by
      have l : gI x y ≤ y.natAbs := by
        have : Nat.gcd x.natAbs y.natAbs ≤ y.natAbs := Nat.le_of_dvd (by omega) (Nat.gcd_dvd_right _ _)
        unfold gI
        omega
      have n : d.natAbs ≤ y.natAbs := by omega
      exact ⟨by omega, Nat.lt_of_lt_of_le (PySem.Flt.log2_lt_of (k := wd) (by decide) (Nat.lt_of_le_of_lt n hy)) (by decide)⟩
    rcases k with ⟨y0, k⟩ | ⟨y0, k⟩
    · have g := gI_pos (i := x) y0
      refine q_asg ((a_I (i := y) (j := 0) (val_var rfl) val_c) _ ?_)
      rw [decide_eq_false (by omega : ¬ y < 0)]
      refine iteF ?_
      refine (val_var rfl) _ ?_
      refine r_ret (te := tTup _) ((va_cons (v_fdiv (i := x) (j := gI x y) (val_var rfl) (val_var rfl) (big (.inl rfl) g (by omega))) (va_cons (v_fdiv (i := y) (j := gI x y) (val_var rfl) (val_var rfl) (big (.inl rfl) g (by omega))) va_nil)) _ ⟨by show 2 ≤ sizeLine; decide, fun p hp => k p _ (Same.new' hp) ?_⟩)
      rw [Int.fdiv_eq_ediv_of_nonneg _ (by omega), Int.fdiv_eq_ediv_of_nonneg _ (by omega)]
      exact upd_same
    · have g : 0 < gI x y := by
        have : 0 < Nat.gcd x.natAbs y.natAbs := Nat.gcd_pos_of_pos_right _ (by omega)
        unfold gI
        omega
      have ng : ∀ x d : Int, 0 < d → x.fdiv (-d) = (-x) / d := fun x d h => by
        have e := Int.neg_fdiv_neg (-x) d
        rw [Int.neg_neg] at e
        rw [e, Int.fdiv_eq_ediv_of_nonneg _ (by omega)]
      refine q_asg ((a_I (i := y) (j := 0) (val_var rfl) val_c) _ ?_)
      rw [decide_eq_true (by omega : y < 0)]
      refine iteT ?_
      refine (v_neg (n := gI x y) (val_var rfl)) _ ?_
      refine r_ret (te := tTup _) ((va_cons (v_fdiv (i := x) (j := -gI x y) (val_var rfl) (val_var rfl) (big (.inr rfl) g (by omega))) (va_cons (v_fdiv (i := y) (j := -gI x y) (val_var rfl) (val_var rfl) (big (.inr rfl) g (by omega))) va_nil)) _ ⟨by show 2 ≤ sizeLine; decide, fun p hp => k p _ (Same.new' hp) ?_⟩)
      rw [ng _ _ g, ng _ _ g]
      exact upd_same

def sp_law_plus : Sp := fun vs H Q _ => ∃ (p q : Addr) (i j k l : Int), vs = [.ref p, .ref q] ∧ H p = some (.tup [.int i, .int j]) ∧ H q = some (.tup [.int k, .int l]) ∧ Fit i j ∧ Fit k l ∧ 0 < j ∧ 0 < l ∧ ∀ (p : Addr) (H' : Hp), Same H H' → H' p = some (.tup [.int ((i * l + k * j) / gI (i * l + k * j) (j * l)), .int ((j * l) / gI (i * l + k * j) (j * l))]) → Q (.ref p) H'
theorem ok_law_plus (T : Txt K mg) : FnOk P w K mg base CX0 3 (fA mg "_law_plus") (fDat K (fA mg "_law_plus")) ["_law_one", "_law_two"] sp_law_plus := by
  have G_law_q := ok_law_q (P := P) (w := w) (base := base) T
  refine T._law_plus.F.ok sc_law_plus (fun vs H Q E h => ?_) (fun cdv A outer s H vs Q E hr h => ?_)
  · obtain ⟨p, q, i, j, k, l, rfl, _⟩ := h
    rfl
  · obtain ⟨p, q, i, j, k, l, rfl, hp, hq, ⟨fi, fj⟩, ⟨fk, fl⟩, j0, l0, z⟩ := h
    refine ⟨_, (pss_one (ps_ret (pe_c T._law_q G_law_q (hr.mono (by decide)) (pa_cons (pe_op op_add (pe_op op_mulW (pe_ix ix_tup (pv 0) pe_int (fun _ _ => rfl)) (pe_ix ix_tup (pv 1) pe_int (fun _ _ => rfl))) (pe_op op_mulW (pe_ix ix_tup (pv 1) pe_int (fun _ _ => rfl)) (pe_ix ix_tup (pv 0) pe_int (fun _ _ => rfl)))) (pa_cons (pe_op op_mulW (pe_ix ix_tup (pv 0) pe_int (fun _ _ => rfl)) (pe_ix ix_tup (pv 1) pe_int (fun _ _ => rfl))) pa_nil))))), ?_⟩
    exact r_ret (te := tCall _ _ _ _) (c_call (va_cons (v_add (v_mul (v_ixT (n := 0) (val_var rfl) val_c (SqT.of hp) rfl) (v_ixT (n := 1) (val_var rfl) val_c (SqT.of hq) rfl) (fit_mul fi fl)) (v_mul (v_ixT (n := 0) (val_var rfl) val_c (SqT.of hq) rfl) (v_ixT (n := 1) (val_var rfl) val_c (SqT.of hp) rfl) (fit_mul fk fj))) (va_cons (v_mul (v_ixT (n := 1) (val_var rfl) val_c (SqT.of hp) rfl) (v_ixT (n := 1) (val_var rfl) val_c (SqT.of hq) rfl) (fit_mul fj fl)) va_nil)) ⟨_, _, rfl, fit_add (wide_lt fi fl) (wide_lt fk fj), fit_lt fj fl, .inl ⟨Int.mul_pos j0 l0, z⟩⟩)

def sp_law_times : Sp := fun vs H Q _ => ∃ (p q : Addr) (i j k l : Int), vs = [.ref p, .ref q] ∧ H p = some (.tup [.int i, .int j]) ∧ H q = some (.tup [.int k, .int l]) ∧ Fit i j ∧ Fit k l ∧ 0 < j ∧ 0 < l ∧ ∀ (p : Addr) (H' : Hp), Same H H' → H' p = some (.tup [.int ((i * k) / gI (i * k) (j * l)), .int ((j * l) / gI (i * k) (j * l))]) → Q (.ref p) H'
theorem ok_law_times (T : Txt K mg) : FnOk P w K mg base CX0 3 (fA mg "_law_times") (fDat K (fA mg "_law_times")) ["_law_one", "_law_two"] sp_law_times := by
  have G_law_q := ok_law_q (P := P) (w := w) (base := base) T
  refine T._law_times.F.ok sc_law_times (fun vs H Q E h => ?_) (fun cdv A outer s H vs Q E hr h => ?_)
  · obtain ⟨p, q, i, j, k, l, rfl, _⟩ := h
    rfl
  · obtain ⟨p, q, i, j, k, l, rfl, hp, hq, ⟨fi, fj⟩, ⟨fk, fl⟩, j0, l0, z⟩ := h
    refine ⟨_, (pss_one (ps_ret (pe_c T._law_q G_law_q (hr.mono (by decide)) (pa_cons (pe_op op_mulW (pe_ix ix_tup (pv 0) pe_int (fun _ _ => rfl)) (pe_ix ix_tup (pv 1) pe_int (fun _ _ => rfl))) (pa_cons (pe_op op_mulW (pe_ix ix_tup (pv 0) pe_int (fun _ _ => rfl)) (pe_ix ix_tup (pv 1) pe_int (fun _ _ => rfl))) pa_nil))))), ?_⟩
    exact r_ret (te := tCall _ _ _ _) (c_call (va_cons (v_mul (v_ixT (n := 0) (val_var rfl) val_c (SqT.of hp) rfl) (v_ixT (n := 0) (val_var rfl) val_c (SqT.of hq) rfl) (fit_mul fi fk)) (va_cons (v_mul (v_ixT (n := 1) (val_var rfl) val_c (SqT.of hp) rfl) (v_ixT (n := 1) (val_var rfl) val_c (SqT.of hq) rfl) (fit_mul fj fl)) va_nil)) ⟨_, _, rfl, fit_lt fi fk, fit_lt fj fl, .inl ⟨Int.mul_pos j0 l0, z⟩⟩)

/-! ### lowest terms, the sums behind them -/
theorem gI_mul (x y : Int) {s : Int} (hs : 0 < s) : gI (x * s) (y * s) = gI x y * s := by
  unfold gI
  rw [Int.natAbs_mul, Int.natAbs_mul, Nat.gcd_mul_right, Int.natCast_mul]
  congr 1
  omega
theorem low_mul (x y : Int) {s : Int} (hs : 0 < s) : x * s / gI (x * s) (y * s) = x / gI x y ∧ y * s / gI (x * s) (y * s) = y / gI x y := by
  rw [gI_mul _ _ hs]
  exact ⟨Int.mul_ediv_mul_of_pos_left _ _ hs, Int.mul_ediv_mul_of_pos_left _ _ hs⟩
theorem gI_dvd (x y : Int) : gI x y ∣ x ∧ gI x y ∣ y := ⟨Int.ofNat_dvd_left.mpr (Nat.gcd_dvd_left _ _), Int.ofNat_dvd_left.mpr (Nat.gcd_dvd_right _ _)⟩
theorem low_one (x : Int) {y : Int} (hy : 0 < y) : gI (x / gI x y) (y / gI x y) = 1 := by
  have g : 0 < Nat.gcd x.natAbs y.natAbs := Nat.gcd_pos_of_pos_right _ (by omega)
  have e : (gI x y).natAbs = Nat.gcd x.natAbs y.natAbs := by unfold gI; exact Int.natAbs_natCast _
  have h := Nat.gcd_div (Nat.gcd_dvd_left x.natAbs y.natAbs) (Nat.gcd_dvd_right x.natAbs y.natAbs)
  rw [Nat.div_self g] at h
  have e1 := Int.natAbs_ediv_of_dvd (gI_dvd x y).1
  have e2 := Int.natAbs_ediv_of_dvd (gI_dvd x y).2
  show ((Nat.gcd (x / gI x y).natAbs (y / gI x y).natAbs : Nat) : Int) = 1
  rw [e1, e2, e, h]
  rfl
theorem low_abs (x : Int) {y : Int} : (x / gI x y).natAbs ≤ x.natAbs := by
  rw [Int.natAbs_ediv_of_dvd (gI_dvd x y).1]
  exact Nat.div_le_self _ _
theorem low_pos (x : Int) {y : Int} (hy : 0 < y) : 0 < y / gI x y ∧ y / gI x y ≤ y := by
  have g := gI_pos (i := x) hy
  refine ⟨Int.ediv_pos_of_pos_of_dvd hy (Int.le_of_lt g) (gI_dvd x y).2, Int.ediv_le_self _ (Int.le_of_lt hy)⟩
theorem call_1 {sp : Sp} {L : List V} {E : XK} {te : TE} {tr : TA} {σ : L2.St} {H : Hp} {Q : VK} (h : te σ H fun v H1 => tr σ H1 fun vs H2 => sp ((v :: vs) ++ L) H2 Q E) : tCall sp L E (tCons te tr) σ H Q := h
theorem va_1 {te : TE} {σ : L2.St} {H : Hp} {Q : List V → Hp → Prop} (h : te σ H fun v H1 => Q [v] H1) : tCons te tNil σ H Q := h
/-- a ratio in lowest terms of up to eighteen figures -/
def Low (H : Hp) (t : Addr) (a b : Int) : Prop := H t = some (.tup [.int a, .int b]) ∧ 0 < b ∧ gI a b = 1 ∧ a.natAbs ≤ 10 ^ 18 ∧ b ≤ 10 ^ 18
def spSomeR : Sp := fun vs H Q _ => ∃ (p c : Addr) (m : Nat), vs = [.ref p] ∧ PenAt H p c m ∧ m + 16 < most ∧ ∀ (t : Addr) (H' : Hp) (a b : Int), Low H' t a b → But p H H' → PenAt H' p c (m + 16) → Q (.ref t) H'
theorem ok_some_ratio (T : Txt K mg) : FnOk P w K mg base CX0 6 (fA mg "_law_some_ratio") (fDat K (fA mg "_law_some_ratio")) ["_law_pen_here"] spSomeR := by
  have G_law_q := ok_law_q (P := P) (w := w) (base := base) T
  have G_law_far := ok_far (P := P) (w := w) (base := base) T
  refine T._law_some_ratio.F.ok sc_law_some_ratio (fun vs H Q E h => ?_) (fun cdv A outer s H vs Q E hr h => ?_)
  · obtain ⟨p, c, m, rfl, _⟩ := h
    rfl
  · obtain ⟨p, c, m, rfl, hP, hm, k⟩ := h
    refine ⟨_, (pss_one (ps_ret (pe_c T._law_q G_law_q (hr.mono (by decide)) (pa_cons (pe_c T._law_far G_law_far (hr.mono (by decide)) (pa_cons (pv 0) pa_nil)) (pa_cons (pe_op op_add pe_int (pe_callB call_abs (by rfl) T.abs (by decide +kernel) (pa_cons (pe_c T._law_far G_law_far (hr.mono (by decide)) (pa_cons (pv 0) pa_nil)) pa_nil))) pa_nil))))), ?_⟩
    refine r_ret (te := tCall _ _ _ _) (call_1 ?_)
    refine c_call (va_cons (val_var rfl) va_nil) ⟨p, c, m, rfl, hP, by omega, fun n H1 n0 n1 b1 P1 => ?_⟩
    refine va_1 (op_l val_c ?_)
    refine c_call (va_cons (val_var rfl) va_nil) ⟨p, c, m + 8, rfl, P1, by omega, fun d H2 d0 d1 b2 P2 => ?_⟩
    refine ⟨d, rfl, _, _, rfl, rfl, ?_⟩
    have hb : ∀ {z : Int}, z.natAbs ≤ 10 ^ 18 → z.natAbs < 2 ^ wd := fun h => Nat.lt_of_le_of_lt h (by decide +kernel)
    have y0 : 0 < 1 + (if d < 0 then -d else d) := by split <;> omega
    have y1 : 1 + (if d < 0 then -d else d) ≤ 10 ^ 18 := by unfold big at *; split <;> omega
    have x1 : n.natAbs ≤ 10 ^ 18 := by unfold big at *; omega
    refine ⟨n, _, rfl, hb x1, hb (by omega), .inl ⟨y0, fun t H' s e => ?_⟩⟩
    have lp := low_pos n y0
    refine k t H' _ _ ⟨e, lp.1, low_one n y0, Nat.le_trans (low_abs n) x1, by omega⟩ ((b1.trans b2).trans (But.of s)) (P2.same s)

theorem q_ifAndK {σ : L2.St} {H : Hp} {t u : TT} {t1 tz : TS} {D : Ends} {I : Hp → Prop} (rest : ∀ H1, I H1 → tz D σ H1) (h : (∀ H1, I H1 → tz D σ H1) → t σ H fun c H1 => if c = true then u σ H1 (fun b H2 => if b = true then t1 { D with nx := tz D } σ H2 else tz D σ H2) else
    (if false = true then t1 { D with nx := tz D } σ H1 else tz D σ H1)) : tSeq (tIfS (tAnd t u) t1 tNext) tz D σ H := h rest
theorem l_two {σ : L2.St} {H : Hp} {t1 t2 : TE} {Q : VK} (h : t1 σ H fun v H1 => t2 σ H1 fun w H2 => 2 ≤ sizeLine ∧ ∀ q, H2 q = none → Q (.ref q) (upd H2 q (.lst [v, w]))) : tLst (tCons t1 (tCons t2 tNil)) σ H Q := h
/-- as a caller may pass a ratio a / b -/
def spPassed : Sp := fun vs H Q _ => ∃ (p c t : Addr) (m : Nat) (a b : Int), vs = [.ref p, .ref t] ∧ PenAt H p c m ∧ m + 3 < most ∧ Low H t a b ∧ ∀ (v : V) (H' : Hp) (s : Int), 0 < s → s ≤ 3 → Rt H' v (a * s) (b * s) → (∀ x, v = .ref x → H x = none) → But p H H' → PenAt H' p c (m + 3) → Q v H'
theorem ok_passed (T : Txt K mg) : FnOk P w K mg base CX0 4 (fA mg "_law_passed") (fDat K (fA mg "_law_passed")) ["_law_pen_here", "_law_ratio_here"] spPassed := by
  have G_law_draw := ok_draw (P := P) (w := w) (base := base) T._law_draw.F T
  have G_law_pick := ok_pick (P := P) (w := w) (base := base) T
  refine T._law_passed.F.ok sc_law_passed (fun vs H Q E h => ?_) (fun cdv A outer s H vs Q E hr h => ?_)
  · obtain ⟨p, c, t, m, a, b, rfl, _⟩ := h
    rfl
  · obtain ⟨p, c, t, m, a, b, rfl, hP, hm, ⟨ht, b0, ab, al, bl⟩, k⟩ := h
    refine ⟨_, (pss_cons (ps_if (PW.pt (pw_and (pt_cmpR op_eq (pe_ix ix_tup (pv 1) pe_int (fun _ _ => rfl)) pe_int (nomark _)) (pw_and1 (pt_cmpR op_eq (pe_c T._law_draw G_law_draw (hr.mono (by decide)) (pa_cons (pv 0) (pa_cons pe_int pa_nil))) pe_int (nomark _))))) (pss_one (ps_ret (pe_ix ix_tup (pv 1) pe_int (fun _ _ => rfl)))) pss_nil)
  (pss_cons (ps_set (i := 2) sc_law_passed.nd rfl (Or.inl rfl) (pe_c T._law_pick G_law_pick (hr.mono (by decide)) (pa_cons (pv 0) (pa_cons (pe_lst (pa_cons pe_int (pa_cons pe_int (pa_cons pe_int (pa_cons pe_int pa_nil))))) pa_nil))))
  (pss_one (ps_ret (pe_c T._law_pick G_law_pick (hr.mono (by decide)) (pa_cons (pv 0) (pa_cons (pe_lst (pa_cons (pe_tup (pa_cons (pe_op op_mulW (pe_ix ix_tup (pv 1) pe_int (fun _ _ => rfl)) (pv 2)) (pa_cons (pe_op op_mulW (pe_ix ix_tup (pv 1) pe_int (fun _ _ => rfl)) (pv 2)) pa_nil))) (pa_cons (pe_lst (pa_cons (pe_op op_mulW (pe_ix ix_tup (pv 1) pe_int (fun _ _ => rfl)) (pv 2)) (pa_cons (pe_op op_mulW (pe_ix ix_tup (pv 1) pe_int (fun _ _ => rfl)) (pv 2)) pa_nil))) pa_nil))) pa_nil))))))), ?_⟩
    obtain ⟨kvs, hd⟩ := hP.dk
    have np : t ≠ p := ne_of ht hd (by intro z; cases z)
    have c1 : (2 : Nat) ^ 64 < 2 ^ 1000 := Nat.pow_lt_pow_right (by decide) (by decide)
    have fa : a.natAbs < 2 ^ 1000 := by
      have : (10 : Nat) ^ 18 < 2 ^ 64 := by decide
      omega
    have fb : b.natAbs < 2 ^ 1000 := by
      have : (10 : Nat) ^ 18 < 2 ^ 64 := by decide
      omega
    refine q_ifAndK (I := fun H1 => But p H H1 ∧ PenAt H1 p c (m + 1)) (fun H1 ⟨b1, P1⟩ => ?_) (fun rest => ?_)
    · have ht1 := b1 _ _ ht np
      refine q_asg (call_1 ((val_var rfl) _ (va_1 (l_lst (va_cons val_c (va_cons val_c (va_cons val_c (va_cons val_c va_nil)))) (by decide) fun q hq => ?_))))
      refine ⟨p, c, q, _, m + 1, rfl, P1.same (Same.new hq), by omega, SqL.of upd_same, by decide, by decide, fun v H2 hv b2 P2 => ?_⟩
      obtain ⟨s, rfl, s0, s1⟩ : ∃ s : Int, v = .int s ∧ 0 < s ∧ s ≤ 3 := by
        simp at hv
        rcases hv with e | e | e
        · exact ⟨1, e, by decide, by decide⟩
        · exact ⟨2, e, by decide, by decide⟩
        · exact ⟨3, e, by decide, by decide⟩
      have ht2 := b2 _ _ ((Same.new hq) _ _ ht1) np
      have fs : s.natAbs < 2 ^ 1000 := by omega
      refine r_ret (te := tCall _ _ _ _) (call_1 ((val_var rfl) _ (va_1 ?_)))
      have two : ∀ {σ : L2.St}, σ[1]? = some (some (.ref t)) → σ[2]? = some (some (.int s)) → ∀ {H3 : Hp}, H3 t = some (.tup [.int a, .int b]) → VA (tCons (tOp (rI CMulW fun i j => V.int (i * j)) (tOp (rIxT K) (tVar 1) (tC (V.int 0))) (tVar 2)) (tCons (tOp (rI CMulW fun i j => V.int (i * j)) (tOp (rIxT K) (tVar 1) (tC (V.int 1))) (tVar 2)) tNil)) σ H3 [.int (a * s), .int (b * s)] := fun e1 e2 H3 h =>
        va_cons (v_mul (v_ixT (n := 0) (val_var e1) val_c (SqT.of h) rfl) (val_var e2) (fit_mul fa fs)) (va_cons (v_mul (v_ixT (n := 1) (val_var e1) val_c (SqT.of h) rfl) (val_var e2) (fit_mul fb fs)) va_nil)
      refine l_two (l_tup (two rfl rfl ht2) (by show 2 ≤ 100000; decide) fun x hx => l_lst (two rfl rfl ((Same.new' hx) _ _ ht2)) (by show 2 ≤ 100000; decide) fun y hy => ⟨by show 2 ≤ sizeLine; decide, fun q2 hq2 => ?_⟩)
      have S := ((Same.new' (o := .tup [.int (a * s), .int (b * s)]) hx).trans (Same.new' (o := .lst [.int (a * s), .int (b * s)]) hy)).trans (Same.new' (o := .lst [.ref x, .ref y]) hq2)
      obtain ⟨kv2, hd2⟩ := P2.dk
      have px : x ≠ p := fun z => by rw [z, hd2] at hx; cases hx
      have py : y ≠ p := fun z => by
        have := (Same.new' (o := .tup [.int (a * s), .int (b * s)]) hx) _ _ hd2
        rw [z, this] at hy
        cases hy
      have ex := (Same.new' (o := .lst [.ref x, .ref y]) hq2) _ _ ((Same.new' (o := .lst [.int (a * s), .int (b * s)]) hy) _ _ (upd_same (H := H2) (a := x) (o := .tup [.int (a * s), .int (b * s)])))
      have ey := (Same.new' (o := .lst [.ref x, .ref y]) hq2) _ _ (upd_same (a := y) (o := .lst [.int (a * s), .int (b * s)]))
      refine ⟨p, c, q2, _, m + 2, rfl, P2.same S, by omega, SqL.of upd_same, by show 0 < 2; decide, by show 2 < 1000000000; decide, fun v H3 hv b3 P3 => ?_⟩
      have B := (((b1.trans (But.of (Same.new hq))).trans b2).trans (But.of S)).trans b3
      have bs : 0 < b * s := Int.mul_pos b0 s0
      have fx : ∀ z, z ≠ p → H2 z = none → H z = none := fun z nz hz => by
        cases h : H z with
        | none => rfl
        | some o =>
          rw [((b1.trans (But.of (Same.new hq))).trans b2) _ _ h nz] at hz
          cases hz
      have hy0 : H2 y = none := by
        cases h : H2 y with
        | none => rfl
        | some o =>
          rw [(Same.new' (o := .tup [.int (a * s), .int (b * s)]) hx) _ _ h] at hy
          cases hy
      rcases List.mem_cons.mp hv with e | hv
      · rw [e]
        exact k _ _ s s0 s1 (.pair (.inr (b3 _ _ ex px)) bs) (fun z ez => by cases ez; exact fx x px hx) B P3
      · rcases List.mem_cons.mp hv with e | hv
        · rw [e]
          exact k _ _ s s0 s1 (.pair (.inl (b3 _ _ ey py)) bs) (fun z ez => by cases ez; exact fx y py hy0) B P3
        · cases hv
    · by_cases e1 : b = 1
      · refine (ans_eq (x := .int b) (y := .int 1) (v_ixT (n := 1) (val_var rfl) val_c (SqT.of ht) rfl) val_c rfl (decide_eq_true (by rw [e1]))) _ ?_
        refine iteT ?_
        refine c_call (va_cons (val_var rfl) (va_cons val_c va_nil)) ⟨p, c, 2, m, rfl, hP, by omega, by decide, by decide, fun r H1 r0 r1 b1 P1 => ?_⟩
        refine ⟨rfl, _, rfl, ?_⟩
        refine ite2 (fun _ => ?_) (fun _ => rest _ ⟨b1, P1⟩)
        refine st_ret (v_ixT (n := 0) (val_var rfl) val_c (SqT.of (b1 _ _ ht np)) rfl) (k _ _ 1 (by decide) (by decide) ?_ (fun _ z => nomatch z) b1 (P1.le (by omega)))
        rw [e1, Int.mul_one, Int.mul_one]
        exact .int a
      · refine (ans_eq (x := .int b) (y := .int 1) (v_ixT (n := 1) (val_var rfl) val_c (SqT.of ht) rfl) val_c rfl (decide_eq_false (by simp [e1]))) _ ?_
        refine iteF (iteF (rest _ ⟨But.refl, hP.le (by omega)⟩))

/-! ### values that are no ratios -/
def aK : Key := Sum.inr ("a" : Str)
def Fine (K : PySem.W.Frag) (H : Hp) (v : V) (d : PyData) : Prop := Dd K H v d ∧ d.showable = true ∧ d.depth ≤ 3 ∧ d.shown.length ≤ 1000 ∧ PyData.strOk d.shown = true
inductive Odd (H : Hp) : V → Prop
  | non : Odd H .non
  | bl : Odd H (.bl true)
  | str : Odd H (.str "1")
  | tup {q : Addr} {xs : List V} (e : H q = some (.tup xs)) (h : xs = [.int 1, .int 0] ∨ xs = [.int 1, .int (-2)] ∨ xs = [.int 1, .bl true] ∨ xs = [.int 1, .int 2, .int 3] ∨ xs = [.str "1", .int 2] ∨ xs = [.non, .int 1] ∨ xs = [.bl true, .int 2] ∨ xs = []) : Odd H (.ref q)
  | lst {q : Addr} {xs : List V} (e : H q = some (.lst xs)) (h : xs = [.int 1] ∨ xs = [.int 2, .bl false]) : Odd H (.ref q)
  | dic {q : Addr} (e : H q = some (.dK [(aK, .int 1)])) : Odd H (.ref q)
  | nest {q r : Addr} (e : H q = some (.tup [.ref r, .int 3])) (e2 : H r = some (.tup [.int 1, .int 2])) : Odd H (.ref q)
theorem Odd.same {H H' : Hp} {v : V} (g : Odd H v) (s : Same H H') : Odd H' v := by
  cases g with
  | non => exact .non
  | bl => exact .bl
  | str => exact .str
  | tup e h => exact .tup (s _ _ e) h
  | lst e h => exact .lst (s _ _ e) h
  | dic e => exact .dic (s _ _ e)
  | nest e e2 => exact .nest (s _ _ e) (s _ _ e2)
theorem Odd.but {H H' : Hp} {v : V} {p c : Addr} {m : Nat} (g : Odd H v) (P : PenAt H p c m) (b : But p H H') : Odd H' v := by
  obtain ⟨a, d, n, f, ns, hp, _⟩ := P
  have k : ∀ {q : Addr} {o : HO}, H q = some o → (∀ kvs, o = .dK kvs → kvs.length < 5) → H' q = some o := fun {q o} e h => b q o e (fun z => by
    rw [z, hp] at e
    have := h _ (Option.some.inj e).symm
    exact absurd this (by show ¬ 5 < 5; decide))
  cases g with
  | non => exact .non
  | bl => exact .bl
  | str => exact .str
  | tup e h => exact .tup (k e (fun _ z => by cases z)) h
  | lst e h => exact .lst (k e (fun _ z => by cases z)) h
  | dic e => exact .dic (k e (fun _ z => by cases z; show 1 < 5; decide))
  | nest e e2 => exact .nest (k e (fun _ z => by cases z)) (k e2 (fun _ z => by cases z))
theorem Odd.rat {H : Hp} {v : V} (g : Odd H v) : RatQ H v false := by
  cases g with
  | non => exact .odd .non (by simp)
  | bl => exact .odd (.bl _) (by simp)
  | str => exact .odd (.str _) (by simp)
  | tup e h =>
    rcases h with rfl | rfl | rfl | rfl | rfl | rfl | rfl | rfl
    · exact .pair (j := 0) (.inr e)
    · exact .pair (j := -2) (.inr e)
    · exact .snd (.inr e) (.bl _) (by decide)
    · exact .len (.inr e) (by decide)
    · exact .fst (.inr e) (.str _) (by decide)
    · exact .fst (.inr e) .non (by decide)
    · exact .fst (.inr e) (.bl _) (by decide)
    · exact .len (.inr e) (by decide)
  | lst e h =>
    rcases h with rfl | rfl
    · exact .len (.inl e) (by decide)
    · exact .snd (.inl e) (.bl _) (by decide)
  | dic e => exact .odd (.dic e) (by simp)
  | nest e e2 => exact .fst (.inr e) (.tup e2) (by decide)
theorem Odd.fine {H : Hp} {v : V} (g : Odd H v) : ∃ d, Fine K H v d := by
  have kk : ∀ {d : PyData}, Dd K H v d → d.showable = true ∧ d.depth ≤ 3 ∧ d.shown.length ≤ 1000 ∧ PyData.strOk d.shown = true → ∃ d, Fine K H v d := fun a b => ⟨_, a, b⟩
  cases g with
  | non => exact kk .non (by decide +kernel)
  | bl => exact kk (.bl _) (by decide +kernel)
  | str => exact kk (.str _) (by decide +kernel)
  | tup e h =>
    rcases h with rfl | rfl | rfl | rfl | rfl | rfl | rfl | rfl
    · exact kk (.tup (SqT.of e) (.cons (.int _) (.cons (.int _) .nil))) (by decide +kernel)
    · exact kk (.tup (SqT.of e) (.cons (.int _) (.cons (.int _) .nil))) (by decide +kernel)
    · exact kk (.tup (SqT.of e) (.cons (.int _) (.cons (.bl _) .nil))) (by decide +kernel)
    · exact kk (.tup (SqT.of e) (.cons (.int _) (.cons (.int _) (.cons (.int _) .nil)))) (by decide +kernel)
    · exact kk (.tup (SqT.of e) (.cons (.str _) (.cons (.int _) .nil))) (by decide +kernel)
    · exact kk (.tup (SqT.of e) (.cons .non (.cons (.int _) .nil))) (by decide +kernel)
    · exact kk (.tup (SqT.of e) (.cons (.bl _) (.cons (.int _) .nil))) (by decide +kernel)
    · exact kk (.tup (SqT.of e) .nil) (by decide +kernel)
  | lst e h =>
    rcases h with rfl | rfl
    · exact kk (.lst (SqL.of e) (.cons (.int _) .nil)) (by decide +kernel)
    · exact kk (.lst (SqL.of e) (.cons (.int _) (.cons (.bl _) .nil))) (by decide +kernel)
  | dic e => exact kk (.dic e (.cons (.int _) .nil)) (by decide +kernel)
  | nest e e2 => exact kk (.tup (SqT.of e) (.cons (.tup (SqT.of e2) (.cons (.int _) (.cons (.int _) .nil))) (.cons (.int _) .nil))) (by decide +kernel)
/-- .. and made behind H0 -/
def OdF (H0 : Hp) (v : V) (H : Hp) : Prop := Odd H v ∧ ∀ x, v = .ref x → H0 x = none
theorem OdF.same {H0 H H' : Hp} {v : V} (g : OdF H0 v H) (s : Same H H') : OdF H0 v H' := ⟨g.1.same s, g.2⟩
def Odds (H0 : Hp) (n : Nat) (vs : List V) (H : Hp) : Prop := (∀ v ∈ vs, OdF H0 v H) ∧ vs.length = n
theorem Odds.stays {H0 : Hp} {n : Nat} : Stays (Odds H0 n) := fun vs H1 H2 s h => ⟨fun v hv => (h.1 v hv).same s, h.2⟩
theorem om_nil {σ : L2.St} {H0 H : Hp} : VM tNil σ H (Odds H0 0) := fun Q q => q [] H (Same.refl H) ⟨(fun _ h => nomatch h), rfl⟩
theorem om_cons {σ : L2.St} {H0 H : Hp} {te : TE} {tr : TA} {n : Nat} (s0 : Same H0 H) (h : EM te σ H (OdF H0)) (hr : ∀ H1, Same H0 H1 → VM tr σ H1 (Odds H0 n)) : VM (tCons te tr) σ H (Odds H0 (n + 1)) := fun Q q =>
  h _ fun v H1 s1 p1 => hr H1 (s0.trans s1) _ fun r H2 s2 ⟨r2, e2⟩ => q (v :: r) H2 (s1.trans s2) ⟨fun x hx => by
    rcases List.mem_cons.mp hx with e | e
    · rw [e]; exact p1.same s2
    · exact r2 x e, by rw [List.length_cons, e2]⟩
theorem none_of {H0 H : Hp} {a : Addr} (s : Same H0 H) (h : H a = none) : H0 a = none := by
  cases e : H0 a with
  | none => rfl
  | some o => rw [s _ _ e] at h; cases h
theorem em_tupF {σ : L2.St} {H : Hp} {tb : TA} {ws : List V} {P : V → Hp → Prop} (h : VA tb σ H ws) (hl : ws.length ≤ 100000) (q : ∀ a H', H a = none → H' a = some (.tup ws) → P (.ref a) H') : EM (tTup tb) σ H P := fun Q k => l_tup h hl fun a ha => k _ _ (Same.new' ha) (q a _ ha upd_same)
theorem em_lstF {σ : L2.St} {H : Hp} {tb : TA} {ws : List V} {P : V → Hp → Prop} (h : VA tb σ H ws) (hl : ws.length ≤ 100000) (q : ∀ a H', H a = none → H' a = some (.lst ws) → P (.ref a) H') : EM (tLst tb) σ H P := fun Q k => l_lst h hl fun a ha => k _ _ (Same.new' ha) (q a _ ha upd_same)
theorem em_dicF {σ : L2.St} {H : Hp} {te : TE} {v : V} {key : Key} {P : V → Hp → Prop} (h : ∀ H1, Val te σ H1 v) (q : ∀ a H', H a = none → H' a = some (.dK [(key, v)]) → P (.ref a) H') : EM (tDisp [(tC (kV key), te)]) σ H P := fun Q k a ha =>
  h _ _ ⟨upd_same, [(key, v)], rfl, by show 1 ≤ 15; decide, k _ _ (by
    have e : mergeK [] [(key, v)] = [(key, v)] := rfl
    rw [e, upd_upd]
    exact Same.new' ha) (q a _ ha upd_same)⟩
theorem fr_ref {H0 : Hp} {a : Addr} (h : H0 a = none) : ∀ x, V.ref a = .ref x → H0 x = none := fun x e => by cases e; exact h
theorem tup_two {σ : L2.St} {H : Hp} {t1 t2 : TE} {Q : VK} (h : t1 σ H fun v H1 => t2 σ H1 fun w H2 => 2 ≤ sizeLine ∧ ∀ q, H2 q = none → Q (.ref q) (upd H2 q (.tup [v, w]))) : tTup (tCons t1 (tCons t2 tNil)) σ H Q := h
theorem nest {σ : L2.St} {H0 H : Hp} (s : Same H0 H) : EM (tTup (tCons (tTup (tCons (tC (.int 1)) (tCons (tC (.int 2)) tNil))) (tCons (tC (.int 3)) tNil))) σ H (OdF H0) := fun Q q => tup_two (l_tup (va_cons val_c (va_cons val_c va_nil)) (by decide) fun a ha => val_c _ ⟨by show 2 ≤ sizeLine; decide, fun b hb => q _ _ ((Same.new' ha).trans (Same.new' hb)) ⟨.nest upd_same ((Same.new' hb) _ _ upd_same), fr_ref (none_of (s.trans (Same.new' ha)) hb)⟩⟩)
theorem om_val {σ : L2.St} {H0 H : Hp} {te : TE} {v : V} (h : Val te σ H v) (g : Odd H v) (n : ∀ x, v ≠ .ref x) : EM te σ H (OdF H0) := fun Q q => h _ (q v H (Same.refl H) ⟨g, fun x e => (n x e).elim⟩)
def spAny : Sp := fun vs H Q _ => ∃ (p c : Addr) (m : Nat), vs = [.ref p] ∧ PenAt H p c m ∧ m + 1 < most ∧ ∀ (v : V) (H' : Hp), Odd H' v → (∀ x, v = .ref x → H x = none) → But p H H' → PenAt H' p c (m + 1) → Q v H'
theorem ok_any (T : Txt K mg) : FnOk P w K mg base CX0 4 (fA mg "_law_any") (fDat K (fA mg "_law_any")) ["_law_pen_here"] spAny := by
  have G_law_pick := ok_pick (P := P) (w := w) (base := base) T
  refine T._law_any.F.ok sc_law_any (fun vs H Q E h => ?_) (fun cdv A outer s H vs Q E hr h => ?_)
  · obtain ⟨p, c, m, rfl, _⟩ := h
    rfl
  · obtain ⟨p, c, m, rfl, hP, hm, k⟩ := h
    refine ⟨_, (pss_cons (ps_set (i := 1) sc_law_any.nd rfl (Or.inl rfl) (pe_lst (pa_cons pe_non (pa_cons pe_bl (pa_cons pe_str (pa_cons (pe_tup (pa_cons pe_int (pa_cons pe_int pa_nil))) (pa_cons (pe_tup (pa_cons pe_int (pa_cons (pe_un un_neg pe_int) pa_nil))) (pa_cons (pe_tup (pa_cons pe_int (pa_cons pe_bl pa_nil))) (pa_cons (pe_lst (pa_cons pe_int pa_nil)) (pa_cons (pe_tup (pa_cons pe_int (pa_cons pe_int (pa_cons pe_int pa_nil)))) (pa_cons (pe_disp (pps_cons pe_str pe_int pps_nil) (by rfl) (by rfl) (fun z => by cases z) (by decide)) (pa_cons (pe_tup (pa_cons pe_str (pa_cons pe_int pa_nil))) (pa_cons (pe_tup (pa_cons pe_non (pa_cons pe_int pa_nil))) (pa_cons (pe_tup (pa_cons pe_bl (pa_cons pe_int pa_nil))) pa_nil))))))))))))))
  (pss_one (ps_ret (pe_c T._law_pick G_law_pick (hr.mono (by decide)) (pa_cons (pv 0) (pa_cons (pe_op op_cat (pv 1) (pe_lst (pa_cons (pe_lst (pa_cons pe_int (pa_cons pe_bl pa_nil))) (pa_cons (pe_tup (pa_cons (pe_tup (pa_cons pe_int (pa_cons pe_int pa_nil))) (pa_cons pe_int pa_nil))) (pa_cons (pe_tup pa_nil) pa_nil))))) pa_nil)))))), ?_⟩
    have ot : ∀ {tb : TA} {σ : L2.St} {H1 : Hp} {xs : List V}, Same H H1 → VA tb σ H1 xs → (xs = [.int 1, .int 0] ∨ xs = [.int 1, .int (-2)] ∨ xs = [.int 1, .bl true] ∨ xs = [.int 1, .int 2, .int 3] ∨ xs = [.str "1", .int 2] ∨ xs = [.non, .int 1] ∨ xs = [.bl true, .int 2] ∨ xs = []) → EM (tTup tb) σ H1 (OdF H) := fun s h o =>
      em_tupF h (by rcases o with rfl | rfl | rfl | rfl | rfl | rfl | rfl | rfl <;> decide) fun a H' n e => ⟨.tup e o, fr_ref (none_of s n)⟩
    have ol : ∀ {tb : TA} {σ : L2.St} {H1 : Hp} {xs : List V}, Same H H1 → VA tb σ H1 xs → (xs = [.int 1] ∨ xs = [.int 2, .bl false]) → EM (tLst tb) σ H1 (OdF H) := fun s h o =>
      em_lstF h (by rcases o with rfl | rfl <;> decide) fun a H' n e => ⟨.lst e o, fr_ref (none_of s n)⟩
    refine q_lstM (Odds.stays (H0 := H) (n := 12)) (om_cons (Same.refl _) (om_val val_c .non (fun _ z => nomatch z)) fun _ s => om_cons s (om_val val_c .bl (fun _ z => nomatch z)) fun _ s => om_cons s (om_val val_c .str (fun _ z => nomatch z)) fun _ s => om_cons s (ot s (va_cons val_c (va_cons val_c va_nil)) (by simp)) fun _ s =>
      om_cons s (ot s (va_cons val_c (va_cons (v_neg val_c) va_nil)) (by simp)) fun _ s => om_cons s (ot s (va_cons val_c (va_cons val_c va_nil)) (by simp)) fun _ s => om_cons s (ol s (va_cons val_c va_nil) (by simp)) fun _ s => om_cons s (ot s (va_cons val_c (va_cons val_c (va_cons val_c va_nil))) (by simp)) fun _ s =>
      om_cons s (em_dicF (key := aK) (v := .int 1) (fun _ => val_c) fun a H' n e => ⟨.dic e, fr_ref (none_of s n)⟩) fun _ s => om_cons s (ot s (va_cons val_c (va_cons val_c va_nil)) (by simp)) fun _ s => om_cons s (ot s (va_cons val_c (va_cons val_c va_nil)) (by simp)) fun _ s => om_cons s (ot s (va_cons val_c (va_cons val_c va_nil)) (by simp)) fun _ _ => om_nil) (fun vs H' r => by rw [r.2]; decide) fun q1 xs H1 s1 e1 r1 => ?_
    refine r_ret (te := tCall _ _ _ _) (call_1 ((val_var rfl) _ (va_1 ?_)))
    refine l_catM (Odds.stays (H0 := H) (n := 3)) (val_var rfl) e1 (by rw [r1.2]; decide) (om_cons s1 (ol s1 (va_cons val_c (va_cons val_c va_nil)) (by simp)) fun _ s => om_cons s (nest s) fun _ s => om_cons s (ot s va_nil (by simp)) fun _ _ => om_nil) (fun vs H' r => by rw [r.2]; decide) fun q2 ys H2 s2 e2 r2 => ?_
    have len : (xs ++ ys).length = 15 := by rw [List.length_append, r1.2, r2.2]
    have of : ∀ v ∈ xs ++ ys, OdF H v H2 := fun v hv => by
      rcases List.mem_append.mp hv with h | h
      · exact (r1.1 v h).same s2
      · exact r2.1 v h
    exact ⟨p, c, q2, xs ++ ys, m, rfl, (hP.same s1).same s2, by omega, SqL.of e2, by omega, by omega, fun v H3 hv b3 P3 => k v H3 ((of v hv).1.but ((hP.same s1).same s2) b3) (of v hv).2 ((But.of (s1.trans s2)).trans b3) P3⟩

/-! ### the error of a call -/
theorem ExcC.xf {K : PySem.W.Frag} {C : Addr} (e : ExcC K C) : XfC K C := ⟨e.1, e.2, e.3, e.4⟩
/-- data that repr shows, of some length -/
def FineL (K : PySem.W.Frag) (H : Hp) (v : V) (d : PyData) : Prop := Dd K H v d ∧ d.showable = true ∧ d.depth ≤ 40 ∧ d.shown.length ≤ 100000 ∧ PyData.strOk d.shown = true
/-- what _law_why makes of a call: None, or the fields of a BadNumber or of a BadRow -/
def TTwhy (K : PySem.W.Frag) (mg : Str → Option Value) : (XK → Hp → VK → Prop) → Hp → VK → Prop := fun tl H Q =>
  tl (fun cls d H' => (cls = .ref (fA mg "BadNumber") ∧ ∃ (dd : Addr) (v wh : V) (t : PyData), d = some dd ∧ H' dd = some (.xd [("number", v), ("what", wh)]) ∧ Fine K H' v t ∧ ∀ (p : Addr) (H2 : Hp), Same H' H2 → H2 p = some (.tup [.str "number", wh, .str t.shown]) → Q (.ref p) H2) ∨
    (cls = .ref (fA mg "BadRow") ∧ ∃ (dd : Addr) (v : V) (t : PyData), d = some dd ∧ H' dd = some (.xd [("row", v)]) ∧ FineL K H' v t ∧ ∀ (p : Addr) (H2 : Hp), Same H' H2 → H2 p = some (.tup [.str "row", .str t.shown]) → Q (.ref p) H2))
    H (fun _ H' => Q .non H')
theorem st_ret' {te : TE} {D : Ends} {σ : L2.St} {H : Hp} (h : te σ H D.rt) : tRet te D σ H := h
theorem why_gives {X : Cx} (T : Txt X.K X.mg) (hq : Quiet X.A) {q : Str} {cdg : Value} (hr : ∀ e, Room 1 (X.A.deeper e)) : LamX.GivesTo X ["_law_call", "e"] "_law_why" (defScope s_law_why) (fA X.mg "_law_why") cdg (defBody s_law_why) "_law_call" q (TTwhy X.K X.mg) := by
  intro f c' s H Q tl act hc h
  have xT := ExcC.xf T.BadText.e
  have xN := ExcC.xf T.BadNumber.e
  have xR := ExcC.xf T.BadRow.e
  refine ⟨_, pss_cons (TM.ps_try_names (X := (cxOf C8.CX0 X.prog X.w X.K X.mg X.base ["_law_call", "e"] "_law_why" (defScope s_law_why) (fA X.mg "_law_why") cdg X.A X.stack s H C8.E0).nox) (tb := fun W D σ H => ∃ Ech : XK, (∀ cls d σ' H', Ech cls d H' → W cls d σ' H') ∧ σ[0]? = some (some (.ref f)) ∧ H c' = some (LamX.CodeO c' q) ∧ tl Ech H (fun _ H' => D.nx σ H'))
      rfl rfl sc_law_why.nd LamX.takes0 (fun W pn xe tk _ => ?_)
      (.cons (i := 1) rfl rfl ⟨by rfl, by decide, .inl T.BadText.g⟩ (fun a oe cls d pn hz hf => pss_one (ps_ret (pe_tup (pa_cons pe_str (pa_cons (pe_xf xT (T.BadText.n _ (by simp)) hz hf (pv 1)) pa_nil)))))
      (.cons (i := 1) rfl rfl ⟨by rfl, by decide, .inl T.BadNumber.g⟩ (fun a oe cls d pn hz hf => pss_one (ps_ret (pe_tup (pa_cons pe_str (pa_cons (pe_xf xN (T.BadNumber.n _ (by simp)) hz hf (pv 1)) (pa_cons (pe_callB (id := "repr") (show CallR _ _ (rShow X.K) from call_show ?_ ?_) (by rfl) T.repr (by decide +kernel) (pa_cons (pe_xf xN (T.BadNumber.n _ (by simp)) hz hf (pv 1)) pa_nil)) pa_nil))))))
      (.cons (i := 1) rfl rfl ⟨by rfl, by decide, .inl T.BadRow.g⟩ (fun a oe cls d pn hz hf => pss_one (ps_ret (pe_tup (pa_cons pe_str (pa_cons (pe_callB (id := "repr") (show CallR _ _ (rShow X.K) from call_show ?_ ?_) (by rfl) T.repr (by decide +kernel) (pa_cons (pe_xf xR (T.BadRow.n _ (by simp)) hz hf (pv 1)) pa_nil)) pa_nil))))) .nil))))
      (pss_one (ps_ret pe_non)), ?_⟩
  case refine_1 =>
    refine ⟨fun pins s' σ H' D I h' => ?_⟩
    obtain ⟨Ech, hW, h1, h2, h3⟩ := h'
    exact (pss_one (ps_expr (act W pn xe Ech _ _ tk hW))).run pins s' σ H' D I ⟨h1, h2, h3⟩
  case refine_6 =>
    refine ⟨_, fun cls d σ' H' e => ?_, rfl, hc, h⟩
    rcases e with e | e
    case inr =>
      obtain ⟨rfl, dd, v, t, rfl, hx, hF, k⟩ := e
      intro hl
      refine ⟨false, T.xBadRowBadText, And.intro (fun z => (Bool.false_ne_true z).elim) (fun _ => ?_)⟩
      refine ⟨false, T.xBadRowBadNumber, And.intro (fun z => (Bool.false_ne_true z).elim) (fun _ => ?_)⟩
      refine ⟨true, T.xBadRowBadRow, And.intro (fun _ a ha => ?_) (fun z => (Bool.false_ne_true z.symm).elim)⟩
      have h1 : (σ'.set 1 (some (V.ref a)))[1]? = some (some (V.ref a)) := by
        rw [List.getElem?_set_self (by rw [hl]; show 1 < 2; decide)]
      have n1 : Val (tXf a (.ref (fA X.mg "BadRow")) (some dd) (fA X.mg "BadRow") "row" (tVar 1)) (σ'.set 1 (some (V.ref a))) H' v := fun Q q => (val_var h1) _ ⟨rfl, rfl, dd, _, _, rfl, hx, rfl, q⟩
      refine st_ret' (l_tup (va_cons val_c (va_cons (v_show n1 hF.1 hF.2.1 hF.2.2.1 hF.2.2.2.1) va_nil)) (by show 2 ≤ 100000; decide) fun p hp => k p _ (Same.new' hp) upd_same)
    obtain ⟨rfl, dd, v, wh, t, rfl, hx, hF, k⟩ := e
    intro hl
    refine ⟨false, T.xBadNumberBadText, And.intro (fun z => (Bool.false_ne_true z).elim) (fun _ => ?_)⟩
    refine ⟨true, T.xBadNumberBadNumber, And.intro (fun _ a ha => ?_) (fun z => (Bool.false_ne_true z.symm).elim)⟩
    have h1 : (σ'.set 1 (some (V.ref a)))[1]? = some (some (V.ref a)) := by
      rw [List.getElem?_set_self (by rw [hl]; show 1 < 2; decide)]
    have fd : ∀ {n : Str} {z : V}, ([("number", v), ("what", wh)] : List (Str × V)).lookup n = some z → Val (tXf a (.ref (fA X.mg "BadNumber")) (some dd) (fA X.mg "BadNumber") n (tVar 1)) (σ'.set 1 (some (V.ref a))) H' z := fun l Q q =>
      (val_var h1) _ ⟨rfl, rfl, dd, _, _, rfl, hx, l, q⟩
    have w1 := fd (n := "what") (z := wh) (by
      have ne : (("what" : Str) == ("number" : Str)) = false := by decide +kernel
      rw [List.lookup_cons, ne]
      rfl)
    have n1 := fd (n := "number") (z := v) rfl
    refine st_ret' (l_tup (va_cons val_c (va_cons w1 (va_cons (v_show n1 hF.1 hF.2.1 (Nat.le_trans hF.2.2.1 (by decide)) (Nat.le_trans hF.2.2.2.1 (by decide))) va_nil))) (by show 3 ≤ 100000; decide) fun p hp => k p _ (Same.new' hp) upd_same)
  all_goals first | exact hq | exact (hu64 (hr (envOfC "_law_why" (defScope s_law_why) s.heap.objs.size (fA X.mg "_law_why") cdg)) :)
end
end LW

namespace LW
open PySem PySem.Spec PyProof.Rows L2 GL
section
variable {P : Program} {w : World} {K : PySem.W.Frag} {mg : Str → Option Value} {base : Heap}

theorem pi_or {X : Cx} {tg iter : Expr} {w1 w2 : TI} (h1 : PI X tg iter w1) (h2 : PI X tg iter w2) : PI X tg iter (fun σ H R => w1 σ H R ∨ w2 σ H R) := ⟨fun pins s σ H R I h => h.elim (h1.run pins s σ H R I) (h2.run pins s σ H R I)⟩
/-- a list or a tuple -/
def Seq (K : PySem.W.Frag) (H : Hp) (a : Addr) (xs : List V) : Prop := SqL K H a xs ∨ SqT K H a xs
theorem Seq.same {K : PySem.W.Frag} {H H' : Hp} {a : Addr} {xs : List V} (h : Seq K H a xs) (s : Same H H') : Seq K H' a xs := h.elim (fun z => .inl (s.seq z)) fun z => .inr (sqt_same s z)
theorem Sq.seq {K : PySem.W.Frag} {H : Hp} {a : Addr} {xs : List V} (h : Sq H a xs) : Seq K H a xs := h.elim (fun z => .inl (SqL.of z)) fun z => .inr (SqT.of z)
/-- one turn of a comprehension: what is stored in its names, then its item -/
def Turn1 (g : TG) (te : TE) (vs : List Nat) (σ : L2.St) (x : V) (H : Hp) (R : V → Hp → Prop) : Prop := ∀ K' : L2.St → Hp → Prop, (∀ σ2, wipe σ2 vs = wipe σ vs → EM te σ2 H R → K' σ2 H) → g x (wipe σ vs) H K'
theorem turn_name {te : TE} {vs : List Nat} {σ : L2.St} {x : V} {H : Hp} {R : V → Hp → Prop} {j : Nat} (hw : wipe ((wipe σ vs).set j (some x)) vs = wipe σ vs) (h : EM te ((wipe σ vs).set j (some x)) H R) : Turn1 (gName j) te vs σ x H R := fun K' k => k _ hw h
theorem turn_two {K : PySem.W.Frag} {te : TE} {vs : List Nat} {σ : L2.St} {x y : V} {t : Addr} {H : Hp} {R : V → Hp → Prop} {i j : Nat} (ht : SqT K H t [x, y]) (hw : wipe (((wipe σ vs).set i (some x)).set j (some y)) vs = wipe σ vs) (h : EM te (((wipe σ vs).set i (some x)).set j (some y)) H R) :
    Turn1 (gTup K 2 (gCons (gName i) (gCons (gName j) gNil))) te vs σ (.ref t) H R := fun K' k => g_two ht (k _ hw h)
theorem em_val {te : TE} {σ : L2.St} {H : Hp} {v : V} {R : V → Hp → Prop} (h : Val te σ H v) (r : R v H) : EM te σ H R := fun Q q => h _ (q v H (Same.refl H) r)
section
variable {σ : L2.St} {H : Hp} {g : TG} {te ti : TE} {vs : List Nat} {Q : VK} {a : Addr} {xs : List V} {R : Nat → V → Hp → Prop}
/-- what the comprehension's list holds -/
def LcP (R : Nat → V → Hp → Prop) (H : Hp) (D : Addr) (i : Nat) (H' : Hp) : Prop := ∃ ys, Same H H' ∧ H' D = some (.lst ys) ∧ H D = none ∧ Rows R 0 i ys H'
/-- a change of a list leaves it -/
def Off (R : Nat → V → Hp → Prop) : Prop := ∀ k v H D ys zs, R k v H → H D = some (.lst ys) → R k v (upd H D (.lst zs))
theorem Run.off (of : Off R) {H : Hp} {D : Addr} {ws zs : List V} (e : H D = some (.lst ws)) : ∀ {k : Nat} {ys : List V}, Run R k ys H → Run R k ys (upd H D (.lst zs))
  | _, [], _ => trivial
  | _, _ :: _, ⟨x, y⟩ => ⟨of _ _ _ _ _ _ x e, Run.off of e y⟩
theorem lc_step (st : ∀ k, Stays (R k)) (of : Off R) {x : V} {i : Nat} {D : Addr} {H1 : Hp} (p : LcP R H D i H1) (hn : i < 10000) (ht : Same H H1 → Turn1 g te vs σ x H1 (R i)) :
    g x (wipe σ vs) H1 fun σ2 H2 => wipe σ2 vs = wipe σ vs ∧ tYes σ2 H2 fun b H3 => if b = true then te σ2 H3 fun y H4 => ∃ acc, H4 D = some (.lst acc) ∧ acc.length < sizeLine ∧ LcP R H D (i + 1) (upd H4 D (.lst (acc ++ [y]))) else LcP R H D (i + 1) H3 := by
  obtain ⟨ys, s, e, nD, r⟩ := p
  refine ht s _ fun σ2 hw em => ⟨hw, ?_⟩
  show (if true = true then te _ _ _ else LcP R H D (i + 1) H1)
  rw [if_pos rfl]
  refine em _ fun v H4 s4 rv => ⟨ys, s4 _ _ e, by rw [r.2]; exact Nat.lt_of_lt_of_le hn (by decide), ys ++ [v], ?_, upd_same, nD, ?_⟩
  · intro b o z
    rw [upd_ne (ne_of_none z nD)]
    exact s4 _ _ (s b o z)
  · have r4 := Rows.stays st ys H1 H4 s4 r
    refine ⟨Run.off of (s4 _ _ e) (Run.app r4.1 ⟨?_, trivial⟩), by rw [List.length_append, r4.2]; rfl⟩
    rw [r4.2, Nat.zero_add]
    exact rv
/-- [e for .. in xs] -/
theorem l_lcS (st : ∀ k, Stays (R k)) (of : Off R) (h : Val ti σ H (.ref a)) (hx : Seq K H a xs) (hn : xs.length ≤ 10000) (hs : ∀ i x H1, xs[i]? = some x → Same H H1 → Turn1 g te vs σ x H1 (R i))
    (q : ∀ p ys H', Same H H' → H' p = some (.lst ys) → Rows R 0 xs.length ys H' → Q (.ref p) H') : tLc (fun σ H R => iList K ti σ H R ∨ iTup K ti σ H R) g tYes te vs σ H Q := by
  have start : ∀ D, H D = none → LcP R H D 0 (upd H D (.lst [])) := fun D hD => ⟨[], Same.new' hD, upd_same, hD, trivial, rfl⟩
  have fin : ∀ D H1, LcP R H D xs.length H1 → Q (.ref D) H1 := fun D H1 ⟨ys, s, e, _, r⟩ => q D ys H1 s e r
  have step : ∀ D i x H1, xs[i]? = some x → LcP R H D i H1 → _ := fun D i x H1 e p => lc_step (g := g) (te := te) (vs := vs) (σ := σ) st of p (by
    have := (List.getElem?_eq_some_iff.mp e).1
    omega) (hs i x H1 e)
  rcases hx with hx | hx
  · exact .inl (h _ ⟨a, rfl, ⟨xs, hx⟩, fun D hD => lc_list (K := K) (a := a) (xs := xs) (LcP R H D) (start D hD) (fun i H1 _ p => p.choose_spec.1.seq hx) (step D) (fun H1 p => fin D H1 p)⟩)
  · exact .inr (h _ ⟨a, rfl, ⟨xs, hx⟩, fun D hD => lc_tup (K := K) (a := a) (xs := xs) (LcP R H D) (start D hD) (fun i H1 _ p => sqt_same p.choose_spec.1 hx) (step D) (fun H1 p => fin D H1 p)⟩)
theorem l_lcL (st : ∀ k, Stays (R k)) (of : Off R) (h : Val ti σ H (.ref a)) (hx : SqL K H a xs) (hn : xs.length ≤ 10000) (hs : ∀ i x H1, xs[i]? = some x → Same H H1 → Turn1 g te vs σ x H1 (R i))
    (q : ∀ p ys H', Same H H' → H' p = some (.lst ys) → Rows R 0 xs.length ys H' → Q (.ref p) H') : tLc (iList K ti) g tYes te vs σ H Q :=
  h _ ⟨a, rfl, ⟨xs, hx⟩, fun D hD => lc_list (K := K) (a := a) (xs := xs) (LcP R H D) ⟨[], Same.new' hD, upd_same, hD, trivial, rfl⟩ (fun i H1 _ p => p.choose_spec.1.seq hx) (fun i x H1 e p => lc_step st of p (by
    have := (List.getElem?_eq_some_iff.mp e).1
    omega) (hs i x H1 e)) (fun H1 ⟨ys, s, e, _, r⟩ => q D ys H1 s e r)⟩
theorem l_lcT (st : ∀ k, Stays (R k)) (of : Off R) (h : Val ti σ H (.ref a)) (hx : SqT K H a xs) (hn : xs.length ≤ 10000) (hs : ∀ i x H1, xs[i]? = some x → Same H H1 → Turn1 g te vs σ x H1 (R i))
    (q : ∀ p ys H', Same H H' → H' p = some (.lst ys) → Rows R 0 xs.length ys H' → Q (.ref p) H') : tLc (iTup K ti) g tYes te vs σ H Q :=
  h _ ⟨a, rfl, ⟨xs, hx⟩, fun D hD => lc_tup (K := K) (a := a) (xs := xs) (LcP R H D) ⟨[], Same.new' hD, upd_same, hD, trivial, rfl⟩ (fun i H1 _ p => sqt_same p.choose_spec.1 hx) (fun i x H1 e p => lc_step st of p (by
    have := (List.getElem?_eq_some_iff.mp e).1
    omega) (hs i x H1 e)) (fun H1 ⟨ys, s, e, _, r⟩ => q D ys H1 s e r)⟩
theorem l_lcR {n : Nat} {ta : TA} (st : ∀ k, Stays (R k)) (of : Off R) (h : VA ta σ H [.int (n : Int)]) (hn : n ≤ 10000) (hs : ∀ i H1, i < n → Same H H1 → Turn1 g te vs σ (.int (i : Int)) H1 (R i))
    (q : ∀ p ys H', Same H H' → H' p = some (.lst ys) → Rows R 0 n ys H' → Q (.ref p) H') : tLc (iRng1 ta) g tYes te vs σ H Q := by
  refine h _ ⟨(n : Int), rfl, by omega, by omega, fun D hD => lc_range (lo := 0) (n := (n : Int).toNat) (LcP R H D) ⟨[], Same.new' hD, upd_same, hD, trivial, rfl⟩ (fun i H1 hi p => ?_) (fun H1 ⟨ys, s, e, _, r⟩ => q D ys H1 s e (by rw [Int.toNat_natCast] at r; exact r))⟩
  rw [Int.zero_add]
  exact lc_step st of p (by omega) (hs i H1 (by omega))
theorem l_lcR2 {lo : Int} {n : Nat} {ta : TA} (st : ∀ k, Stays (R k)) (of : Off R) (h : VA ta σ H [.int lo, .int (lo + (n : Int))]) (h0 : 0 ≤ lo) (h1 : lo ≤ 10000) (hn : n ≤ 10000) (hs : ∀ i H1, i < n → Same H H1 → Turn1 g te vs σ (.int (lo + (i : Int))) H1 (R i))
    (q : ∀ p ys H', Same H H' → H' p = some (.lst ys) → Rows R 0 n ys H' → Q (.ref p) H') : tLc (iRng2 ta) g tYes te vs σ H Q := by
  have e : (lo + (n : Int) - lo).toNat = n := by omega
  refine h _ ⟨lo, lo + n, rfl, ⟨by omega, by omega, by omega, by omega⟩, fun D hD => lc_range (lo := lo) (n := (lo + (n : Int) - lo).toNat) (LcP R H D) ⟨[], Same.new' hD, upd_same, hD, trivial, rfl⟩ (fun i H1 hi p => ?_) (fun H1 ⟨ys, s, e2, _, r⟩ => q D ys H1 s e2 (by rw [e] at r; exact r))⟩
  exact lc_step st of p (by omega) (hs i H1 (by omega))
end

/-! ### ratios as values -/
def Lo (H : Hp) (t : Addr) (q : Rat) : Prop := H t = some (.tup [.int q.num, .int (q.den : Int)])
def Rq (H : Hp) (v : V) (q : Rat) : Prop := ∃ i j, Rt H v i j ∧ Fit i j ∧ q = Rat.divInt i j
theorem Lo.same {H H' : Hp} {t : Addr} {q : Rat} (h : Lo H t q) (s : Same H H') : Lo H' t q := s _ _ h
theorem Rq.same {H H' : Hp} {v : V} {q : Rat} (h : Rq H v q) (s : Same H H') : Rq H' v q := by
  obtain ⟨i, j, r, f, e⟩ := h
  exact ⟨i, j, r.same s, f, e⟩
theorem low_rat (i : Int) {j : Int} (hj : 0 < j) : i / gI i j = (Rat.divInt i j).num ∧ j / gI i j = ((Rat.divInt i j).den : Int) := by
  have g : (Int.gcd j i : Int) = gI i j := by
    unfold gI Int.gcd
    rw [Nat.gcd_comm]
  constructor
  · rw [Rat.num_divInt, Int.sign_eq_one_of_pos hj, Int.one_mul, g]
  · rw [Rat.den_divInt, if_neg (by omega), Int.natCast_ediv, g]
    congr 1
    omega
/-- below 2 ^ n -/
def Sm (n : Nat) (q : Rat) : Prop := q.num.natAbs < 2 ^ n ∧ q.den < 2 ^ n
theorem Sm.mono {n m : Nat} {q : Rat} (h : Sm n q) (l : n ≤ m) : Sm m q := ⟨Nat.lt_of_lt_of_le h.1 (Nat.pow_le_pow_right (by decide) l), Nat.lt_of_lt_of_le h.2 (Nat.pow_le_pow_right (by decide) l)⟩
theorem Sm.fit {n : Nat} {q : Rat} (h : Sm n q) (l : n ≤ 1000) : Fit q.num (q.den : Int) := ⟨(h.mono l).1, by rw [Int.natAbs_natCast]; exact (h.mono l).2⟩
theorem Lo.rt {H : Hp} {t : Addr} {q : Rat} (h : Lo H t q) : Rt H (.ref t) q.num (q.den : Int) := .pair (.inr h) (by have := q.den_pos; omega)
theorem Lo.rq {H : Hp} {t : Addr} {q : Rat} {n : Nat} (h : Lo H t q) (b : Sm n q) (l : n ≤ 1000) : Rq H (.ref t) q := ⟨_, _, h.rt, b.fit l, by rw [Rat.divInt_ofNat, Rat.mkRat_self]⟩
theorem Rq.yes {H : Hp} {v : V} {q : Rat} (h : Rq H v q) : RatQ H v true := by
  obtain ⟨i, j, r, f, e⟩ := h
  exact r.yes
section
variable {σ : L2.St} {H : Hp} {ta : TA} {v u wh : V} {q r : Rat} {Q : VK} {E : XK}
theorem c_told (h : VA ta σ H [v, wh]) (r : Rq H v q) (k : ∀ p H', Same H H' → Lo H' p q → Q (.ref p) H') : tCall (sp_told mg) [] E ta σ H Q := by
  obtain ⟨i, j, rt, f, e⟩ := r
  refine c_call h ⟨v, wh, rfl, .inl ⟨i, j, rt, f, fun p H' s z => k p H' s ?_⟩⟩
  rw [(low_rat i rt.pos).1, (low_rat i rt.pos).2, ← e] at z
  exact z
theorem c_plus (h : VA ta σ H [v, u]) (a : Rq H v q) (b : Rq H u r) (k : ∀ p H', Same H H' → Lo H' p (q + r) → Q (.ref p) H') : tCall (sp_plus mg) [] E ta σ H Q := by
  obtain ⟨i, j, rt, f, e⟩ := a
  obtain ⟨i', j', rt', f', e'⟩ := b
  refine c_call h ⟨v, u, rfl, .inl ⟨i, j, i', j', rt, rt', f, f', fun p H' s z => k p H' s ?_⟩⟩
  have hj := rt.pos
  have hj' := rt'.pos
  have hl := low_rat (i * j' + i' * j) (Int.mul_pos hj hj')
  rw [hl.1, hl.2] at z
  unfold Lo
  rw [e, e', Rat.divInt_add_divInt _ _ (by omega) (by omega)]
  exact z
theorem c_times (h : VA ta σ H [v, u]) (a : Rq H v q) (b : Rq H u r) (k : ∀ p H', Same H H' → Lo H' p (q * r) → Q (.ref p) H') : tCall (sp_times mg) [] E ta σ H Q := by
  obtain ⟨i, j, rt, f, e⟩ := a
  obtain ⟨i', j', rt', f', e'⟩ := b
  refine c_call h ⟨v, u, rfl, .inl ⟨i, j, i', j', rt, rt', f, f', fun p H' s z => k p H' s ?_⟩⟩
  have hl := low_rat (i * i') (Int.mul_pos rt.pos rt'.pos)
  rw [hl.1, hl.2] at z
  unfold Lo
  rw [e, e', Rat.divInt_mul_divInt]
  exact z
end

/-! ### rows -/
inductive All2 {α β : Type} (R : α → β → Prop) : List α → List β → Prop
  | nil : All2 R [] []
  | cons {a : α} {b : β} {as : List α} {bs : List β} (h : R a b) (t : All2 R as bs) : All2 R (a :: as) (b :: bs)
theorem All2.imp {α β : Type} {R S : α → β → Prop} (f : ∀ a b, R a b → S a b) {as : List α} {bs : List β} (h : All2 R as bs) : All2 S as bs := by
  induction h with
  | nil => exact .nil
  | cons h _ ih => exact .cons (f _ _ h) ih
theorem All2.len {α β : Type} {R : α → β → Prop} {as : List α} {bs : List β} (h : All2 R as bs) : as.length = bs.length := by
  induction h with
  | nil => rfl
  | cons _ _ ih => rw [List.length_cons, List.length_cons, ih]
theorem All2.get {α β : Type} {R : α → β → Prop} {as : List α} {bs : List β} (h : All2 R as bs) : ∀ {i : Nat} {a : α}, as[i]? = some a → ∃ b, bs[i]? = some b ∧ R a b := by
  induction h with
  | nil => intro i a e; simp at e
  | cons h _ ih =>
    intro i a e
    cases i with
    | zero => simp at e; subst e; exact ⟨_, rfl, h⟩
    | succ i => simp at e; obtain ⟨b, hb, r⟩ := ih e; exact ⟨b, by simpa using hb, r⟩
theorem All2.mk {α β : Type} {R : α → β → Prop} : ∀ {as : List α} {bs : List β}, as.length = bs.length → (∀ (i : Nat) (a : α) (b : β), as[i]? = some a → bs[i]? = some b → R a b) → All2 R as bs
  | [], [], _, _ => .nil
  | a :: as, b :: bs, e, h => .cons (h 0 a b rfl rfl) (All2.mk (as := as) (bs := bs) (by simpa using e) fun (i : Nat) x y h1 h2 => h (i + 1) x y (by simpa using h1) (by simpa using h2))
theorem rows_map {β : Type} {f : β → V} {bs : List β} {n : Nat} {ys : List V} {H : Hp} (r : Rows (fun i v _ => ∃ b, bs[i]? = some b ∧ v = f b) 0 n ys H) (e : bs.length = n) : ys = bs.map f := by
  refine List.ext_getElem? fun i => ?_
  rw [List.getElem?_map]
  cases h : ys[i]? with
  | some v =>
    obtain ⟨b, hb, rfl⟩ := r.1.get h
    rw [Nat.zero_add] at hb
    rw [hb]
    rfl
  | none =>
    have h1 := List.getElem?_eq_none_iff.mp h
    have h2 : bs.length ≤ i := by rw [e, ← r.2]; exact h1
    rw [List.getElem?_eq_none_iff.mpr h2]
    rfl
/-- what is_row answers -/
def spRow (K : PySem.W.Frag) : Sp := fun vs H Q _ => ∃ v, vs = [v] ∧ ((∃ n, Is H v n ∧ n ≠ "list" ∧ n ≠ "tuple" ∧ ∀ H', Same H H' → Q (.bl false) H') ∨ ∃ a xs bs, v = .ref a ∧ Sq H a xs ∧ xs.length ≤ 1000 ∧ All2 (RatQ H) xs bs ∧ ∀ H', Same H H' → Q (.bl (bs.all id)) H')
theorem ok_is_row (T : Txt K mg) : FnOk P w K mg base CX0 5 (fA mg "is_row") (fDat K (fA mg "is_row")) ["value"] (spRow K) := by
  have Gis_ratio := ok_is_ratio (P := P) (w := w) (base := base) T
  refine T.is_row.F.ok scis_row (fun vs H Q E h => ?_) (fun cdv A outer s H vs Q E hr h => ?_)
  · obtain ⟨v, rfl, _⟩ := h
    rfl
  obtain ⟨v, rfl, h⟩ := h
  refine ⟨_, (pss_one (ps_ret (pe_and (pe_callB call_isiT (by rfl) T.isinstance (by decide +kernel) (pa_cons (pv 0) (pa_cons (pe_tup (pa_cons (pe_bltn (v := .ty "tuple") (by rfl) T.tuple (by decide +kernel) rfl) (pa_cons (pe_bltn (v := .ty "list") (by rfl) T.list (by decide +kernel) rfl) pa_nil))) pa_nil))) (pe_one (pe_callB (cr_all rfl) (by rfl) T.all (by decide +kernel) (pa_cons (pe_lc (own := [("number", 1)]) (g := gName 1) (tt := tYes) (by rfl) scis_row.nd (pi_or (pi_list (pv 0)) (pi_tup (pv 0))) (blkOk_by (own := [("number", 1)]) (N := ["value", "number"]) (sc := defScope sis_row) (by decide +kernel)) (fun _ _ _ _ _ => pg_name (i := 1) scis_row.nd rfl (Or.inl rfl)) (fun _ _ _ _ _ => pts_nil) (fun _ _ _ _ _ => (pe_c T.is_ratio Gis_ratio (hr.mono (by decide)) (pa_cons (pv 1) pa_nil)))) pa_nil)))))), ?_⟩
  have both : ∀ {n : String} {Q' : VK}, Is H v n → (∀ H2, Same H H2 → Q' (.bl (decide (n = "tuple") || decide (n = "list"))) H2) →
      tCB (rIsiT K) (tCons (tVar 0) (tCons (tTup (tCons (tC (.ty "tuple")) (tCons (tC (.ty "list")) tNil))) tNil)) [some v, none] H Q' := fun {n Q'} i q =>
    ⟨v, rfl, ⟨by show 2 ≤ sizeLine; decide, fun p hp => ⟨v, p, [.ty "tuple", .ty "list"], _, [.type "tuple", .type "list"], _, rfl, upd_same, .cons (.ty _) (.cons (.ty _) .nil), (i.same (Same.new' hp)).ty.1, kit_seq (i.ty (K := K)).2, q _ (Same.new' hp)⟩⟩⟩
  refine r_ret ?_
  rcases h with ⟨n, i, n1, n2, k⟩ | ⟨a, xs, bs, rfl, hS, hl, hR, k⟩
  · refine both i fun H2 s2 => ⟨_, rfl, ?_⟩
    rw [decide_eq_false n2, decide_eq_false n1]
    exact iteF (k H2 s2)
  · obtain ⟨n, i, o⟩ := hS.is
    refine both i fun H2 s2 => ⟨_, rfl, ?_⟩
    have e : (decide (n = "tuple") || decide (n = "list")) = true := by rcases o with rfl | rfl <;> decide
    rw [e]
    refine iteT (cb_one ?_)
    refine l_lcS (R := fun i v _ => ∃ b, bs[i]? = some b ∧ v = V.bl b) (fun _ _ _ _ _ h => h) (fun _ _ _ _ _ _ h _ => h) (val_var rfl) (hS.same s2).seq (by omega) (fun i x H3 e s3 => turn_name rfl fun Q q => ?_) (fun p ys H4 s4 e4 r4 => ⟨p, bs, rfl, ?_, k H4 (s2.trans s4)⟩)
    · obtain ⟨b, hb, rb⟩ := hR.get e
      exact c_call (va_cons (val_var rfl) va_nil) ⟨x, b, rfl, rb.same (s2.trans s3), fun H' s' => q _ H' s' ⟨b, hb, rfl⟩⟩
    · rw [← rows_map r4 hR.len.symm]
      exact SqL.of e4

/-! ### whole rows -/
def rLcm : List V → Hp → VK → Prop := fun vs H Q => ∃ a b : Int, vs = [.int a, .int b] ∧ a.natAbs < 2 ^ 6000 ∧ b.natAbs < 2 ^ 6000 ∧ Q (.int ((Nat.lcm a.natAbs b.natAbs : Nat) : Int)) H
theorem log_6000 {n : Nat} (h : n < 2 ^ 6000) : n.log2 < 6000 := by
  rcases Nat.eq_zero_or_pos n with z | z
  · rw [z]; decide
  · exact (Nat.log2_lt (by omega)).mpr h
theorem cr_lcm {X : Cx} : CallR X (.builtin "math.lcm") rLcm := by
  intro pins s σ H vs us Q I r h
  obtain ⟨a, b, rfl, ha, hb, q⟩ := h
  obtain ⟨t, u, rfl⟩ := Vals.int2 r
  have one : Nat.lcm 1 a.natAbs = a.natAbs := by simp [Nat.lcm]
  have h1 := log_6000 (n := max 1 a.natAbs) (by have : (1 : Nat) < 2 ^ 6000 := Nat.one_lt_two_pow (by decide); omega)
  have h2 := log_6000 (n := max a.natAbs b.natAbs) (by omega)
  have h3 : ((((Nat.lcm 1 a.natAbs).lcm b.natAbs : Nat) : Int)).natAbs.log2 < bitsLine := by
    rw [one, Int.natAbs_natCast]
    have l : a.natAbs.lcm b.natAbs ≤ a.natAbs * b.natAbs := Nat.div_le_self _ _
    have m : a.natAbs * b.natAbs < 2 ^ 12000 := by
      rw [show 12000 = 6000 + 6000 from rfl, Nat.pow_add]
      exact Nat.mul_lt_mul'' ha hb
    refine Nat.lt_of_lt_of_le (m := 12000) ?_ (by decide)
    rcases Nat.eq_zero_or_pos (a.natAbs.lcm b.natAbs) with z | z
    · rw [z]; decide
    · exact (Nat.log2_lt (by omega)).mpr (Nat.lt_of_le_of_lt l m)
  refine PySem.call_function_meets PySem.W.MGF.kind_lcm PySem.W.MGF.plain_lcm PySem.W.MGF.entry_lcm (PySem.W.MGF.args_lcm _ _) (PySem.W.mg_run_lcm a t b u (by omega) (by omega) h3).meets ?_
  rw [one]
  exact ⟨.int _, H, I.tok _, ⟨_, rfl⟩, q⟩
theorem q_forT {g : TG} {te : TE} {tb tz : TS} {D : Ends} {σ : L2.St} {H : Hp} {a : Addr} {xs : List V} (h : Val te σ H (.ref a)) (hx : SqT K H a xs) (Pv : Nat → L2.St → Hp → Prop) (h0 : Pv 0 σ H) (hl : ∀ i σ H, Pv i σ H → SqT K H a xs)
    (hs : ∀ i x σ H, xs[i]? = some x → Pv i σ H → g x σ H fun σ2 H2 => tb { D with nx := Pv (i + 1), ct := Pv (i + 1), bk := tz D } σ2 H2) (hd : ∀ σ H, Pv xs.length σ H → tz D σ H) : tSeq (tFor (iTup K te) g tb) tz D σ H :=
  h _ ⟨a, rfl, ⟨_, hx⟩, for_tup (K := K) (a := a) (xs := xs) (D := { D with nx := tz D }) Pv h0 (fun i σ H _ p => hl i σ H p) hs hd⟩
/-- a tuple of told ratios -/
def Los (H : Hp) (t : Addr) (xs : List Rat) : Prop := ∃ vs, H t = some (.tup vs) ∧ All2 (fun v q => ∃ p, v = .ref p ∧ Lo H p q) vs xs
theorem Los.same {H H' : Hp} {t : Addr} {xs : List Rat} (h : Los H t xs) (s : Same H H') : Los H' t xs := by
  obtain ⟨vs, e, a⟩ := h
  exact ⟨vs, s _ _ e, a.imp fun v q ⟨p, e, l⟩ => ⟨p, e, l.same s⟩⟩
def Sms (n : Nat) (xs : List Rat) : Prop := ∀ q ∈ xs, Sm n q
theorem get_mem {α : Type} {xs : List α} {i : Nat} {a : α} (h : xs[i]? = some a) : a ∈ xs := List.mem_of_getElem? h
def spBot : Sp := fun vs H Q _ => ∃ (t : Addr) (xs : List Rat) (n : Nat), vs = [.ref t] ∧ Los H t xs ∧ Sms n xs ∧ n * xs.length + n ≤ 900 ∧ xs.length ≤ 1000 ∧ ∀ (D : Nat) (H' : Hp), Same H H' → 0 < D → D ≤ 2 ^ (n * xs.length) → (∀ q ∈ xs, q.den ∣ D) → Q (.int (D : Int)) H'
theorem ok_bottom_of (T : Txt K mg) : FnOk P w K mg base CX0 1 (fA mg "bottom_of") (fDat K (fA mg "bottom_of")) ["pairs"] spBot := by
  refine T.bottom_of.F.ok scbottom_of (fun vs H Q E h => ?_) (fun cdv A outer s H vs Q E hr h => ?_)
  · obtain ⟨t, xs, n, rfl, _⟩ := h
    rfl
  obtain ⟨t, xs, n, rfl, ⟨vs, e, al⟩, sm, hn, hl, k⟩ := h
  refine ⟨_, (pss_cons (ps_set (i := 1) scbottom_of.nd rfl (Or.inl rfl) pe_int)
  (pss_cons (ps_for PassesOwn.never rfl (pi_tup (pv 0)) (pg_tup rfl (pgs_cons (pg_name (i := 2) scbottom_of.nd rfl (Or.inl rfl)) (pgs_cons (pg_name (i := 3) scbottom_of.nd rfl (Or.inl rfl)) pgs_nil)))
  (pss_one (ps_set (i := 1) scbottom_of.nd rfl (Or.inl rfl) (pe_callBfun cr_lcm (by rfl) T.lcm (pa_cons (pv 1) (pa_cons (pv 3) pa_nil))))))
  (pss_one (ps_ret (pv 1))))), ?_⟩
  refine q_set val_c ?_
  refine q_forT (val_var rfl) (SqT.of e) (fun i σ H1 => Same H H1 ∧ ∃ (D : Nat) (z1 z2 : Option V), σ = [some (.ref t), some (.int (D : Int)), z1, z2] ∧ 0 < D ∧ D ≤ 2 ^ (n * i) ∧ ∀ j q, j < i → xs[j]? = some q → q.den ∣ D) ⟨Same.refl H, 1, none, none, rfl, by decide, by rw [Nat.mul_zero]; decide, fun j q h => absurd h (by omega)⟩ (fun i σ H1 z => SqT.of (z.1 _ _ e)) (fun i v σ H1 hv z => ?_) (fun σ H1 z => ?_)
  · obtain ⟨s1, D, z1, z2, rfl, d0, dl, dd⟩ := z
    obtain ⟨q, hq, p, rfl, lo⟩ := al.get hv
    have sq := sm q (get_mem hq)
    have il : i < xs.length := (List.getElem?_eq_some_iff.mp hq).1
    refine g_two (SqT.of (lo.same s1)) ?_
    have nle : n * i + n ≤ n * xs.length := by
      rw [← Nat.mul_succ]
      exact Nat.mul_le_mul_left _ il
    have big : ∀ m : Nat, m ≤ 900 → (2 : Nat) ^ m < 2 ^ 6000 := fun m h => Nat.pow_lt_pow_right (by decide) (by omega)
    refine (v_cb (z := .int ((Nat.lcm D q.den : Nat) : Int)) (va_cons (val_var rfl) (va_cons (val_var rfl) va_nil)) fun Q' q' => ⟨(D : Int), (q.den : Int), rfl, by rw [Int.natAbs_natCast]; exact Nat.lt_of_le_of_lt dl (big _ (by omega)), by rw [Int.natAbs_natCast]; exact Nat.lt_trans sq.2 (big n (by omega)), by rw [Int.natAbs_natCast, Int.natAbs_natCast]; exact q'⟩ : Val _ _ _ _) _ ?_
    refine ⟨s1, Nat.lcm D q.den, _, _, rfl, Nat.lcm_pos d0 q.den_pos, ?_, fun j q2 hj h2 => ?_⟩
    · rw [Nat.mul_succ, Nat.pow_add]
      exact Nat.le_trans (Nat.div_le_self _ _) (Nat.mul_le_mul dl (Nat.le_of_lt sq.2))
    · rcases Nat.lt_or_ge j i with lt | ge
      · exact Nat.dvd_trans (dd j q2 lt h2) (Nat.dvd_lcm_left _ _)
      · have ej : j = i := by omega
        subst ej
        rw [hq] at h2
        cases h2
        exact Nat.dvd_lcm_right _ _
  · obtain ⟨s1, D, z1, z2, rfl, d0, dl, dd⟩ := z
    rw [al.len] at dl dd
    refine st_ret (val_var rfl) (k D H1 s1 d0 dl fun q hq => ?_)
    obtain ⟨j, hj, e2⟩ := List.getElem_of_mem hq
    exact dd j q hj (by rw [List.getElem?_eq_getElem hj, e2])
/-- whole numbers over one bottom -/
def tops (D : Nat) (xs : List Rat) : List Int := xs.map fun q => q.num * ((D / q.den : Nat) : Int)
def spWhole : Sp := fun vs H Q _ => ∃ (t : Addr) (xs : List Rat) (n : Nat), vs = [.ref t] ∧ Los H t xs ∧ Sms n xs ∧ n * xs.length + n ≤ 900 ∧ xs.length ≤ 1000 ∧ ∀ (p l : Addr) (D : Nat) (H' : Hp), Same H H' → 0 < D → D ≤ 2 ^ (n * xs.length) → (∀ q ∈ xs, q.den ∣ D) → H' p = some (.tup [.ref l, .int (D : Int)]) → H' l = some (.lst ((tops D xs).map V.int)) → Q (.ref p) H'
theorem ok_whole_row (T : Txt K mg) : FnOk P w K mg base CX0 3 (fA mg "whole_row") (fDat K (fA mg "whole_row")) ["pairs"] spWhole := by
  have Gbottom_of := ok_bottom_of (P := P) (w := w) (base := base) T
  refine T.whole_row.F.ok scwhole_row (fun vs H Q E h => ?_) (fun cdv A outer s H vs Q E hr h => ?_)
  · obtain ⟨t, xs, n, rfl, _⟩ := h
    rfl
  obtain ⟨t, xs, n, rfl, ⟨vs, e, al⟩, sm, hn, hl, k⟩ := h
  refine ⟨_, (pss_cons (ps_set (i := 1) scwhole_row.nd rfl (Or.inr rfl) (pe_c T.bottom_of Gbottom_of (hr.mono (by decide)) (pa_cons (pv 0) pa_nil)))
  (pss_one (ps_ret (pe_tup (pa_cons (pe_lc (own := [("top", 2), ("bottom", 3)]) (g := gTup K 2 (gCons (gName 2) (gCons (gName 3) gNil))) (tt := tYes) (by rfl) scwhole_row.nd (pi_tup (pv 0)) (blkOk_by (own := [("top", 2), ("bottom", 3)]) (N := ["pairs", "below", "top", "bottom"]) (sc := defScope swhole_row) (by decide +kernel)) (fun _ _ _ _ _ => pg_tup rfl (pgs_cons (pg_name (i := 2) scwhole_row.nd rfl (Or.inl rfl)) (pgs_cons (pg_name (i := 3) scwhole_row.nd rfl (Or.inl rfl)) pgs_nil))) (fun _ _ _ _ _ => pts_nil) (fun _ _ _ _ _ => (pe_op op_mulW (pv 2) (pe_op op_fdivW (pv 1) (pv 3))))) (pa_cons (pv 1) pa_nil)))))), ?_⟩
  refine q_asg (c_call (va_cons (val_var rfl) va_nil) ⟨t, xs, n, rfl, ⟨vs, e, al⟩, sm, hn, hl, fun D H1 s1 d0 dl dd => ?_⟩)
  refine r_ret (tup_two ?_)
  have al1 := al.imp fun v q (h : ∃ p, v = V.ref p ∧ Lo H p q) => (⟨h.choose, h.choose_spec.1, h.choose_spec.2.same s1⟩ : ∃ p, v = V.ref p ∧ Lo H1 p q)
  refine l_lcT (R := fun i v _ => ∃ b, (tops D xs)[i]? = some b ∧ v = V.int b) (fun _ _ _ _ _ h => h) (fun _ _ _ _ _ _ h _ => h) (val_var rfl) (SqT.of (s1 _ _ e)) (by rw [al.len]; omega) (fun i v H2 hv s2 => ?_) (fun p ys H2 s2 e2 r2 => ?_)
  · obtain ⟨q, hq, p, rfl, lo⟩ := al1.get hv
    have sq := sm q (get_mem hq)
    have b9 : (2 : Nat) ^ (n * xs.length) < 2 ^ 1000 := Nat.pow_lt_pow_right (by decide) (by omega)
    have fn := (sq.fit (by omega)).1
    have fd := (sq.fit (by omega)).2
    have dpos := q.den_pos
    have fD : ((D / q.den : Nat) : Int).natAbs < 2 ^ 1000 := by rw [Int.natAbs_natCast]; exact Nat.lt_of_le_of_lt (Nat.le_trans (Nat.div_le_self _ _) dl) b9
    refine turn_two (SqT.of (lo.same s2)) rfl (em_val (v := .int (q.num * ((D / q.den : Nat) : Int))) (v_mul (val_var rfl) (Val.is (GL.v_div (i := (D : Int)) (j := (q.den : Int)) (val_var rfl) (val_var rfl) (wide_div (b := 1000) (by omega) fd (by decide) (by decide))) (by rw [Int.natCast_ediv])) (fit_mul fn fD)) ⟨_, ?_, rfl⟩)
    unfold tops
    rw [List.getElem?_map, hq]
    rfl
  · refine val_var rfl _ ⟨by show 2 ≤ sizeLine; decide, fun p2 hp2 => ?_⟩
    have s3 := Same.new' (o := .tup [.ref p, .int (D : Int)]) hp2
    refine k p2 p D _ ((s1.trans s2).trans s3) d0 dl dd upd_same ?_
    rw [al.len] at r2
    rw [← rows_map r2 (by unfold tops; rw [List.length_map])]
    exact s3 _ _ e2

/-! ### rows without zeros at their end -/
def tlen : List Rat → Nat
  | [] => 0
  | q :: r => if tlen r = 0 then (if q = 0 then 0 else 1) else tlen r + 1
def trim (xs : List Rat) : List Rat := xs.take (tlen xs)
theorem tlen_le : ∀ xs, tlen xs ≤ xs.length
  | [] => Nat.le_refl _
  | q :: r => by
    have := tlen_le r
    rw [tlen, List.length_cons]
    split
    · split <;> omega
    · omega
theorem tlen_of : ∀ {xs : List Rat} {k : Nat}, k ≤ xs.length → (∀ i q, k ≤ i → xs[i]? = some q → q = 0) → (k = 0 ∨ ∃ q, xs[k - 1]? = some q ∧ q ≠ 0) → tlen xs = k
  | [], k, h, _, _ => by
    have : k = 0 := by simpa using h
    rw [this]; rfl
  | q :: r, 0, _, h, _ => by
    have h0 : q = 0 := h 0 q (Nat.le_refl _) rfl
    have hr : tlen r = 0 := tlen_of (Nat.zero_le _) (fun i p _ e => h (i + 1) p (Nat.zero_le _) (by simpa using e)) (.inl rfl)
    rw [tlen, if_pos hr, if_pos h0]
  | q :: r, k + 1, hl, h, hk => by
    obtain ⟨p, e, hp⟩ := hk.resolve_left (by omega)
    have hr : tlen r = k := by
      refine tlen_of (by simpa using hl) (fun i p hi e => h (i + 1) p (by omega) (by simpa using e)) ?_
      rcases Nat.eq_zero_or_pos k with z | z
      · exact .inl z
      · refine .inr ⟨p, ?_, hp⟩
        obtain ⟨j, rfl⟩ : ∃ j, k = j + 1 := ⟨k - 1, by omega⟩
        simpa using e
    rw [tlen, hr]
    rcases Nat.eq_zero_or_pos k with z | z
    · subst z
      have e0 : q = p := by simpa using e
      rw [if_pos rfl, if_neg (by rw [e0]; exact hp)]
    · rw [if_neg (by omega)]
def spTop : Sp := fun vs H Q _ => ∃ (l : Addr) (ns : List Int) (xs : List Rat), vs = [.ref l] ∧ SqL K H l (ns.map V.int) ∧ ns.length ≤ 10000 ∧ All2 (fun n q => n = 0 ↔ q = 0) ns xs ∧ Q (.int ((tlen xs : Int) - 1)) H
theorem ok_top_power (T : Txt K mg) : FnOk P w K mg base CX0 1 (fA mg "top_power") (fDat K (fA mg "top_power")) ["tops"] (spTop (K := K)) := by
  refine T.top_power.F.ok sctop_power (fun vs H Q E h => ?_) (fun cdv A outer s H vs Q E hr h => ?_)
  · obtain ⟨l, ns, xs, rfl, _⟩ := h
    rfl
  obtain ⟨l, ns, xs, rfl, hl, hn, al, k⟩ := h
  refine ⟨_, (pss_cons (ps_set (i := 1) sctop_power.nd rfl (Or.inl rfl) (pe_op op_sub (pe_callB call_len_seq (by rfl) T.len PySem.boot_len (pa_cons (pv 0) pa_nil)) pe_int))
  (pss_cons (ps_while PassesOwn.never (PW.pt (pw_and (pt_cmpR op_ge (pv 1) pe_int (nomark _)) (pw_and1 (pt_cmpR op_eq (pe_ix ix_list (pv 0) (pv 1) (fun _ _ => rfl)) pe_int (nomark _)))))
  (pss_one (ps_set (i := 1) sctop_power.nd rfl (Or.inl rfl) (pe_op op_sub (pv 1) pe_int))))
  (pss_one (ps_ret (pv 1))))), ?_⟩
  refine q_set (v_sub (v_len (xs := ns.map V.int) (val_var rfl) (.inl hl)) val_c) ?_
  rw [List.length_map]
  refine ⟨fun m σ' H' => H' = H ∧ σ' = [some (.ref l), some (.int ((m : Int) - 1))] ∧ m ≤ ns.length ∧ ∀ i q, m ≤ i → xs[i]? = some q → q = 0, ⟨ns.length, rfl, rfl, Nat.le_refl _, fun i q hi e => ?_⟩, fun m σ' H' z => ?_⟩
  · have := (List.getElem?_eq_some_iff.mp e).1
    rw [al.len] at hi
    omega
  · obtain ⟨rfl, rfl, hm, hz⟩ := z
    rcases Nat.eq_zero_or_pos m with m0 | m0
    · subst m0
      refine (a_I (i := ((0 : Nat) : Int) - 1) (j := 0) (val_var rfl) val_c) _ ?_
      refine iteF (iteF ?_)
      have e : tlen xs = 0 := tlen_of (Nat.zero_le _) hz (.inl rfl)
      rw [e] at k
      exact st_ret (val_var rfl) k
    · obtain ⟨j, rfl⟩ : ∃ j, m = j + 1 := ⟨m - 1, by omega⟩
      have ej : ((j + 1 : Nat) : Int) - 1 = (j : Int) := by omega
      rw [ej]
      refine (a_I (i := (j : Int)) (j := 0) (val_var rfl) val_c) _ ?_
      rw [decide_eq_true (by omega : (0 : Int) ≤ (j : Int))]
      refine iteT ?_
      have lj : j < ns.length := by omega
      obtain ⟨q, hq, hiff⟩ := al.get (List.getElem?_eq_getElem lj)
      refine (ans_eq (x := .int ns[j]) (y := .int 0) (b := decide (ns[j] = 0)) (v_ixL (n := j) (v := .int ns[j]) (val_var rfl) (val_var rfl) hl (by rw [List.getElem?_map, List.getElem?_eq_getElem lj]; rfl)) val_c rfl (by simp)) _ ?_
      by_cases h0 : ns[j] = 0
      · rw [decide_eq_true h0]
        refine iteT ⟨fun σ'' H'' => H'' = H' ∧ σ'' = [some (.ref l), some (.int ((j : Int) - 1))], fun σ'' H'' z => ⟨j, by omega, z.1, z.2, by omega, fun i p hi e => ?_⟩, ?_⟩
        · rcases Nat.lt_or_ge j i with lt | ge
          · exact hz i p lt e
          · have : i = j := by omega
            subst this
            rw [hq] at e
            cases e
            exact hiff.mp h0
        · exact (v_sub (val_var rfl) val_c) _ ⟨rfl, rfl⟩
      · rw [decide_eq_false h0]
        refine iteF ?_
        have e : tlen xs = j + 1 := tlen_of (by rw [← al.len]; exact hm) hz (.inr ⟨q, by simpa using hq, fun z => h0 (hiff.mpr z)⟩)
        rw [e, ej] at k
        exact st_ret (val_var rfl) k

/-! ### the class Poly -/
@[irreducible] def mA (K : PySem.W.Frag) (C : Addr) (m : Str) : Addr := match PySem.W.findIn K (.ref C) m with
  | some (some (.ref f)) => f
  | _ => 0
theorem mA_of {K : PySem.W.Frag} {C f : Addr} {m : Str} (h : PySem.W.findIn K (.ref C) m = some (some (.ref f))) : mA K C m = f := by
  unfold mA
  rw [h]
/-- a def of the class -/
structure Me (K : PySem.W.Frag) (C : Addr) (m qual : Str) (st : Stmt) (ps : List Str) : Prop where
  at_ : PySem.W.findIn K (.ref C) m = some (some (.ref (mA K C m)))
  fn : PySem.W.isFn K (.ref (mA K C m)) = true
  F : Fun K m qual st (mA K C m) (fDat K (mA K C m))
  b : L2.Binds K (fDat K (mA K C m)) ps []
abbrev poA (mg : Str → Option Value) : Addr := fA mg "Poly"
structure PolyT (K : PySem.W.Frag) (mg : Str → Option Value) : Prop where
  g : mg "Poly" = some (.ref (poA mg))
  cls : Cls K (poA mg)
  mkc : Mk K (poA mg) (mA K (poA mg) "__init__")
  no : NoAttr K (poA mg) "numbers"
  me : PySem.W.selfFirst K (poA mg) = true
  m_init : Me K (poA mg) "__init__" "Poly.__init__" (inClass (top 23) 0) ["self", "numbers"]
  m_eq : Me K (poA mg) "__eq__" "Poly.__eq__" (inClass (top 23) 1) ["self", "other"]
  m_add : Me K (poA mg) "__add__" "Poly.__add__" (inClass (top 23) 2) ["self", "other"]
  m_radd : Me K (poA mg) "__radd__" "Poly.__radd__" (inClass (top 23) 3) ["self", "other"]
  m_sub : Me K (poA mg) "__sub__" "Poly.__sub__" (inClass (top 23) 4) ["self", "other"]
  m_rsub : Me K (poA mg) "__rsub__" "Poly.__rsub__" (inClass (top 23) 5) ["self", "other"]
  m_mul : Me K (poA mg) "__mul__" "Poly.__mul__" (inClass (top 23) 6) ["self", "other"]
  m_rmul : Me K (poA mg) "__rmul__" "Poly.__rmul__" (inClass (top 23) 7) ["self", "other"]
  m_neg : Me K (poA mg) "__neg__" "Poly.__neg__" (inClass (top 23) 8) ["self"]
  m_degree : Me K (poA mg) "degree" "Poly.degree" (inClass (top 23) 9) ["self"]
  m_at : Me K (poA mg) "at" "Poly.at" (inClass (top 23) 10) ["self", "point"]
  m_slope : Me K (poA mg) "slope" "Poly.slope" (inClass (top 23) 11) ["self"]
  hc : PySem.W.findIn K (.ref (poA mg)) "__class__" = some (some (.builtin "object.__class__"))
  hn : PySem.W.specialIn K (.builtin "object.__class__") "__get__" = some (some (.builtin "getset_descriptor.__get__"))
  ht : PySem.W.takesIn K (.builtin "object.__class__") = some true
  hm : PySem.W.mroIn K (poA mg) (.type "object") = some true
  kf : ∀ T : String, T = "int" ∨ T = "tuple" → PySem.W.kitOne K (.type T) (.ref (poA mg)) = some false
  subT : ∀ T : String, T = "int" ∨ T = "tuple" → PySem.W.subIn K (.type T) (.ref (poA mg)) = some false
  subC : ∀ T : String, T = "int" ∨ T = "tuple" → PySem.W.subIn K (.ref (poA mg)) (.type T) = some false
  lr : ∀ op : Operator, op = .Add ∨ op = .Sub ∨ op = .Mult → (∃ fo ro, PySem.W.findIn K (.type "int") (PySem.dunder op.info.2) = some fo ∧ PySem.W.findIn K (.type "int") (dunderR op.info.2) = some ro ∧ ((fo.isSome && !isSeqSlot fo) || (ro.isSome && !isSeqSlot ro)) = true) ∧
    ∃ fo ro, PySem.W.findIn K (.type "tuple") (PySem.dunder op.info.2) = some fo ∧ PySem.W.findIn K (.type "tuple") (dunderR op.info.2) = some ro ∧ ((fo.isSome && !isSeqSlot fo) || (ro.isSome && !isSeqSlot ro)) = false
abbrev sPoly_init : Stmt := (inClass (top 23) 0)
theorem scPoly_init : FnScope ["self", "numbers", "pairs", "number", "degree", "top", "_"] ["self", "numbers"] (defScope sPoly_init) := ⟨rfl, rfl, rfl, by decide +kernel, rfl, by decide +kernel, by decide +kernel⟩
abbrev sPoly_eq : Stmt := (inClass (top 23) 1)
theorem scPoly_eq : FnScope ["self", "other"] ["self", "other"] (defScope sPoly_eq) := ⟨rfl, rfl, rfl, by decide +kernel, rfl, by decide +kernel, by decide +kernel⟩
abbrev sPoly_add : Stmt := (inClass (top 23) 2)
theorem scPoly_add : FnScope ["self", "other", "poly"] ["self", "other"] (defScope sPoly_add) := ⟨rfl, rfl, rfl, by decide +kernel, rfl, by decide +kernel, by decide +kernel⟩
abbrev sPoly_radd : Stmt := (inClass (top 23) 3)
theorem scPoly_radd : FnScope ["self", "other", "poly"] ["self", "other"] (defScope sPoly_radd) := ⟨rfl, rfl, rfl, by decide +kernel, rfl, by decide +kernel, by decide +kernel⟩
abbrev sPoly_sub : Stmt := (inClass (top 23) 4)
theorem scPoly_sub : FnScope ["self", "other", "poly"] ["self", "other"] (defScope sPoly_sub) := ⟨rfl, rfl, rfl, by decide +kernel, rfl, by decide +kernel, by decide +kernel⟩
abbrev sPoly_rsub : Stmt := (inClass (top 23) 5)
theorem scPoly_rsub : FnScope ["self", "other", "poly"] ["self", "other"] (defScope sPoly_rsub) := ⟨rfl, rfl, rfl, by decide +kernel, rfl, by decide +kernel, by decide +kernel⟩
abbrev sPoly_mul : Stmt := (inClass (top 23) 6)
theorem scPoly_mul : FnScope ["self", "other", "poly"] ["self", "other"] (defScope sPoly_mul) := ⟨rfl, rfl, rfl, by decide +kernel, rfl, by decide +kernel, by decide +kernel⟩
abbrev sPoly_rmul : Stmt := (inClass (top 23) 7)
theorem scPoly_rmul : FnScope ["self", "other", "poly"] ["self", "other"] (defScope sPoly_rmul) := ⟨rfl, rfl, rfl, by decide +kernel, rfl, by decide +kernel, by decide +kernel⟩
abbrev sPoly_neg : Stmt := (inClass (top 23) 8)
theorem scPoly_neg : FnScope ["self", "top", "bottom"] ["self"] (defScope sPoly_neg) := ⟨rfl, rfl, rfl, by decide +kernel, rfl, by decide +kernel, by decide +kernel⟩
abbrev sPoly_degree : Stmt := (inClass (top 23) 9)
theorem scPoly_degree : FnScope ["self"] ["self"] (defScope sPoly_degree) := ⟨rfl, rfl, rfl, by decide +kernel, rfl, by decide +kernel, by decide +kernel⟩
abbrev sPoly_at : Stmt := (inClass (top 23) 10)
theorem scPoly_at : FnScope ["self", "point", "top", "bottom", "tops", "below", "total", "power", "number"] ["self", "point"] (defScope sPoly_at) := ⟨rfl, rfl, rfl, by decide +kernel, rfl, by decide +kernel, by decide +kernel⟩
abbrev sPoly_slope : Stmt := (inClass (top 23) 11)
theorem scPoly_slope : FnScope ["self", "numbers", "power", "number"] ["self"] (defScope sPoly_slope) := ⟨rfl, rfl, rfl, by decide +kernel, rfl, by decide +kernel, by decide +kernel⟩

theorem scI_BadRow : FnScope ["self", "row"] ["self", "row"] (defScope (inClass (top 5) 0)) := ⟨rfl, rfl, rfl, by decide +kernel, rfl, by decide +kernel, by decide +kernel⟩
theorem init_BadRow (T : Txt K mg) : FnOk P w K mg base CX0 1 (iA K (fA mg "BadRow")) (fDat K (iA K (fA mg "BadRow"))) ["self", "row"] (spI1 (fA mg "BadRow") "row") := by
  refine T.BadRow.F.ok scI_BadRow (fun vs H Q E h => ?_) (fun cdv A outer s H vs Q E hr h => ?_)
  · obtain ⟨a, v, rfl, _⟩ := h
    rfl
  · obtain ⟨a, v, rfl, ha, k⟩ := h
    exact ⟨_, pss_one (ps_ost (pv 0) (pv 1)), s_ost1 T.BadRow.o (T.BadRow.n _ (by simp)) ha rfl rfl k⟩
theorem x_made1 {σ : L2.St} {H : Hp} {ta : TA} {C : Addr} {f : Str} {v : V} {Q : XK} (h : VA ta σ H [v]) (k : ∀ d H', Same H H' → H d = none → H' d = some (.xd [(f, v)]) → Q (.ref C) (some d) H') : tMkO C (spI1 C f) [] ta σ H Q :=
  h _ ⟨by show 1 ≤ 1000; decide, fun a ha => ⟨a, v, rfl, upd_same, fun dx hd ne => by
    rw [upd_ne ne] at hd
    refine ⟨rfl, dx, _, upd_same, by rw [upd_ne ne, upd_same], hd, k dx _ (fun b o e => ?_) hd upd_same⟩
    have hb : b ≠ a := ne_of_none e ha
    have hb2 : b ≠ dx := ne_of_none e hd
    rw [upd_ne hb2, del_ne hb, upd_ne hb, upd_ne hb2, upd_ne hb]
    exact e⟩⟩
/-- a polynomial -/
def PoAt (C : Addr) (H : Hp) (a : Addr) (xs : List Rat) : Prop := ∃ dx t, H a = some (.ins C dx [("numbers", .ref t)]) ∧ Los H t xs ∧ tlen xs = xs.length
theorem PoAt.same {C : Addr} {H H' : Hp} {a : Addr} {xs : List Rat} (h : PoAt C H a xs) (s : Same H H') : PoAt C H' a xs := by
  obtain ⟨dx, t, e, l, z⟩ := h
  exact ⟨dx, t, s _ _ e, l.same s, z⟩
/-- BadRow(row) leaves -/
def BadR (mg : Str → Option Value) (H : Hp) (a : Addr) (v : V) (E : XK) : Prop := ∀ (d : Addr) (H' : Hp), (∀ b o, H b = some o → b ≠ a → H' b = some o) → H d = none → H' d = some (.xd [("row", v)]) → E (.ref (fA mg "BadRow")) (some d) H'
/-- no row of ratios -/
def NoRow (H : Hp) (v : V) : Prop := (∃ n, Is H v n ∧ n ≠ "list" ∧ n ≠ "tuple") ∨ ∃ a xs bs, v = .ref a ∧ Sq H a xs ∧ xs.length ≤ 1000 ∧ All2 (RatQ H) xs bs ∧ bs.all id = false
def spInit (mg : Str → Option Value) : Sp := fun vs H Q E => ∃ (a dx : Addr) (v : V), vs = [.ref a, v] ∧ H a = some (.ins (poA mg) dx []) ∧ ((∃ n ws xs, v = .ref n ∧ Sq H n ws ∧ ws.length ≤ 1000 ∧ All2 (Rq H) ws xs ∧
    ∀ t H', (∀ b o, H b = some o → b ≠ a → H' b = some o) → H' a = some (.ins (poA mg) dx [("numbers", .ref t)]) → Los H' t (trim xs) → Q .non H') ∨ (NoRow H v ∧ BadR mg H a v E))
theorem all_true {α : Type} (ws : List α) : ((ws.map fun _ => true).all id) = true := by
  induction ws with
  | nil => rfl
  | cons _ _ ih => simpa using ih
theorem lo_off : Off (fun i v H => ∃ (xs : List Rat) (q : Rat) (p : Addr), xs[i]? = some q ∧ v = .ref p ∧ Lo H p q) := fun k v H D ys zs h e => by
  obtain ⟨xs, q, p, h1, h2, lo⟩ := h
  exact ⟨xs, q, p, h1, h2, by
    unfold Lo at lo ⊢
    rw [upd_ne (fun z => by rw [z, e] at lo; cases lo)]
    exact lo⟩
theorem ok_Poly_init (T : Txt K mg) (TP : PolyT K mg) : FnOk P w K mg base (L2.CX P w) 7 (mA K (poA mg) "__init__") (fDat K (mA K (poA mg) "__init__")) ["self", "numbers"] (spInit mg) := by
  have Gis_row := ok_is_row (P := P) (w := w) (base := base) T
  have Gtold := ok_told (P := P) (w := w) (base := base) T
  have Gtop_power := ok_top_power (P := P) (w := w) (base := base) T
  have Gi_BadRow := init_BadRow (P := P) (w := w) (base := base) T
  refine TP.m_init.F.okX scPoly_init (fun vs H Q E h => ?_) (fun cdv A outer s H vs Q E hr h => ?_)
  · obtain ⟨a, dx, v, rfl, _⟩ := h
    rfl
  obtain ⟨a, dx, v, rfl, ha, h⟩ := h
  refine ⟨_, (pss_cons (ps_if (pt_not (pt_val (pe_c T.is_row Gis_row (hr.mono (by decide)) (pa_cons (pv 1) pa_nil)))) (pss_one (ps_raise rfl (takes_of rfl rfl rfl rfl) (pmk_oex T.BadRow.o T.BadRow.i T.BadRow.t Gi_BadRow (hr.mono (by decide)) T.BadRow.b .nil pass0 (by rfl) T.BadRow.g (pa_cons (pv 1) pa_nil)))) pss_nil)
  (pss_cons (ps_setLc (i := 2) (own := [("number", 3)]) (g := gName 3) (tt := tYes) (by rfl) scPoly_init.nd rfl rfl (sw_true rfl rfl rfl (by decide +kernel)) (pi_or (pi_list (pv 1)) (pi_tup (pv 1))) (blkOk_by (own := [("number", 3)]) (N := ["self", "numbers", "pairs", "number", "degree", "top", "_"]) (sc := defScope sPoly_init) (by decide +kernel)) (fun _ _ _ _ _ => pg_name (i := 3) scPoly_init.nd rfl (Or.inl rfl)) (fun _ _ _ _ _ => pts_nil) (fun _ _ _ _ _ => (pe_call Gtold (hr.mono (by decide)) (by rfl) T.told.g T.told.F.kp T.told.b .nil passL (pa_cons (pv 3) (pa_cons pe_str pa_nil)))))
  (pss_cons (ps_set (i := 4) scPoly_init.nd rfl (Or.inl rfl) (pe_c T.top_power Gtop_power (hr.mono (by decide)) (pa_cons (pe_lc (own := [("top", 5), ("_", 6)]) (g := gTup K 2 (gCons (gName 5) (gCons (gName 6) gNil))) (tt := tYes) (by rfl) scPoly_init.nd (pi_list (pv 2)) (blkOk_by (own := [("top", 5), ("_", 6)]) (N := ["self", "numbers", "pairs", "number", "degree", "top", "_"]) (sc := defScope sPoly_init) (by decide +kernel)) (fun _ _ _ _ _ => pg_tup rfl (pgs_cons (pg_name (i := 5) scPoly_init.nd rfl (Or.inl rfl)) (pgs_cons (pg_name (i := 6) scPoly_init.nd rfl (Or.inl rfl)) pgs_nil))) (fun _ _ _ _ _ => pts_nil) (fun _ _ _ _ _ => (pv 5))) pa_nil)))
  (pss_one (ps_fld (pv 0) (pe_callTy call_tuple_of (by rfl) T.tuple (by decide +kernel) (pa_cons (pe_slice sl_list (pv 2) po_none (po_some (pe_op op_add (pv 4) pe_int))) pa_nil)) (by rfl)))))), ?_⟩
  rcases h with ⟨n, ws, xs, rfl, hS, hl, al, k⟩ | ⟨h, b⟩
  · refine q_ifNot (c_call (va_cons (val_var rfl) va_nil) ⟨_, rfl, .inr ⟨n, ws, ws.map fun _ => true, rfl, hS, hl, All2.mk (by rw [List.length_map]) (fun i x b hx hb => ?_), fun H1 s1 => ⟨_, rfl, ?_⟩⟩⟩)
    · obtain ⟨q, _, rq⟩ := al.get hx
      rw [List.getElem?_map, hx] at hb
      cases hb
      exact rq.yes
    rw [all_true]
    refine iteF ?_
    have offR : Off (fun i v H => ∃ q p, xs[i]? = some q ∧ v = V.ref p ∧ Lo H p q) := fun k v H D ys zs h e => by
      obtain ⟨q, p, h1, h2, lo⟩ := h
      refine ⟨q, p, h1, h2, ?_⟩
      unfold Lo at lo ⊢
      rw [upd_ne (fun z => by rw [z, e] at lo; cases lo)]
      exact lo
    refine q_asg (l_lcS (R := fun i v H => ∃ q p, xs[i]? = some q ∧ v = V.ref p ∧ Lo H p q) (fun i v H1 H2 s ⟨q, p, h1, h2, lo⟩ => ⟨q, p, h1, h2, lo.same s⟩) offR (val_var rfl) (hS.same s1).seq (by omega) (fun i x H2 hx s2 => turn_name rfl fun Q q => ?_) (fun l ys H2 s2 e2 r2 => ?_))
    · obtain ⟨z, hz, rq⟩ := al.get hx
      exact c_told (va_cons (val_var rfl) (va_cons val_c va_nil)) ((rq.same s1).same s2) fun p H' s' lo => q _ H' s' ⟨z, p, hz, rfl, lo⟩
    rw [al.len] at r2
    have al2 : All2 (fun v q => ∃ p, v = V.ref p ∧ Lo H2 p q) ys xs := All2.mk r2.2 fun i v q hv hq => by
      obtain ⟨q', p, h1, h2, lo⟩ := r2.1.get hv
      rw [Nat.zero_add, hq] at h1
      cases h1
      exact ⟨p, h2, lo⟩
    have hlx : xs.length ≤ 1000 := by rw [← al.len]; exact hl
    refine q_asg (call_1 (l_lcL (K := K) (R := fun i v _ => ∃ b, (xs.map (·.num))[i]? = some b ∧ v = V.int b) (fun _ _ _ _ _ h => h) (fun _ _ _ _ _ _ h _ => h) (val_var rfl) (SqL.of e2) (by rw [r2.2]; omega) (fun i v H3 hv s3 => ?_) (fun l2 ns H3 s3 e3 r3 => ?_)))
    · obtain ⟨q, hq, p, rfl, lo⟩ := al2.get hv
      exact turn_two (SqT.of (lo.same s3)) rfl (em_val (val_var rfl) ⟨_, by rw [List.getElem?_map, hq]; rfl, rfl⟩)
    rw [r2.2] at r3
    have en := rows_map r3 (List.length_map _)
    refine ⟨l2, xs.map (·.num), xs, rfl, by rw [← en]; exact SqL.of e3, by rw [List.length_map]; omega, All2.mk (List.length_map _) (fun i a b h1 h2 => ?_), ?_⟩
    · rw [List.getElem?_map, h2] at h1
      cases h1
      exact Rat.num_eq_zero
    have s123 := (s1.trans s2).trans s3
    have ha3 := s123 _ _ ha
    refine cb_one (l_slHi (val_var rfl) (SqL.of (s3 _ _ e2)) (n := (tlen xs : Int)) (Val.is (GL.v_add (i := (tlen xs : Int) - 1) (j := 1) (val_var rfl) val_c) (by congr 1; omega)) fun p H4 s4 e4 => ⟨p, _, rfl, .inl ⟨SqL.of e4, fun t ht => ?_⟩⟩)
    refine val_var rfl _ ⟨a, poA mg, dx, [], rfl, (Same.new' ht) _ _ (s4 _ _ ha3), TP.cls, TP.no, by show 0 < 1000; decide, ?_⟩
    have keep : ∀ b o, H b = some o → b ≠ a → (upd (upd H4 t (.tup (cutV ys none (some (tlen xs : Int))))) a (.ins (poA mg) dx (putF "numbers" (.ref t) []))) b = some o := fun b o e nb => by
      rw [upd_ne nb]
      exact (Same.new' ht) _ _ (s4 _ _ (s123 _ _ e))
    have nt : t ≠ a := fun z => by
      have := (s4 _ _ ha3)
      rw [← z, ht] at this
      cases this
    have cut : cutV ys none (some (tlen xs : Int)) = ys.take (tlen xs) := by
      have l := tlen_le xs
      unfold cutV
      rw [HT.sIx_none, HT.sIx_nat, r2.2, List.drop_zero, Nat.sub_zero, Nat.min_eq_left l]
    refine k t _ keep upd_same ⟨ys.take (tlen xs), ?_, ?_⟩
    · rw [upd_ne nt, upd_same, cut]
    · refine All2.mk (by unfold trim; rw [List.length_take, List.length_take, r2.2]) fun i v q hv hq => ?_
      have hv' : ys[i]? = some v := by
        rw [List.getElem?_take] at hv
        split at hv
        · exact hv
        · cases hv
      unfold trim at hq
      have hq' : xs[i]? = some q := by
        rw [List.getElem?_take] at hq
        split at hq
        · exact hq
        · cases hq
      obtain ⟨q2, h2, p2, e5, lo⟩ := al2.get hv'
      rw [hq'] at h2
      cases h2
      refine ⟨p2, e5, ?_⟩
      have lo4 := (lo.same s3).same s4
      have n1 : p2 ≠ a := fun z => by
        have := s4 _ _ ha3
        unfold Lo at lo4
        rw [z, this] at lo4
        cases lo4
      unfold Lo
      rw [upd_ne n1]
      exact (Same.new' ht) _ _ lo4
  · have bad : ∀ {H1 : Hp} {Q' : Bool → Hp → Prop}, Same H H1 → Q' false H1 → ∃ c, V.bl false = .bl c ∧ Q' c H1 := fun s q => ⟨_, rfl, q⟩
    rcases h with ⟨n, i, n1, n2⟩ | ⟨n, ws, bs, rfl, hS, hl, al, hf⟩
    · refine q_ifNot (c_call (va_cons (val_var rfl) va_nil) ⟨_, rfl, .inl ⟨n, i, n1, n2, fun H1 s1 => ⟨_, rfl, iteT ?_⟩⟩⟩)
      exact x_made1 (va_cons (val_var rfl) va_nil) fun d H' s2 f e => b d H' (fun c o e' _ => s2 _ _ (s1 _ _ e')) (s1.free f) e
    · refine q_ifNot (c_call (va_cons (val_var rfl) va_nil) ⟨_, rfl, .inr ⟨n, ws, bs, rfl, hS, hl, al, fun H1 s1 => ⟨_, rfl, ?_⟩⟩⟩)
      rw [hf]
      refine iteT ?_
      exact x_made1 (va_cons (val_var rfl) va_nil) fun d H' s2 f e => b d H' (fun c o e' _ => s2 _ _ (s1 _ _ e')) (s1.free f) e
end
end LW

namespace LW
open PySem PySem.Spec PyProof.Rows L2 GL
section
variable {P : Program} {w : World} {K : PySem.W.Frag} {mg : Str → Option Value} {base : Heap}

/-! ### trimmed rows, their numbers -/
theorem tlen_last : ∀ {xs : List Rat} {k : Nat}, tlen xs = k + 1 → ∃ q, xs[k]? = some q ∧ q ≠ 0
  | [], k, h => by simp [tlen] at h
  | q :: r, k, h => by
    rw [tlen] at h
    split at h
    · split at h
      · omega
      · rename_i hq
        obtain rfl : k = 0 := by omega
        exact ⟨q, rfl, hq⟩
    · obtain ⟨j, rfl⟩ : ∃ j, k = j + 1 := ⟨k - 1, by omega⟩
      obtain ⟨p, e, hp⟩ := tlen_last (xs := r) (k := j) (by omega)
      exact ⟨p, by simpa using e, hp⟩
theorem tlen_zero : ∀ {xs : List Rat} {i : Nat} {q : Rat}, tlen xs ≤ i → xs[i]? = some q → q = 0
  | [], i, q, _, e => by simp at e
  | p :: r, i, q, h, e => by
    rw [tlen] at h
    cases i with
    | zero =>
      split at h
      · split at h
        · rename_i hp
          simp at e
          rw [← e]; exact hp
        · omega
      · omega
    | succ i =>
      refine tlen_zero (xs := r) (i := i) ?_ (by simpa using e)
      split at h
      · omega
      · omega
theorem trim_len (xs : List Rat) : (trim xs).length = tlen xs := by
  unfold trim
  rw [List.length_take]
  have := tlen_le xs
  omega
theorem tlen_trim (xs : List Rat) : tlen (trim xs) = (trim xs).length := by
  refine tlen_of (Nat.le_refl _) (fun i q hi e => ?_) ?_
  · have := (List.getElem?_eq_some_iff.mp e).1
    omega
  · rw [trim_len]
    rcases Nat.eq_zero_or_pos (tlen xs) with z | z
    · exact .inl z
    · obtain ⟨k, hk⟩ : ∃ k, tlen xs = k + 1 := ⟨tlen xs - 1, by omega⟩
      obtain ⟨q, e, hq⟩ := tlen_last hk
      refine .inr ⟨q, ?_, hq⟩
      unfold trim
      rw [hk, Nat.add_sub_cancel, List.getElem?_take, if_pos (Nat.lt_succ_self k)]
      exact e
/-- the number at a power -/
def co (xs : List Rat) (i : Nat) : Rat := xs.getD i 0
theorem co_some {xs : List Rat} {i : Nat} {q : Rat} (h : xs[i]? = some q) : co xs i = q := by
  unfold co
  rw [List.getD_eq_getElem?_getD, h]
  rfl
theorem co_none {xs : List Rat} {i : Nat} (h : xs.length ≤ i) : co xs i = 0 := by
  unfold co
  rw [List.getD_eq_getElem?_getD, List.getElem?_eq_none_iff.mpr h]
  rfl
theorem co_trim (xs : List Rat) (i : Nat) : co (trim xs) i = co xs i := by
  rcases Nat.lt_or_ge i (tlen xs) with lt | ge
  · have l := tlen_le xs
    have e : xs[i]? = some xs[i] := List.getElem?_eq_getElem (by omega)
    rw [co_some e]
    refine co_some ?_
    unfold trim
    rw [List.getElem?_take, if_pos lt, e]
  · rw [co_none (by rw [trim_len]; exact ge)]
    rcases Nat.lt_or_ge i xs.length with h | h
    · have e : xs[i]? = some xs[i] := List.getElem?_eq_getElem h
      rw [co_some e]
      exact (tlen_zero ge e).symm
    · rw [co_none h]
/-- two trimmed rows with the same numbers are one -/
theorem eq_of_co {xs ys : List Rat} (hx : tlen xs = xs.length) (hy : tlen ys = ys.length) (h : ∀ i, co xs i = co ys i) : xs = ys := by
  have le : ∀ {xs ys : List Rat}, tlen xs = xs.length → (∀ i, co xs i = co ys i) → xs.length ≤ ys.length := fun {xs ys} hx h => by
    rcases Nat.lt_or_ge ys.length xs.length with lt | ge
    · obtain ⟨k, hk⟩ : ∃ k, tlen xs = k + 1 := ⟨tlen xs - 1, by omega⟩
      obtain ⟨q, e, hq⟩ := tlen_last hk
      have h1 := h k
      rw [co_some e, co_none (by omega)] at h1
      exact (hq h1).elim
    · exact ge
  have hl : xs.length = ys.length := Nat.le_antisymm (le hx h) (le hy fun i => (h i).symm)
  refine List.ext_getElem hl fun i h1 h2 => ?_
  have := h i
  rw [co_some (List.getElem?_eq_getElem h1), co_some (List.getElem?_eq_getElem h2)] at this
  exact this
/-- the numbers f 0 .. f (n - 1), trimmed -/
def ofN (n : Nat) (f : Nat → Rat) : List Rat := trim ((List.range n).map f)
theorem co_ofN {n : Nat} {f : Nat → Rat} (i : Nat) : co (ofN n f) i = if i < n then f i else 0 := by
  unfold ofN
  rw [co_trim]
  split
  · rename_i h
    exact co_some (by rw [List.getElem?_map, List.getElem?_range h]; rfl)
  · exact co_none (by rw [List.length_map, List.length_range]; omega)
theorem tlen_ofN {n : Nat} {f : Nat → Rat} : tlen (ofN n f) = (ofN n f).length := tlen_trim _
/-! ### sizes -/
theorem Sm.div {i j : Int} {n : Nat} (hj : 0 < j) (h1 : i.natAbs < 2 ^ n) (h2 : j.natAbs < 2 ^ n) : Sm n (Rat.divInt i j) := by
  have l := low_rat i hj
  have p := low_pos i hj
  constructor
  · rw [← l.1]
    exact Nat.lt_of_le_of_lt (low_abs i) h1
  · have : ((Rat.divInt i j).den : Int) ≤ j := by rw [← l.2]; exact p.2
    omega
theorem Sm.add {n m : Nat} {q r : Rat} (h : Sm n q) (k : Sm m r) : Sm (n + m + 1) (q + r) := by
  have e : q + r = Rat.divInt (q.num * r.den + r.num * q.den) (q.den * r.den) := by rw [Rat.add_def', ← Rat.divInt_ofNat, Int.natCast_mul]
  rw [e]
  have p : (2 : Nat) ^ (n + m + 1) = 2 ^ n * 2 ^ m + 2 ^ m * 2 ^ n := by rw [Nat.pow_succ, Nat.pow_add, Nat.mul_comm (2 ^ m)]; omega
  have dq := q.den_pos
  have dr := r.den_pos
  refine Sm.div (Int.mul_pos (by omega) (by omega)) ?_ ?_
  · rw [p]
    refine Nat.lt_of_le_of_lt (Int.natAbs_add_le _ _) (Nat.add_lt_add ?_ ?_)
    · rw [Int.natAbs_mul, Int.natAbs_natCast]
      exact Nat.mul_lt_mul'' h.1 k.2
    · rw [Int.natAbs_mul, Int.natAbs_natCast]
      exact Nat.mul_lt_mul'' k.1 h.2
  · rw [Int.natAbs_mul, Int.natAbs_natCast, Int.natAbs_natCast, p]
    have := Nat.mul_lt_mul'' h.2 k.2
    omega
theorem Sm.mul {n m : Nat} {q r : Rat} (h : Sm n q) (k : Sm m r) : Sm (n + m) (q * r) := by
  have e : q * r = Rat.divInt (q.num * r.num) (q.den * r.den) := by rw [Rat.mul_def', ← Rat.divInt_ofNat, Int.natCast_mul]
  rw [e]
  have dq := q.den_pos
  have dr := r.den_pos
  refine Sm.div (Int.mul_pos (by omega) (by omega)) ?_ ?_
  · rw [Int.natAbs_mul, Nat.pow_add]
    exact Nat.mul_lt_mul'' h.1 k.1
  · rw [Int.natAbs_mul, Int.natAbs_natCast, Int.natAbs_natCast, Nat.pow_add]
    exact Nat.mul_lt_mul'' h.2 k.2
theorem Sm.zero {n : Nat} (h : 1 ≤ n) : Sm n 0 := ⟨Nat.two_pow_pos _, Nat.one_lt_two_pow (by omega)⟩
theorem Sms.co {n : Nat} {xs : List Rat} (h : Sms n xs) (h1 : 1 ≤ n) (i : Nat) : Sm n (LW.co xs i) := by
  rcases Nat.lt_or_ge i xs.length with lt | ge
  · have e : xs[i]? = some xs[i] := List.getElem?_eq_getElem lt
    rw [co_some e]
    exact h _ (get_mem e)
  · rw [co_none ge]
    exact Sm.zero h1
theorem Sms.of {n m : Nat} {f : Nat → Rat} (h : ∀ i, i < m → Sm n (f i)) : Sms n ((List.range m).map f) := fun q hq => by
  obtain ⟨i, hi, rfl⟩ := List.mem_map.mp hq
  exact h i (List.mem_range.mp hi)
theorem Sms.trim {n : Nat} {xs : List Rat} (h : Sms n xs) : Sms n (trim xs) := fun q hq => h q (List.mem_of_mem_take hq)
/-! ### a polynomial is made -/
theorem made_poly {H1 : Hp} {n : Addr} {ws : List V} {xs : List Rat} {Q : VK} {E : XK} (hS : Sq H1 n ws) (hl : ws.length ≤ 1000) (al : All2 (Rq H1) ws xs) (k : ∀ a H', Same H1 H' → PoAt (poA mg) H' a (trim xs) → Q (.ref a) H') :
    ∀ x dx, H1 x = none → H1 dx = none → dx ≠ x → spInit mg (.ref x :: ([.ref n] ++ [])) (upd (upd H1 dx (.own x)) x (.ins (poA mg) dx [])) (fun v H2 => v = .non ∧ Q (.ref x) H2) E := fun x dx hx hdx ne => by
  have S : Same H1 (upd (upd H1 dx (.own x)) x (.ins (poA mg) dx [])) := fun b o e => by
    rw [upd_ne (ne_of_none e hx), upd_ne (ne_of_none e hdx)]
    exact e
  refine ⟨x, dx, .ref n, rfl, upd_same, .inl ⟨n, ws, xs, rfl, hS.same S, hl, al.imp fun v q r => r.same S, fun t H' keep e los => ⟨rfl, k x H' (fun b o z => keep _ _ (S _ _ z) (ne_of_none z hx)) ⟨dx, t, e, los, tlen_trim _⟩⟩⟩⟩

/-! ### a ratio beside a polynomial -/
def spStrict : Sp := fun vs H Q _ => ∃ (v : V) (n : String), vs = [v] ∧ RatQ H v true ∧ Is H v n ∧ ∀ H', Same H H' → Q (.bl (!decide (n = "list"))) H'
theorem ok_is_strict (T : Txt K mg) : FnOk P w K mg base CX0 4 (fA mg "is_strict_ratio") (fDat K (fA mg "is_strict_ratio")) ["value"] spStrict := by
  have Gis_ratio := ok_is_ratio (P := P) (w := w) (base := base) T
  refine T.is_strict_ratio.F.ok scis_strict_ratio (fun vs H Q E h => ?_) (fun cdv A outer s H vs Q E hr h => ?_)
  · obtain ⟨v, n, rfl, _⟩ := h
    rfl
  obtain ⟨v, n, rfl, r, i, k⟩ := h
  refine ⟨_, (pss_one (ps_ret (pe_and (pe_c T.is_ratio Gis_ratio (hr.mono (by decide)) (pa_cons (pv 0) pa_nil)) (pe_one (pe_not (pe_callB call_isi (by rfl) T.isinstance (by decide +kernel) (pa_cons (pv 0) (pa_cons (pe_bltn (v := .ty "list") (by rfl) T.list (by decide +kernel) rfl) pa_nil)))))))), ?_⟩
  refine r_ret (c_call (va_cons (val_var rfl) va_nil) ⟨v, true, rfl, r, fun H1 s1 => ⟨_, rfl, iteT ?_⟩⟩)
  obtain ⟨ty, hn⟩ := (i.same s1).ty (K := K)
  refine (v_isi (c := "list") (val_var rfl) ty (kit_list hn)) _ ⟨_, rfl, k H1 s1⟩
theorem q_cond1 {te : TE} {t1 tz : TS} {D : Ends} {σ : L2.St} {H : Hp} (h : te σ H fun v H1 => ∃ b, v = .bl b ∧ if b = true then t1 { D with nx := tz D } σ H1 else tz D σ H1) : tSeq (tIfS (tB te) t1 tNext) tz D σ H := h
/-- a ratio that may stand beside -/
def Bes (H : Hp) (v : V) (q : Rat) : Prop := Rq H v q ∧ ((∃ i, v = .int i) ∨ ∃ t xs, v = .ref t ∧ H t = some (.tup xs))
def spBeside (mg : Str → Option Value) : Sp := fun vs H Q _ => ∃ v, vs = [v] ∧ ((∃ a xs, v = .ref a ∧ PoAt (poA mg) H a xs ∧ Q (.ref a) H) ∨ ∃ q, Bes H v q ∧ ∀ a H', Same H H' → PoAt (poA mg) H' a (trim [q]) → Q (.ref a) H')
theorem PolyT.tyI (TP : PolyT K mg) {H : Hp} {a : Addr} {xs : List Rat} (h : PoAt (poA mg) H a xs) : TyX K H (.ref a) (.ref (poA mg)) := by
  obtain ⟨dx, t, e, _⟩ := h
  exact .base (.ins e TP.cls TP.hc TP.hn TP.ht TP.hm)
theorem kit_self (K : PySem.W.Frag) (C : Addr) : PySem.W.kitOne K (.ref C) (.ref C) = some true := by
  unfold PySem.W.kitOne
  rw [if_pos (beq_self_eq_true _)]
theorem v_isO {σ : L2.St} {H : Hp} {te : TE} {v : V} {t : Value} {C : Addr} {b : Bool} (h : Val te σ H v) (ty : TyX K H v t) (k : PySem.W.kitOne K t (.ref C) = some b) : Val (tCB (rIsi K) (tCons te (tCons (tC (.ref C)) tNil))) σ H (.bl b) :=
  v_cb (va_cons h (va_cons val_c va_nil)) fun Q q => ⟨v, _, _, _, b, rfl, .own C, ty, k, q⟩
theorem ok_beside (T : Txt K mg) (TP : PolyT K mg) : FnOk P w K mg base CX0 9 (fA mg "_beside") (fDat K (fA mg "_beside")) ["value"] (spBeside mg) := by
  have GPoly_init := ok_Poly_init (P := P) (w := w) (base := base) T TP
  have Gis_strict_ratio := ok_is_strict (P := P) (w := w) (base := base) T
  refine T._beside.F.ok sc_beside (fun vs H Q E h => ?_) (fun cdv A outer s H vs Q E hr h => ?_)
  · obtain ⟨v, rfl, _⟩ := h
    rfl
  obtain ⟨v, rfl, h⟩ := h
  refine ⟨_, (pss_cons (ps_if (pt_val (pe_callB call_isi (by rfl) T.isinstance (by decide +kernel) (pa_cons (pv 0) (pa_cons (pe_cls TP.g) pa_nil)))) (pss_one (ps_ret (pv 0))) pss_nil)
  (pss_cons (ps_if (pt_val (pe_c T.is_strict_ratio Gis_strict_ratio (hr.mono (by decide)) (pa_cons (pv 0) pa_nil))) (pss_one (ps_ret (pe_make TP.mkc GPoly_init (hr.mono (by decide)) (by rfl) TP.g TP.m_init.b .nil passL (pa_cons (pe_tup (pa_cons (pv 0) pa_nil)) pa_nil)))) pss_nil)
  (pss_one (ps_ret pe_non)))), ?_⟩
  rcases h with ⟨a, xs, rfl, hp, k⟩ | ⟨q, ⟨rq, kind⟩, k⟩
  · refine q_when (b := true) (ans_val (v_isO (val_var rfl) (TP.tyI hp) (kit_self K _))) (fun _ => st_ret (val_var rfl) k) (fun z => nomatch z)
  · obtain ⟨n, is, hn⟩ : ∃ n, Is H v n ∧ (n = "int" ∨ n = "tuple") := by
      rcases kind with ⟨i, rfl⟩ | ⟨t, xs, rfl, e⟩
      · exact ⟨_, .int i, .inl rfl⟩
      · exact ⟨_, .tup e, .inr rfl⟩
    have kf := TP.kf n hn
    refine q_unless (ans_val (v_isO (val_var rfl) (is.ty (K := K)).1 kf)) ?_
    refine q_cond1 (c_call (va_cons (val_var rfl) va_nil) ⟨v, n, rfl, rq.yes, is, fun H1 s1 => ⟨_, rfl, ?_⟩⟩)
    have e : (!decide (n = "list")) = true := by rcases hn with rfl | rfl <;> decide
    rw [e]
    refine iteT (r_ret (va_1 (l_tup (va_cons (val_var rfl) va_nil) (by show 1 ≤ 100000; decide) fun t ht => ?_)))
    have s2 := Same.new' (o := .tup [v]) ht
    exact made_poly (.inr upd_same) (by show 1 ≤ 1000; decide) (.cons ((rq.same s1).same s2) .nil) fun a H' s' pa => k a H' ((s1.trans s2).trans s') pa
/-! ### sums -/
theorem v_numbers (TP : PolyT K mg) {σ : L2.St} {H : Hp} {te : TE} {a t dx : Addr} (h : Val te σ H (.ref a)) (e : H a = some (.ins (poA mg) dx [("numbers", .ref t)])) : Val (tFld K te "numbers") σ H (.ref t) := fun Q q =>
  h _ ⟨a, poA mg, dx, _, .ref t, rfl, e, TP.cls, TP.no, rfl, q⟩
theorem Los.len {H : Hp} {t : Addr} {xs : List Rat} (h : Los H t xs) : ∃ vs, H t = some (.tup vs) ∧ vs.length = xs.length := by
  obtain ⟨vs, e, al⟩ := h
  exact ⟨vs, e, al.len⟩
theorem v_lenL {σ : L2.St} {H : Hp} {te : TE} {t : Addr} {xs : List Rat} (h : Val te σ H (.ref t)) (l : Los H t xs) : Val (tCB (fun xs H Q => ∃ p ys, xs = [.ref p] ∧ (SqL K H p ys ∨ SqT K H p ys) ∧ Q (.int ys.length) H) (tCons te tNil)) σ H (.int (xs.length : Int)) := by
  obtain ⟨vs, e, al⟩ := l
  rw [← al.len]
  exact v_len h (.inr (SqT.of e))
def spNumber (mg : Str → Option Value) : Sp := fun vs H Q _ => ∃ (a : Addr) (i : Nat) (xs : List Rat), vs = [.ref a, .int (i : Int)] ∧ PoAt (poA mg) H a xs ∧ ∀ p H', Same H H' → Lo H' p (co xs i) → Q (.ref p) H'
theorem ok_number (T : Txt K mg) (TP : PolyT K mg) : FnOk P w K mg base CX0 1 (fA mg "_number") (fDat K (fA mg "_number")) ["poly", "power"] (spNumber mg) := by
  refine T._number.F.ok sc_number (fun vs H Q E h => ?_) (fun cdv A outer s H vs Q E hr h => ?_)
  · obtain ⟨a, i, xs, rfl, _⟩ := h
    rfl
  obtain ⟨a, i, xs, rfl, ⟨dx, t, e, los, tl⟩, k⟩ := h
  refine ⟨_, (pss_one (ps_ret (pe_ifExp (pt_cmpR op_lt (pv 1) (pe_callB call_len_seq (by rfl) T.len PySem.boot_len (pa_cons (pe_fld (pv 0) (by rfl)) pa_nil)) (nomark _)) (pe_ix ix_tup (pe_fld (pv 0) (by rfl)) (pv 1) (fun _ _ => rfl)) (pe_tup (pa_cons pe_int (pa_cons pe_int pa_nil)))))), ?_⟩
  have los' := los
  obtain ⟨vs, ev, al⟩ := los'
  refine r_ret ((a_I (i := (i : Int)) (j := (xs.length : Int)) (val_var rfl) (v_lenL (v_numbers TP (val_var rfl) e) los)) _ ?_)
  rcases Nat.lt_or_ge i xs.length with lt | ge
  · rw [decide_eq_true (by omega : (i : Int) < (xs.length : Int))]
    have lv : i < vs.length := by rw [al.len]; exact lt
    obtain ⟨q, hq, p, hp, lo⟩ := al.get (List.getElem?_eq_getElem lv)
    refine iteT ((v_ixT (n := i) (v := .ref p) (v_numbers TP (val_var rfl) e) (val_var rfl) (SqT.of ev) (by rw [List.getElem?_eq_getElem lv, hp])) _ (k p H (Same.refl H) ?_))
    rw [co_some hq]
    exact lo
  · rw [decide_eq_false (by omega : ¬ (i : Int) < (xs.length : Int))]
    refine iteF (l_tup (va_cons val_c (va_cons val_c va_nil)) (by decide) fun p hp => k p _ (Same.new' hp) ?_)
    rw [co_none ge]
    exact upd_same
theorem c_plus2 {H : Hp} {v u : V} {q r : Rat} {Q : VK} {E : XK} (a : Rq H v q) (b : Rq H u r) (k : ∀ p H', Same H H' → Lo H' p (q + r) → Q (.ref p) H') : sp_plus mg ([v, u] ++ []) H Q E := by
  have := c_plus (mg := mg) (σ := []) (ta := fun _ H Q => Q [v, u] H) (Q := Q) (E := E) (fun Q q => q) a b k
  exact this
def psum (xs ys : List Rat) : List Rat := ofN (max xs.length ys.length) fun i => co xs i + co ys i
def spTwoP (mg : Str → Option Value) (f : List Rat → List Rat → List Rat) : Sp := fun vs H Q _ => ∃ (a b : Addr) (xs ys : List Rat) (n m : Nat), vs = [.ref a, .ref b] ∧ PoAt (poA mg) H a xs ∧ PoAt (poA mg) H b ys ∧ Sms n xs ∧ Sms m ys ∧ 1 ≤ n ∧ 1 ≤ m ∧ n * xs.length + n ≤ 400 ∧ m * ys.length + m ≤ 400 ∧ xs.length ≤ 400 ∧ ys.length ≤ 400 ∧
  ∀ c H', Same H H' → PoAt (poA mg) H' c (f xs ys) → Q (.ref c) H'
theorem lo_offR (f : Nat → Rat) : Off (fun i v H => ∃ p, v = V.ref p ∧ Lo H p (f i)) := fun k v H D ys zs h e => by
  obtain ⟨p, h1, lo⟩ := h
  refine ⟨p, h1, ?_⟩
  unfold Lo at lo ⊢
  rw [upd_ne (fun z => by rw [z, e] at lo; cases lo)]
  exact lo
theorem rows_rq {f : Nat → Rat} {n N : Nat} {vs : List V} {H : Hp} (r : Rows (fun i v H => ∃ p, v = V.ref p ∧ Lo H p (f i)) 0 n vs H) (b : ∀ i, i < n → Sm N (f i)) (l : N ≤ 1000) : All2 (Rq H) vs ((List.range n).map f) :=
  All2.mk (by rw [r.2, List.length_map, List.length_range]) fun i v q hv hq => by
    have hi : i < n := by rw [← r.2]; exact (List.getElem?_eq_some_iff.mp hv).1
    obtain ⟨p, rfl, lo⟩ := r.1.get hv
    rw [Nat.zero_add] at lo
    rw [List.getElem?_map, List.getElem?_range hi] at hq
    cases hq
    exact lo.rq (b i hi) l
theorem ok_sum (T : Txt K mg) (TP : PolyT K mg) : FnOk P w K mg base CX0 9 (fA mg "_sum") (fDat K (fA mg "_sum")) ["one", "other"] (spTwoP mg psum) := by
  have GPoly_init := ok_Poly_init (P := P) (w := w) (base := base) T TP
  have G_number := ok_number (P := P) (w := w) (base := base) T TP
  have Gplus := ok_plus (P := P) (w := w) (base := base) T
  refine T._sum.F.ok sc_sum (fun vs H Q E h => ?_) (fun cdv A outer s H vs Q E hr h => ?_)
  · obtain ⟨a, b, xs, ys, n, m, rfl, _⟩ := h
    rfl
  obtain ⟨a, b, xs, ys, n, m, rfl, pa, pb, sx, sy, n1, m1, hn, hm, lx, ly, k⟩ := h
  refine ⟨_, (pss_cons (ps_set (i := 2) sc_sum.nd rfl (Or.inl rfl) (pe_callB (call_max2 rfl) (by rfl) T.max (by decide +kernel) (pa_cons (pe_callB call_len_seq (by rfl) T.len PySem.boot_len (pa_cons (pe_fld (pv 0) (by rfl)) pa_nil)) (pa_cons (pe_callB call_len_seq (by rfl) T.len PySem.boot_len (pa_cons (pe_fld (pv 1) (by rfl)) pa_nil)) pa_nil))))
  (pss_one (ps_ret (pe_make TP.mkc GPoly_init (hr.mono (by decide)) (by rfl) TP.g TP.m_init.b .nil passL (pa_cons (pe_lc (own := [("power", 3)]) (g := gName 3) (tt := tYes) (by rfl) sc_sum.nd (pi_range1 (by rfl) T.range (pa_cons (pv 2) pa_nil)) (blkOk_by (own := [("power", 3)]) (N := ["one", "other", "many", "power"]) (sc := defScope s_sum) (by decide +kernel)) (fun _ _ _ _ _ => pg_name (i := 3) sc_sum.nd rfl (Or.inl rfl)) (fun _ _ _ _ _ => pts_nil) (fun _ _ _ _ _ => (pe_call Gplus (hr.mono (by decide)) (by rfl) T.plus.g T.plus.F.kp T.plus.b .nil passL (pa_cons (pe_c T._number G_number (hr.mono (by decide)) (pa_cons (pv 0) (pa_cons (pv 3) pa_nil))) (pa_cons (pe_c T._number G_number (hr.mono (by decide)) (pa_cons (pv 1) (pa_cons (pv 3) pa_nil))) pa_nil))))) pa_nil))))), ?_⟩
  obtain ⟨dx, t, e, los, tl⟩ := pa
  obtain ⟨dy, t', e', los', tl'⟩ := pb
  have nn : n ≤ 400 := by omega
  have mm : m ≤ 400 := by omega
  refine q_set (v := .int ((max xs.length ys.length : Nat) : Int)) (v_cb (va_cons (v_lenL (v_numbers TP (val_var rfl) e) los) (va_cons (v_lenL (v_numbers TP (val_var rfl) e') los') va_nil)) fun Q' q' => ⟨_, _, rfl, by
    have e : (if (ys.length : Int) > (xs.length : Int) then (ys.length : Int) else (xs.length : Int)) = ((max xs.length ys.length : Nat) : Int) := by split <;> omega
    rw [e]
    exact q'⟩) ?_
  refine r_ret (va_1 (l_lcR (n := max xs.length ys.length) (R := fun i v H => ∃ p, v = V.ref p ∧ Lo H p (co xs i + co ys i)) (fun i v H1 H2 s ⟨p, h1, lo⟩ => ⟨p, h1, lo.same s⟩) (lo_offR _) (va_cons (val_var rfl) va_nil) (by omega) (fun i H1 hi s1 => turn_name rfl fun Q q => ?_) (fun l zs H1 s1 e1 r1 => ?_)))
  · refine call_1 (c_call (va_cons (val_var rfl) (va_cons (val_var rfl) va_nil)) ⟨a, i, xs, rfl, PoAt.same ⟨dx, t, e, los, tl⟩ s1, fun p H2 s2 lo => va_1 ?_⟩)
    refine c_call (va_cons (val_var rfl) (va_cons (val_var rfl) va_nil)) ⟨b, i, ys, rfl, PoAt.same ⟨dy, t', e', los', tl'⟩ (s1.trans s2), fun p' H3 s3 lo' => ?_⟩
    exact c_plus2 ((lo.same s3).rq (sx.co n1 i) (by omega)) (lo'.rq (sy.co m1 i) (by omega)) fun p2 H4 s4 lo4 => q _ H4 ((s2.trans s3).trans s4) ⟨p2, rfl, lo4⟩
  · have bd : ∀ i, i < max xs.length ys.length → Sm (n + m + 1) (co xs i + co ys i) := fun i _ => (sx.co n1 i).add (sy.co m1 i)
    exact made_poly (.inl e1) (by rw [r1.2]; omega) (rows_rq r1 bd (by omega)) fun c H' s' pc => k c H' (s1.trans s') pc
end
end LW

namespace LW
open PySem PySem.Spec PyProof.Rows L2 GL
section
variable {P : Program} {w : World} {K : PySem.W.Frag} {mg : Str → Option Value} {base : Heap}

/-! ### products -/
def nd (ns : List Int) (i : Nat) : Int := ns.getD i 0
theorem nd_some {ns : List Int} {i : Nat} {a : Int} (h : ns[i]? = some a) : nd ns i = a := by
  unfold nd
  rw [List.getD_eq_getElem?_getD, h]
  rfl
theorem nd_none {ns : List Int} {i : Nat} (h : ns.length ≤ i) : nd ns i = 0 := by
  unfold nd
  rw [List.getD_eq_getElem?_getD, List.getElem?_eq_none_iff.mpr h]
  rfl
def zsum (n : Nat) (f : Nat → Int) : Int := ((List.range n).map f).sum
theorem zsum_succ (n : Nat) (f : Nat → Int) : zsum (n + 1) f = zsum n f + f n := by
  unfold zsum
  rw [List.range_succ, List.map_append, List.sum_append]
  simp
theorem zsum_add (a : Nat) (f : Nat → Int) : ∀ b, zsum (a + b) f = zsum a f + zsum b fun j => f (a + j)
  | 0 => by simp [zsum]
  | b + 1 => by rw [← Nat.add_assoc, zsum_succ, zsum_add a f b, zsum_succ]; omega
theorem zsum_zero {n : Nat} {f : Nat → Int} (h : ∀ i, i < n → f i = 0) : zsum n f = 0 := by
  induction n with
  | zero => rfl
  | succ n ih => rw [zsum_succ, ih fun i hi => h i (by omega), h n (by omega)]; rfl
theorem zsum_cut {n a b : Nat} {f : Nat → Int} (h1 : a ≤ b) (h2 : b ≤ n) (h : ∀ i, i < n → i < a ∨ b ≤ i → f i = 0) : zsum n f = zsum (b - a) fun j => f (a + j) := by
  have e1 : n = a + ((b - a) + (n - b)) := by omega
  rw [e1, zsum_add, zsum_add, zsum_zero (n := a) fun i hi => h i (by omega) (.inl hi), zsum_zero (n := n - b) fun i hi => h _ (by omega) (.inr (by omega))]
  omega
def relS (scope sc : Scope) : Scope := { scope with names := scope.names.map fun (n, k) => if (k == NameKind.free && sc.kind == .function && sc.names.lookup n == some .cell) then (n, NameKind.cell) else (n, k) }
/-- a comprehension within another one -/
theorem blkOk_in {N : List Str} {o scope : Scope} {own : List (Str × Nat)} {cl : List (Str × Addr)} {C : Addr} {env : Env} (sc : Scope) (e : env.scope = sc) (h : blkC N (relS o sc) scope own = true) : BlkOk N (compEnvC o cl C env).scope scope own := by
  subst e
  exact blkOk_by h
def rowP (ns ms : List Int) : List Int := (List.range (if ns = [] ∨ ms = [] then 0 else ns.length + ms.length - 1)).map fun i => zsum (i + 1) fun s => nd ns s * nd ms (i - s)
def spRowP : Sp := fun vs H Q _ => ∃ (l l' : Addr) (ns ms : List Int), vs = [.ref l, .ref l'] ∧ SqL K H l (ns.map V.int) ∧ SqL K H l' (ms.map V.int) ∧ ns.length ≤ 1000 ∧ ms.length ≤ 1000 ∧ (∀ a ∈ ns, a.natAbs < 2 ^ 1000) ∧ (∀ a ∈ ms, a.natAbs < 2 ^ 1000) ∧
  ∀ p H', Same H H' → H' p = some (.lst ((rowP ns ms).map V.int)) → Q (.ref p) H'
theorem tru_ints {H : Hp} {l : Addr} {ns : List Int} (h : SqL K H l (ns.map V.int)) : TruV K (.ref l) H (!ns.isEmpty) := .inl ⟨_, h, by cases ns <;> rfl⟩
theorem v_if2 {t : TT} {ta tb : TE} {σ : L2.St} {H : Hp} {b : Bool} {v : V} (h : Ans t σ H b) (h1 : b = true → Val ta σ H v) (h2 : b = false → Val tb σ H v) : Val (tIf t ta tb) σ H v := fun Q q => h _ (by
  cases b with
  | true => exact h1 rfl Q q
  | false => exact h2 rfl Q q)
theorem ok_row_product (T : Txt K mg) : FnOk P w K mg base CX0 1 (fA mg "row_product") (fDat K (fA mg "row_product")) ["one", "other"] (spRowP (K := K)) := by
  refine T.row_product.F.ok scrow_product (fun vs H Q E h => ?_) (fun cdv A outer s H vs Q E hr h => ?_)
  · obtain ⟨l, l', ns, ms, rfl, _⟩ := h
    rfl
  obtain ⟨l, l', ns, ms, rfl, hl, hl', ln, lm, bn, bm, k⟩ := h
  refine ⟨_, (pss_cons (ps_set (i := 2) scrow_product.nd rfl (Or.inl rfl) (pe_ifExp (PW.pt (pw_and (pt_truth (pv 0) (by intro _; rfl)) (pw_and1 (pt_truth (pv 1) (by intro _; rfl))))) (pe_op op_sub (pe_op op_add (pe_callB call_len_seq (by rfl) T.len PySem.boot_len (pa_cons (pv 0) pa_nil)) (pe_callB call_len_seq (by rfl) T.len PySem.boot_len (pa_cons (pv 1) pa_nil))) pe_int) pe_int))
  (pss_one (ps_ret (pe_lc (own := [("power", 4)]) (g := gName 4) (tt := tYes) (by rfl) scrow_product.nd (pi_range1 (by rfl) T.range (pa_cons (pv 2) pa_nil)) (blkOk_by (own := [("power", 4)]) (N := ["one", "other", "many", "k", "power"]) (sc := defScope srow_product) (by decide +kernel)) (fun _ _ _ _ _ => pg_name (i := 4) scrow_product.nd rfl (Or.inr rfl)) (fun _ _ _ _ _ => pts_nil) (fun _ _ _ _ _ => (pe_callB (show CallR _ (.builtin "sum") (rSum K) from cr_sum rfl) (by rfl) T.sum (by decide +kernel) (pa_cons (pe_lc (own := [("k", 3)]) (g := gName 3) (tt := tYes) (by rfl) scrow_product.nd (pi_range2 (by rfl) T.range (pa_cons (pe_callB (call_max2 rfl) (by rfl) T.max (by decide +kernel) (pa_cons pe_int (pa_cons (pe_op op_sub (pe_op op_add (pv 4) pe_int) (pe_callB (show CallR _ (.builtin "len") (fun xs H Q => ∃ p ys, xs = [.ref p] ∧ (SqL K H p ys ∨ SqT K H p ys) ∧ Q (.int ys.length) H) from call_len_seq) (by rfl) T.len PySem.boot_len (pa_cons (pv 1) pa_nil))) pa_nil))) (pa_cons (pe_callB (call_min2 rfl) (by rfl) T.min (by decide +kernel) (pa_cons (pe_op op_add (pv 4) pe_int) (pa_cons (pe_callB (show CallR _ (.builtin "len") (fun xs H Q => ∃ p ys, xs = [.ref p] ∧ (SqL K H p ys ∨ SqT K H p ys) ∧ Q (.int ys.length) H) from call_len_seq) (by rfl) T.len PySem.boot_len (pa_cons (pv 0) pa_nil)) pa_nil))) pa_nil))) (blkOk_in (own := [("k", 3)]) (N := ["one", "other", "many", "k", "power"]) (defScope srow_product) rfl (by decide +kernel)) (fun _ _ _ _ _ => pg_name (i := 3) scrow_product.nd rfl (Or.inl rfl)) (fun _ _ _ _ _ => pts_nil) (fun _ _ _ _ _ => (pe_op op_mulW (pe_ix (show IxR _ (rIxL K) from ix_list) (pv 0) (pv 3) (fun _ _ => rfl)) (pe_ix (show IxR _ (rIxL K) from ix_list) (pv 1) (pe_op op_sub (pv 4) (pv 3)) (fun _ _ => rfl))))) pa_nil))))))), ?_⟩
  have v1 : ∀ {te : TE} {σ : L2.St} {H1 : Hp}, Same H H1 → Val te σ H1 (.ref l') → Val (tCB (fun xs H Q => ∃ p ys, xs = [.ref p] ∧ (SqL K H p ys ∨ SqT K H p ys) ∧ Q (.int ys.length) H) (tCons te tNil)) σ H1 (.int (ms.length : Int)) := fun s1 h => by
    have := v_len (K := K) h (.inl (s1.seq hl'))
    rw [List.length_map] at this
    exact this
  have v2 : ∀ {te : TE} {σ : L2.St} {H1 : Hp}, Same H H1 → Val te σ H1 (.ref l) → Val (tCB (fun xs H Q => ∃ p ys, xs = [.ref p] ∧ (SqL K H p ys ∨ SqT K H p ys) ∧ Q (.int ys.length) H) (tCons te tNil)) σ H1 (.int (ns.length : Int)) := fun s1 h => by
    have := v_len (K := K) h (.inl (s1.seq hl))
    rw [List.length_map] at this
    exact this
  generalize hM : (if ns = [] ∨ ms = [] then 0 else ns.length + ms.length - 1) = M
  have hM2 : M ≤ ns.length + ms.length := by rw [← hM]; split <;> omega
  have hrow : rowP ns ms = (List.range M).map fun i => zsum (i + 1) fun s => nd ns s * nd ms (i - s) := by unfold rowP; rw [hM]
  have both : 0 < M → 0 < ns.length ∧ 0 < ms.length ∧ M = ns.length + ms.length - 1 := fun h => by
    rw [← hM] at h ⊢
    by_cases e : ns = [] ∨ ms = []
    · rw [if_pos e] at h; omega
    · rw [if_neg e]
      refine ⟨List.length_pos_iff.mpr fun z => e (.inl z), List.length_pos_iff.mpr fun z => e (.inr z), rfl⟩
  refine q_set (v := .int (M : Int)) (v_if2 (ans_and2 (ans_tru (val_var rfl) (tru_ints hl)) (ans_tru (val_var rfl) (tru_ints hl'))) (fun hb => ?_) (fun hb => ?_)) ?_
  · have e1 : ns ≠ [] := fun z => by rw [z] at hb; simp at hb
    have e2 : ms ≠ [] := fun z => by rw [z] at hb; simp at hb
    have : 0 < ns.length := List.length_pos_iff.mpr e1
    exact Val.is (v_sub (v_add (v2 (Same.refl H) (val_var rfl)) (v1 (Same.refl H) (val_var rfl))) val_c) (by rw [← hM, if_neg (by simp [e1, e2])]; congr 1; omega)
  · refine Val.is val_c ?_
    rw [← hM, if_pos]
    · rfl
    · cases ns with
      | nil => exact .inl rfl
      | cons a as =>
        cases ms with
        | nil => exact .inr rfl
        | cons b bs => simp at hb
  refine r_ret (l_lcR (n := M) (R := fun i v _ => ∃ b, ((rowP ns ms))[i]? = some b ∧ v = V.int b) (fun _ _ _ _ _ h => h) (fun _ _ _ _ _ _ h _ => h) (va_cons (val_var rfl) va_nil) (by omega) (fun i H1 hi s1 => turn_name rfl fun Q2 q2 => ?_) (fun p ys H1 s1 e1 r1 => ?_))
  · obtain ⟨n0, m0, eM⟩ := both (by omega)
    have fl : i + 1 - ms.length ≤ min (i + 1) ns.length := by omega
    generalize hf : i + 1 - ms.length = first at fl
    generalize hg : min (i + 1) ns.length = last at fl
    have cut : zsum (i + 1) (fun s => nd ns s * nd ms (i - s)) = zsum (last - first) fun j => nd ns (first + j) * nd ms (i - (first + j)) :=
      zsum_cut (f := fun s => nd ns s * nd ms (i - s)) fl (by omega) fun s hs h => by
        rcases h with h | h
        · show nd ns s * nd ms (i - s) = 0
          rw [nd_none (ns := ms) (by omega), Int.mul_zero]
        · show nd ns s * nd ms (i - s) = 0
          rw [nd_none (ns := ns) (by omega), Int.zero_mul]
    have hp : (rowP ns ms)[i]? = some (zsum (i + 1) fun s => nd ns s * nd ms (i - s)) := by rw [hrow, List.getElem?_map, List.getElem?_range hi]; rfl
    refine cb_one (l_lcR2 (lo := (first : Int)) (n := last - first) (R := fun j v _ => ∃ b, ((List.range (last - first)).map fun j => nd ns (first + j) * nd ms (i - (first + j)))[j]? = some b ∧ v = V.int b) (fun _ _ _ _ _ h => h) (fun _ _ _ _ _ _ h _ => h)
      (va_cons (v_cb (va_cons val_c (va_cons (v_sub (v_add (val_var rfl) val_c) (v1 s1 (val_var rfl))) va_nil)) fun Q' q' => ⟨_, _, rfl, by
        have e : (if (i : Int) + 1 - (ms.length : Int) > 0 then (i : Int) + 1 - (ms.length : Int) else 0) = (first : Int) := by split <;> omega
        rw [e]
        exact q'⟩) (va_cons (v_cb (va_cons (v_add (val_var rfl) val_c) (va_cons (v2 s1 (val_var rfl)) va_nil)) fun Q' q' => ⟨_, _, rfl, by
        have e : (if (ns.length : Int) < (i : Int) + 1 then (ns.length : Int) else (i : Int) + 1) = (first : Int) + ((last - first : Nat) : Int) := by split <;> omega
        rw [e]
        exact q'⟩) va_nil)) (by omega) (by omega) (by omega) (fun j H2 hj s2 => turn_name rfl ?_) (fun p ys H2 s2 e2 r2 => ?_))
    · have i1 : first + j < ns.length := by omega
      have i2 : i - (first + j) < ms.length := by omega
      have g1 : ns[first + j]? = some ns[first + j] := List.getElem?_eq_getElem i1
      have g2 : ms[i - (first + j)]? = some ms[i - (first + j)] := List.getElem?_eq_getElem i2
      refine em_val (v := .int (ns[first + j] * ms[i - (first + j)])) (v_mul (v_ixL (n := first + j) (xs := ns.map V.int) (v := .int ns[first + j]) (val_var rfl) (Val.is (val_var (v := .int ((first : Int) + (j : Int))) rfl) (by congr 1)) ((s1.trans s2).seq hl) (by rw [List.getElem?_map, g1]; rfl))
        (v_ixL (n := i - (first + j)) (xs := ms.map V.int) (v := .int ms[i - (first + j)]) (val_var rfl) (Val.is (GL.v_sub (i := (i : Int)) (j := (first : Int) + (j : Int)) (val_var rfl) (val_var rfl)) (by congr 1; omega)) ((s1.trans s2).seq hl') (by rw [List.getElem?_map, g2]; rfl)) (fit_mul (bn _ (get_mem g1)) (bm _ (get_mem g2)))) ⟨_, ?_, rfl⟩
      rw [List.getElem?_map, List.getElem?_range hj, Option.map_some, nd_some g1, nd_some g2]
    · rw [rows_map r2 (by rw [List.length_map, List.length_range])] at e2
      refine ⟨p, _, rfl, SqL.of e2, ?_⟩
      show Q2 (.int (zsum (last - first) fun j => nd ns (first + j) * nd ms (i - (first + j)))) H2
      rw [← cut]
      exact q2 _ H2 s2 ⟨_, hp, rfl⟩
  · rw [rows_map r1 (by rw [hrow, List.length_map, List.length_range])] at e1
    exact k p H1 s1 e1

def rsum : Nat → (Nat → Rat) → Rat
  | 0, _ => 0
  | n + 1, f => rsum n f + f n
theorem rsum_congr {n : Nat} {f g : Nat → Rat} (h : ∀ i, i < n → f i = g i) : rsum n f = rsum n g := by
  induction n with
  | zero => rfl
  | succ n ih => rw [rsum, rsum, ih fun i hi => h i (by omega), h n (by omega)]
theorem rsum_mul (n : Nat) (f : Nat → Rat) (c : Rat) : rsum n (fun i => f i * c) = rsum n f * c := by
  induction n with
  | zero => simp [rsum, Rat.zero_mul]
  | succ n ih => rw [rsum, rsum, ih, Rat.add_mul]
theorem cast_zsum (n : Nat) (f : Nat → Int) : ((zsum n f : Int) : Rat) = rsum n fun i => (f i : Rat) := by
  induction n with
  | zero => rfl
  | succ n ih => rw [zsum_succ, rsum, Rat.intCast_add, ih]
/-- the number of a product at a power -/
def conv (xs ys : List Rat) (i : Nat) : Rat := rsum (i + 1) fun s => co xs s * co ys (i - s)
def pmul (xs ys : List Rat) : List Rat := ofN (xs.length + ys.length) (conv xs ys)
theorem num_den (q : Rat) : (q.num : Rat) = q * (q.den : Rat) := by
  have h : (q.den : Rat) ≠ 0 := by
    intro z
    have : (0 : Rat) < (q.den : Rat) := Rat.natCast_pos.mpr q.den_pos
    rw [z] at this
    exact Rat.lt_irrefl this
  have e := Rat.num_divInt_den q
  rw [Rat.divInt_eq_div] at e
  have e2 := Rat.div_mul_cancel (a := (q.num : Rat)) h
  rw [show ((q.num : Rat) / (q.den : Rat)) = q from e] at e2
  exact e2.symm
theorem nd_tops {D : Nat} {xs : List Rat} (dd : ∀ q ∈ xs, q.den ∣ D) (i : Nat) : ((nd (tops D xs) i : Int) : Rat) = co xs i * (D : Rat) := by
  rcases Nat.lt_or_ge i xs.length with lt | ge
  · have e : xs[i]? = some xs[i] := List.getElem?_eq_getElem lt
    rw [co_some e, nd_some (show (tops D xs)[i]? = some (xs[i].num * ((D / xs[i].den : Nat) : Int)) by unfold tops; rw [List.getElem?_map, e]; rfl)]
    obtain ⟨c, hc⟩ := dd _ (get_mem e)
    rw [hc, Nat.mul_div_cancel_left _ (Rat.den_pos _), Rat.intCast_mul, num_den, Rat.mul_assoc]
    congr 1
    rw [Rat.natCast_mul]
    rfl
  · rw [co_none ge, nd_none (by unfold tops; rw [List.length_map]; exact ge)]
    simp [Rat.zero_mul]
theorem zsum_tops {D D' : Nat} {xs ys : List Rat} (dd : ∀ q ∈ xs, q.den ∣ D) (dd' : ∀ q ∈ ys, q.den ∣ D') (i : Nat) :
    ((zsum (i + 1) fun s => nd (tops D xs) s * nd (tops D' ys) (i - s) : Int) : Rat) = conv xs ys i * ((D : Rat) * (D' : Rat)) := by
  rw [cast_zsum]
  unfold conv
  rw [← rsum_mul]
  refine rsum_congr fun s _ => ?_
  rw [Rat.intCast_mul, nd_tops dd, nd_tops dd']
  grind
theorem conv_div {D D' : Nat} {xs ys : List Rat} (d0 : 0 < D) (d0' : 0 < D') (dd : ∀ q ∈ xs, q.den ∣ D) (dd' : ∀ q ∈ ys, q.den ∣ D') (i : Nat) :
    conv xs ys i = Rat.divInt (zsum (i + 1) fun s => nd (tops D xs) s * nd (tops D' ys) (i - s)) ((D : Int) * (D' : Int)) := by
  rw [Rat.divInt_eq_div, zsum_tops dd dd', Rat.intCast_mul]
  have h : ((D : Rat) * (D' : Rat)) ≠ 0 := fun z => by
    have : (0 : Rat) < (D : Rat) * (D' : Rat) := Rat.mul_pos (Rat.natCast_pos.mpr d0) (Rat.natCast_pos.mpr d0')
    rw [z] at this
    exact Rat.lt_irrefl this
  exact (Rat.mul_div_cancel h).symm
theorem zsum_abs {n B : Nat} {f : Nat → Int} (h : ∀ i, i < n → (f i).natAbs ≤ B) : (zsum n f).natAbs ≤ n * B := by
  induction n with
  | zero => simp [zsum]
  | succ n ih =>
    rw [zsum_succ, Nat.succ_mul]
    have := ih fun i hi => h i (by omega)
    have := h n (by omega)
    omega
theorem tops_abs {D n : Nat} {xs : List Rat} {N : Nat} (sm : Sms n xs) (hD : D ≤ 2 ^ N) : ∀ a ∈ tops D xs, a.natAbs ≤ 2 ^ (n + N) := fun a ha => by
  unfold tops at ha
  obtain ⟨q, hq, rfl⟩ := List.mem_map.mp ha
  rw [Int.natAbs_mul, Int.natAbs_natCast, Nat.pow_add]
  exact Nat.mul_le_mul (Nat.le_of_lt (sm q hq).1) (Nat.le_trans (Nat.div_le_self _ _) hD)
theorem nd_abs {ns : List Int} {B : Nat} (h : ∀ a ∈ ns, a.natAbs ≤ B) (i : Nat) : (nd ns i).natAbs ≤ B := by
  rcases Nat.lt_or_ge i ns.length with lt | ge
  · have e : ns[i]? = some ns[i] := List.getElem?_eq_getElem lt
    rw [nd_some e]
    exact h _ (get_mem e)
  · rw [nd_none ge]
    exact Nat.zero_le _
theorem tops_len (D : Nat) (xs : List Rat) : (tops D xs).length = xs.length := List.length_map _
theorem q_two {te : TE} {i j : Nat} {tz : TS} {D : Ends} {σ : L2.St} {H : Hp} (h : te σ H fun v H1 => gTup K 2 (gCons (gName i) (gCons (gName j) gNil)) v σ H1 fun σ2 H2 => tz D σ2 H2) : tSeq (tAsg te (gTup K 2 (gCons (gName i) (gCons (gName j) gNil)))) tz D σ H := h
theorem l_lcCall {sp : Sp} {E : XK} {ta : TA} {ws : List V} {σ : L2.St} {H : Hp} {g : TG} {te : TE} {vs : List Nat} {Q : VK} (h : VA ta σ H ws) (q : ∀ Q' : VK, (∀ a H1, tLc (iList K (tC (.ref a))) g tYes te vs σ H1 Q → Q' (.ref a) H1) → sp ws H Q' E) : tLc (iList K (tCall sp [] E ta)) g tYes te vs σ H Q :=
  c_call h (q _ fun a H1 z => z)
theorem rsum_zero4 {n : Nat} {f : Nat → Rat} (h : ∀ i, i < n → f i = 0) : rsum n f = 0 := by
  induction n with
  | zero => rfl
  | succ n ih => rw [rsum, ih fun i hi => h i (by omega), h n (by omega), Rat.add_zero]
theorem conv_zero4 {xs ys : List Rat} {i : Nat} (h : xs = [] ∨ ys = [] ∨ xs.length + ys.length ≤ i + 1) : conv xs ys i = 0 := by
  unfold conv
  refine rsum_zero4 fun s hs => ?_
  rcases Nat.lt_or_ge s xs.length with lt | ge
  · rw [co_none (xs := ys) (by
      rcases h with h | h | h
      · rw [h] at lt; exact absurd lt (Nat.not_lt_zero _)
      · rw [h]; exact Nat.zero_le _
      · omega), Rat.mul_zero]
  · rw [co_none ge, Rat.zero_mul]
theorem pmul_row {D D' : Nat} {xs ys : List Rat} : ofN (rowP (tops D xs) (tops D' ys)).length (conv xs ys) = pmul xs ys := eq_of_co tlen_ofN tlen_ofN fun i => by
  have hl : (rowP (tops D xs) (tops D' ys)).length = if xs = [] ∨ ys = [] then 0 else xs.length + ys.length - 1 := by
    unfold rowP
    rw [List.length_map, List.length_range, tops_len, tops_len]
    unfold tops
    simp only [List.map_eq_nil_iff]
  rw [pmul, co_ofN, co_ofN, hl]
  by_cases e : xs = [] ∨ ys = []
  · rw [if_pos e, if_neg (Nat.not_lt_zero _), conv_zero4 (by rcases e with e | e; exact .inl e; exact .inr (.inl e))]
    split <;> rfl
  · rw [if_neg e]
    by_cases h1 : i < xs.length + ys.length - 1
    · rw [if_pos h1, if_pos (by omega)]
    · rw [if_neg h1, conv_zero4 (i := i) (.inr (.inr (by omega)))]
      split <;> rfl
theorem ok_product (T : Txt K mg) (TP : PolyT K mg) : FnOk P w K mg base CX0 9 (fA mg "_product") (fDat K (fA mg "_product")) ["one", "other"] (spTwoP mg pmul) := by
  have GPoly_init := ok_Poly_init (P := P) (w := w) (base := base) T TP
  have Gwhole_row := ok_whole_row (P := P) (w := w) (base := base) T
  have Grow_product := ok_row_product (P := P) (w := w) (base := base) T
  refine T._product.F.ok sc_product (fun vs H Q E h => ?_) (fun cdv A outer s H vs Q E hr h => ?_)
  · obtain ⟨a, b, xs, ys, n, m, rfl, _⟩ := h
    rfl
  obtain ⟨a, b, xs, ys, n, m, rfl, ⟨dx, t, e, los, tl⟩, ⟨dy, t', e', los', tl'⟩, sx, sy, n1, m1, hn, hm, lx, ly, k⟩ := h
  refine ⟨_, (pss_cons (ps_asg (pe_c T.whole_row Gwhole_row (hr.mono (by decide)) (pa_cons (pe_fld (pv 0) (by rfl)) pa_nil)) (pg_tup rfl (pgs_cons (pg_name (i := 2) sc_product.nd rfl (Or.inl rfl)) (pgs_cons (pg_name (i := 3) sc_product.nd rfl (Or.inr rfl)) pgs_nil))))
  (pss_cons (ps_asg (pe_c T.whole_row Gwhole_row (hr.mono (by decide)) (pa_cons (pe_fld (pv 1) (by rfl)) pa_nil)) (pg_tup rfl (pgs_cons (pg_name (i := 4) sc_product.nd rfl (Or.inl rfl)) (pgs_cons (pg_name (i := 5) sc_product.nd rfl (Or.inr rfl)) pgs_nil))))
  (pss_one (ps_ret (pe_make TP.mkc GPoly_init (hr.mono (by decide)) (by rfl) TP.g TP.m_init.b .nil passL (pa_cons (pe_lc (own := [("number", 6)]) (g := gName 6) (tt := tYes) (by rfl) sc_product.nd (pi_list (pe_c T.row_product Grow_product (hr.mono (by decide)) (pa_cons (pv 2) (pa_cons (pv 4) pa_nil)))) (blkOk_by (own := [("number", 6)]) (N := ["one", "other", "tops", "below", "other_tops", "other_below", "number"]) (sc := defScope s_product) (by decide +kernel)) (fun _ _ _ _ _ => pg_name (i := 6) sc_product.nd rfl (Or.inl rfl)) (fun _ _ _ _ _ => pts_nil) (fun _ _ _ _ _ => (pe_tup (pa_cons (pv 6) (pa_cons (pe_op op_mulW (pv 3) (pv 5)) pa_nil))))) pa_nil)))))), ?_⟩
  refine q_two (call_1 ((v_numbers TP (val_var rfl) e) _ ?_))
  refine ⟨t, xs, n, rfl, los, sx, by omega, by omega, fun p l D H1 s1 d0 dl dd ep el => g_two (SqT.of ep) ?_⟩
  refine q_two (call_1 ((v_numbers TP (val_var rfl) (s1 _ _ e')) _ ?_))
  refine ⟨t', ys, m, rfl, los'.same s1, sy, by omega, by omega, fun p' l' D' H2 s2 d0' dl' dd' ep' el' => g_two (SqT.of ep') ?_⟩
  have el2 := s2 _ _ el
  have b1 := tops_abs sx dl
  have b2 := tops_abs sy dl'
  have p4 : (2 : Nat) ^ (n + n * xs.length) ≤ 2 ^ 400 := Nat.pow_le_pow_right (by decide) (by omega)
  have p5 : (2 : Nat) ^ (m + m * ys.length) ≤ 2 ^ 400 := Nat.pow_le_pow_right (by decide) (by omega)
  have pq : (2 : Nat) ^ 400 < 2 ^ 1000 := Nat.pow_lt_pow_right (by decide) (by decide)
  have dl9 : D < 2 ^ 1000 := Nat.lt_of_le_of_lt (Nat.le_trans dl (Nat.pow_le_pow_right (by decide) (by omega : n * xs.length ≤ 400))) pq
  have dl9' : D' < 2 ^ 1000 := Nat.lt_of_le_of_lt (Nat.le_trans dl' (Nat.pow_le_pow_right (by decide) (by omega : m * ys.length ≤ 400))) pq
  have dd9 : D * D' < 2 ^ 1000 := by
    have h1 : D * D' ≤ 2 ^ 400 * 2 ^ 400 := Nat.mul_le_mul (Nat.le_trans dl (Nat.pow_le_pow_right (by decide) (by omega))) (Nat.le_trans dl' (Nat.pow_le_pow_right (by decide) (by omega)))
    rw [← Nat.pow_add] at h1
    exact Nat.lt_of_le_of_lt h1 (Nat.pow_lt_pow_right (by decide) (by decide))
  have lenR : (rowP (tops D xs) (tops D' ys)).length ≤ xs.length + ys.length := by
    unfold rowP
    rw [List.length_map, List.length_range, tops_len, tops_len]
    split <;> omega
  refine r_ret (va_1 (l_lcCall (va_cons (val_var rfl) (va_cons (val_var rfl) va_nil)) fun Q' q' => ⟨l, l', tops D xs, tops D' ys, rfl, SqL.of el2, SqL.of el', by rw [tops_len]; omega, by rw [tops_len]; omega, fun a ha => Nat.lt_of_le_of_lt (Nat.le_trans (b1 a ha) p4) pq, fun a ha => Nat.lt_of_le_of_lt (Nat.le_trans (b2 a ha) p5) pq, fun p3 H3 s3 e3 =>
    q' _ _ (l_lcL (R := fun i v H => ∃ p b, (rowP (tops D xs) (tops D' ys))[i]? = some b ∧ v = V.ref p ∧ H p = some (.tup [.int b, .int ((D : Int) * (D' : Int))])) (fun i v H1 H2 s ⟨p, b, h1, h2, h3⟩ => ⟨p, b, h1, h2, s _ _ h3⟩) (fun k v H D ys zs ⟨p, b, h1, h2, h3⟩ e => ⟨p, b, h1, h2, by
    rw [upd_ne (fun z => by rw [z, e] at h3; cases h3)]
    exact h3⟩) val_c (SqL.of e3) (by rw [List.length_map]; omega) (fun i x H4 hx s4 => ?_) (fun l zs H4 s4 e4 r4 => ?_))⟩))
  · rw [List.getElem?_map] at hx
    obtain ⟨b, hb, rfl⟩ := Option.map_eq_some_iff.mp hx
    exact turn_name rfl (em_tup (va_cons (val_var rfl) (va_cons (v_mul (i := (D : Int)) (j := (D' : Int)) (val_var rfl) (val_var rfl) (fit_mul (by rw [Int.natAbs_natCast]; exact dl9) (by rw [Int.natAbs_natCast]; exact dl9'))) va_nil)) (by show 2 ≤ 100000; decide) fun a H' e' => ⟨a, b, hb, rfl, e'⟩)
  · rw [List.length_map] at r4
    have hpr : ∀ i b, (rowP (tops D xs) (tops D' ys))[i]? = some b → b = zsum (i + 1) fun s => nd (tops D xs) s * nd (tops D' ys) (i - s) := fun i b hb => by
      unfold rowP at hb
      rw [List.getElem?_map] at hb
      obtain ⟨j, hj, rfl⟩ := Option.map_eq_some_iff.mp hb
      obtain ⟨hl, e⟩ := List.getElem?_eq_some_iff.mp hj
      rw [List.getElem_range] at e
      rw [e]
    have al : All2 (Rq H4) zs ((List.range (rowP (tops D xs) (tops D' ys)).length).map (conv xs ys)) := All2.mk (by rw [r4.2, List.length_map, List.length_range]) fun i v q hv hq => by
      have hi : i < (rowP (tops D xs) (tops D' ys)).length := by rw [← r4.2]; exact (List.getElem?_eq_some_iff.mp hv).1
      obtain ⟨p, b, hb, rfl, e5⟩ := r4.1.get hv
      rw [Nat.zero_add] at hb
      rw [List.getElem?_map, List.getElem?_range hi] at hq
      cases hq
      obtain rfl := hpr i b hb
      refine ⟨_, _, .pair (.inr e5) (Int.mul_pos (by omega) (by omega)), ⟨?_, ?_⟩, conv_div d0 d0' dd dd' i⟩
      · have z := zsum_abs (n := i + 1) (B := 2 ^ 400 * 2 ^ 400) (f := fun s => nd (tops D xs) s * nd (tops D' ys) (i - s)) fun s _ => by
          show (nd (tops D xs) s * nd (tops D' ys) (i - s)).natAbs ≤ _
          rw [Int.natAbs_mul]
          exact Nat.mul_le_mul (Nat.le_trans (nd_abs b1 s) p4) (Nat.le_trans (nd_abs b2 (i - s)) p5)
        refine Nat.lt_of_le_of_lt z ?_
        have h1 : i + 1 ≤ 2 ^ 10 := by omega
        have h2 : (i + 1) * (2 ^ 400 * 2 ^ 400) ≤ 2 ^ 10 * (2 ^ 400 * 2 ^ 400) := Nat.mul_le_mul_right _ h1
        rw [← Nat.pow_add, ← Nat.pow_add] at h2
        exact Nat.lt_of_le_of_lt (by rw [← Nat.pow_add]; exact h2) (Nat.pow_lt_pow_right (by decide) (by decide))
      · rw [Int.natAbs_mul, Int.natAbs_natCast, Int.natAbs_natCast]
        exact dd9
    refine made_poly (.inl e4) (by rw [r4.2]; omega) al fun c H' s' pc => k c H' ((((s1.trans s2).trans s3).trans s4).trans s') ?_
    have e9 := pmul_row (D := D) (D' := D') (xs := xs) (ys := ys)
    unfold ofN at e9
    rw [← e9]
    exact pc
end
end LW

namespace LW
open PySem PySem.Spec PyProof.Rows L2 GL
section
variable {P : Program} {w : World} {K : PySem.W.Frag} {mg : Str → Option Value} {base : Heap}

def pr (x y : Int) : PyData := .tuple [.int x, .int y]

/-! ### the methods of Poly -/
def polyD (xs : List Rat) : PyData := .tuple (xs.map fun q => pr q.num (q.den : Int))
theorem lo_dp {H : Hp} {p : Addr} {q : Rat} (h : Lo H p q) : Dp K H (.ref p) (pr q.num (q.den : Int)) := .tup (SqT.of h) (.cons (.int _) (.cons (.int _) .nil))
theorem los_dp {H : Hp} {t : Addr} {xs : List Rat} (h : Los H t xs) : Dp K H (.ref t) (polyD xs) := by
  obtain ⟨vs, e, al⟩ := h
  refine .tup (SqT.of e) ?_
  clear e
  induction al with
  | nil => exact .nil
  | cons h _ ih =>
    obtain ⟨p, rfl, lo⟩ := h
    exact .cons (lo_dp lo) ih
theorem lo_dd {H : Hp} {p : Addr} {q : Rat} (h : Lo H p q) : Dd K H (.ref p) (pr q.num (q.den : Int)) := .tup (SqT.of h) (.cons (.int _) (.cons (.int _) .nil))
theorem los_dd {H : Hp} {t : Addr} {xs : List Rat} (h : Los H t xs) : Dd K H (.ref t) (polyD xs) := by
  obtain ⟨vs, e, al⟩ := h
  refine .tup (SqT.of e) ?_
  clear e
  induction al with
  | nil => exact .nil
  | cons h _ ih =>
    obtain ⟨p, rfl, lo⟩ := h
    exact .cons (lo_dd lo) ih
theorem polyD_eqv : ∀ xs ys : List Rat, PyData.eqvAll (xs.map fun q => pr q.num (q.den : Int)) (ys.map fun q => pr q.num (q.den : Int)) = decide (xs = ys)
  | [], [] => rfl
  | [], _ :: _ => rfl
  | _ :: _, [] => rfl
  | x :: xs, y :: ys => by
    rw [List.map_cons, List.map_cons, PyData.eqvAll, polyD_eqv xs ys]
    have e : PyData.eqv (pr x.num (x.den : Int)) (pr y.num (y.den : Int)) = decide (x = y) := by
      simp only [pr, PyData.eqv, PyData.eqvAll, Bool.and_true]
      by_cases h : x = y
      · subst h; simp
      · have : ¬ (x.num = y.num ∧ x.den = y.den) := fun z => h (Rat.ext z.1 z.2)
        simp [h]
        intro h1 h2
        exact this ⟨h1, by omega⟩
    rw [e]
    by_cases h1 : x = y <;> by_cases h2 : xs = ys <;> simp [h1, h2]
theorem polyD_shaped (xs : List Rat) : SeqAt.shaped (polyD xs) = true := by
  have h : ∀ xs : List Rat, PyData.canLayAll0 (xs.map fun q => pr q.num (q.den : Int)) = true ∧ PyData.depthAll (xs.map fun q => pr q.num (q.den : Int)) ≤ 2 := fun xs => by
    induction xs with
    | nil => exact ⟨rfl, by simp [PyData.depthAll]⟩
    | cons x xs ih =>
      rw [List.map_cons]
      refine ⟨?_, ?_⟩
      · simp only [PyData.canLayAll0, ih.1, Bool.and_true]
        rfl
      · have : (pr x.num (x.den : Int)).depth ≤ 2 := by simp [pr, PyData.depth, PyData.depthAll]
        simp only [PyData.depthAll]
        omega
  have h2 := (h xs).2
  refine Bool.and_eq_true_iff.mpr ⟨(h xs).1, decide_eq_true ?_⟩
  have e : (polyD xs).depth = 1 + PyData.depthAll (xs.map fun q => pr q.num (q.den : Int)) := by unfold polyD; simp [PyData.depth]; omega
  rw [e]
  omega
/-- what stands beside a polynomial -/
def Opd (mg : Str → Option Value) (H : Hp) (v : V) (ys : List Rat) : Prop := (∃ b, v = .ref b ∧ PoAt (poA mg) H b ys) ∨ ∃ q, Bes H v q ∧ ys = trim [q]
def spEqP (mg : Str → Option Value) : Sp := fun vs H Q _ => ∃ (a : Addr) (v : V) (xs : List Rat), vs = [.ref a, v] ∧ PoAt (poA mg) H a xs ∧ ((∃ b ys, v = .ref b ∧ PoAt (poA mg) H b ys ∧ Q (.bl (decide (xs = ys))) H) ∨ (∃ n, Is H v n ∧ (n = "int" ∨ n = "tuple") ∧ Q (.bl false) H))
theorem ok_Poly_eq (T : Txt K mg) (TP : PolyT K mg) : FnOk P w K mg base CX0 2 (mA K (poA mg) "__eq__") (fDat K (mA K (poA mg) "__eq__")) ["self", "other"] (spEqP mg) := by
  refine TP.m_eq.F.ok scPoly_eq (fun vs H Q E h => ?_) (fun cdv A outer s H vs Q E hr h => ?_)
  · obtain ⟨a, v, xs, rfl, _⟩ := h
    rfl
  obtain ⟨a, v, xs, rfl, pa, h⟩ := h
  refine ⟨_, (pss_one (ps_ret (pe_and (pe_callB call_isi (by rfl) T.isinstance (by decide +kernel) (pa_cons (pv 1) (pa_cons (pe_cls TP.g) pa_nil))) (pe_one (pe_cmpR (op_eqD (hu64 hr)) (pe_fld (pv 0) (by rfl)) (pe_fld (pv 1) (by rfl)) (nomark _)))))), ?_⟩
  refine r_ret ?_
  rcases h with ⟨b, ys, rfl, pb, k⟩ | ⟨n, is, hn, k⟩
  · refine (v_isO (val_var rfl) (TP.tyI pb) (kit_self K _)) _ ⟨_, rfl, iteT ?_⟩
    obtain ⟨dx, t, e, los, tl⟩ := pa
    obtain ⟨dy, t', e', los', tl'⟩ := pb
    refine (v_numbers TP (val_var rfl) e) _ ((v_numbers TP (val_var rfl) e') _ ⟨_, _, los_dp los, los_dp los', polyD_shaped xs, polyD_shaped ys, ?_⟩)
    rw [show PyData.eqv (polyD xs) (polyD ys) = decide (xs = ys) from polyD_eqv xs ys]
    exact k
  · refine (v_isO (val_var rfl) (is.ty (K := K)).1 (TP.kf n hn)) _ ⟨_, rfl, iteF k⟩
def pneg (xs : List Rat) : List Rat := trim (xs.map fun q => -q)
def spNeg (mg : Str → Option Value) : Sp := fun vs H Q _ => ∃ (a : Addr) (xs : List Rat) (n : Nat), vs = [.ref a] ∧ PoAt (poA mg) H a xs ∧ Sms n xs ∧ n ≤ 900 ∧ xs.length ≤ 1000 ∧ ∀ c H', Same H H' → PoAt (poA mg) H' c (pneg xs) → Q (.ref c) H'
theorem ok_Poly_neg (T : Txt K mg) (TP : PolyT K mg) : FnOk P w K mg base CX0 9 (mA K (poA mg) "__neg__") (fDat K (mA K (poA mg) "__neg__")) ["self"] (spNeg mg) := by
  have GPoly_init := ok_Poly_init (P := P) (w := w) (base := base) T TP
  refine TP.m_neg.F.ok scPoly_neg (fun vs H Q E h => ?_) (fun cdv A outer s H vs Q E hr h => ?_)
  · obtain ⟨a, xs, n, rfl, _⟩ := h
    rfl
  obtain ⟨a, xs, n, rfl, ⟨dx, t, e, ⟨vs, ev, al⟩, tl⟩, sm, hn, hl, k⟩ := h
  refine ⟨_, (pss_one (ps_ret (pe_make TP.mkc GPoly_init (hr.mono (by decide)) (by rfl) TP.g TP.m_init.b .nil passL (pa_cons (pe_lc (own := [("top", 1), ("bottom", 2)]) (g := gTup K 2 (gCons (gName 1) (gCons (gName 2) gNil))) (tt := tYes) (by rfl) scPoly_neg.nd (pi_tup (pe_fld (pv 0) (by rfl))) (blkOk_by (own := [("top", 1), ("bottom", 2)]) (N := ["self", "top", "bottom"]) (sc := defScope sPoly_neg) (by decide +kernel)) (fun _ _ _ _ _ => pg_tup rfl (pgs_cons (pg_name (i := 1) scPoly_neg.nd rfl (Or.inl rfl)) (pgs_cons (pg_name (i := 2) scPoly_neg.nd rfl (Or.inl rfl)) pgs_nil))) (fun _ _ _ _ _ => pts_nil) (fun _ _ _ _ _ => (pe_tup (pa_cons (pe_un un_neg (pv 1)) (pa_cons (pv 2) pa_nil))))) pa_nil)))), ?_⟩
  refine r_ret (va_1 (l_lcT (R := fun i v H => ∃ q p, xs[i]? = some q ∧ v = V.ref p ∧ Lo H p (-q)) (fun i v H1 H2 s ⟨q, p, h1, h2, h3⟩ => ⟨q, p, h1, h2, h3.same s⟩) (fun k v H D ys zs ⟨q, p, h1, h2, h3⟩ e => ⟨q, p, h1, h2, by
    unfold Lo at h3 ⊢
    rw [upd_ne (fun z => by rw [z, e] at h3; cases h3)]
    exact h3⟩) (v_numbers TP (val_var rfl) e) (SqT.of ev) (by rw [al.len]; omega) (fun i v H1 hv s1 => ?_) (fun l zs H1 s1 e1 r1 => ?_)))
  · obtain ⟨q, hq, p, rfl, lo⟩ := al.get hv
    exact turn_two (SqT.of (lo.same s1)) rfl (em_tup (va_cons (v_neg (val_var rfl)) (va_cons (val_var rfl) va_nil)) (by show 2 ≤ 100000; decide) fun p2 H' e2 => ⟨q, p2, hq, rfl, e2⟩)
  · rw [al.len] at r1
    have al2 : All2 (Rq H1) zs (xs.map fun q => -q) := All2.mk (by rw [r1.2, List.length_map]) fun i v q hv hq => by
      obtain ⟨q', p, h1, rfl, lo⟩ := r1.1.get hv
      rw [Nat.zero_add] at h1
      rw [List.getElem?_map, h1] at hq
      cases hq
      have b := sm q' (get_mem h1)
      exact lo.rq (n := n) ⟨by rw [Rat.neg_num, Int.natAbs_neg]; exact b.1, b.2⟩ (by omega)
    exact made_poly (.inl e1) (by rw [r1.2]; omega) al2 fun c H' s' pc => k c H' (s1.trans s') pc
theorem co_neg (xs : List Rat) (i : Nat) : co (pneg xs) i = -co xs i := by
  unfold pneg
  rw [co_trim]
  rcases Nat.lt_or_ge i xs.length with lt | ge
  · have e : xs[i]? = some xs[i] := List.getElem?_eq_getElem lt
    rw [co_some e]
    exact co_some (by rw [List.getElem?_map, e]; rfl)
  · rw [co_none ge, co_none (by rw [List.length_map]; exact ge)]
    rfl
theorem pneg_len (xs : List Rat) : (pneg xs).length ≤ xs.length := by
  unfold pneg
  rw [trim_len]
  exact Nat.le_trans (tlen_le _) (by rw [List.length_map]; exact Nat.le_refl _)
theorem Sms.neg {n : Nat} {xs : List Rat} (h : Sms n xs) : Sms n (pneg xs) := Sms.trim fun q hq => by
  obtain ⟨r, hr, rfl⟩ := List.mem_map.mp hq
  exact ⟨by rw [Rat.neg_num, Int.natAbs_neg]; exact (h r hr).1, (h r hr).2⟩
theorem c_beside {σ : L2.St} {H : Hp} {ta : TA} {v : V} {ys : List Rat} {Q : VK} {E : XK} (h : VA ta σ H [v]) (o : Opd mg H v ys) (k : ∀ b H', Same H H' → PoAt (poA mg) H' b ys → Q (.ref b) H') : tCall (spBeside mg) [] E ta σ H Q := by
  refine c_call h ⟨v, rfl, ?_⟩
  rcases o with ⟨b, rfl, pb⟩ | ⟨q, bes, rfl⟩
  · exact .inl ⟨b, ys, rfl, pb, k b H (Same.refl H) pb⟩
  · exact .inr ⟨q, bes, k⟩
def spBin (mg : Str → Option Value) (f : List Rat → List Rat → List Rat) : Sp := fun vs H Q _ => ∃ (a : Addr) (v : V) (xs ys : List Rat) (n m : Nat), vs = [.ref a, v] ∧ PoAt (poA mg) H a xs ∧ Opd mg H v ys ∧ Sms n xs ∧ Sms m ys ∧ 1 ≤ n ∧ 1 ≤ m ∧ n * xs.length + n ≤ 400 ∧ m * ys.length + m ≤ 400 ∧ xs.length ≤ 400 ∧ ys.length ≤ 400 ∧
  ∀ c H', Same H H' → PoAt (poA mg) H' c (f xs ys) → Q (.ref c) H'

theorem ok_Poly_add (T : Txt K mg) (TP : PolyT K mg) : FnOk P w K mg base CX0 11 (mA K (poA mg) "__add__") (fDat K (mA K (poA mg) "__add__")) ["self", "other"] (spBin mg fun xs ys => psum xs ys) := by
  have G_beside := ok_beside (P := P) (w := w) (base := base) T TP
  have GPoly_neg := ok_Poly_neg (P := P) (w := w) (base := base) T TP
  have G_sum := ok_sum (P := P) (w := w) (base := base) T TP
  have G_product := ok_product (P := P) (w := w) (base := base) T TP
  refine TP.m_add.F.ok scPoly_add (fun vs H Q E h => ?_) (fun cdv A outer s H vs Q E hr h => ?_)
  · obtain ⟨a, v, xs, ys, n, m, rfl, _⟩ := h
    rfl
  obtain ⟨a, v, xs, ys, n, m, rfl, pa, od, sx, sy, n1, m1, hn, hm, lx, ly, k⟩ := h
  refine ⟨_, (pss_cons (ps_set (i := 2) scPoly_add.nd rfl (Or.inl rfl) (pe_c T._beside G_beside (hr.mono (by decide)) (pa_cons (pv 1) pa_nil)))
  (pss_cons (ps_if (pt_cmpR op_isN (pv 2) pe_non (nomark _)) (pss_one (ps_ret pe_never)) pss_nil)
  (pss_one (ps_ret (pe_c T._sum G_sum (hr.mono (by decide)) (pa_cons (pv 0) (pa_cons (pv 2) pa_nil))))))), ?_⟩
  refine q_asg (c_beside (va_cons (val_var rfl) va_nil) od fun b H1 s1 pb => ?_)
  refine q_unless (ans_isN (val_var rfl) rfl) ?_
  have pa1 := pa.same s1
  exact r_ret (te := tCall _ _ _ _) (c_call (va_cons (val_var rfl) (va_cons (val_var rfl) va_nil)) ⟨a, b, xs, ys, n, m, rfl, pa1, pb, sx, sy, n1, m1, hn, hm, lx, ly, fun c H' s' pc => k c H' (s1.trans s') pc⟩)

theorem ok_Poly_radd (T : Txt K mg) (TP : PolyT K mg) : FnOk P w K mg base CX0 11 (mA K (poA mg) "__radd__") (fDat K (mA K (poA mg) "__radd__")) ["self", "other"] (spBin mg fun xs ys => psum ys xs) := by
  have G_beside := ok_beside (P := P) (w := w) (base := base) T TP
  have GPoly_neg := ok_Poly_neg (P := P) (w := w) (base := base) T TP
  have G_sum := ok_sum (P := P) (w := w) (base := base) T TP
  have G_product := ok_product (P := P) (w := w) (base := base) T TP
  refine TP.m_radd.F.ok scPoly_radd (fun vs H Q E h => ?_) (fun cdv A outer s H vs Q E hr h => ?_)
  · obtain ⟨a, v, xs, ys, n, m, rfl, _⟩ := h
    rfl
  obtain ⟨a, v, xs, ys, n, m, rfl, pa, od, sx, sy, n1, m1, hn, hm, lx, ly, k⟩ := h
  refine ⟨_, (pss_cons (ps_set (i := 2) scPoly_radd.nd rfl (Or.inl rfl) (pe_c T._beside G_beside (hr.mono (by decide)) (pa_cons (pv 1) pa_nil)))
  (pss_cons (ps_if (pt_cmpR op_isN (pv 2) pe_non (nomark _)) (pss_one (ps_ret pe_never)) pss_nil)
  (pss_one (ps_ret (pe_c T._sum G_sum (hr.mono (by decide)) (pa_cons (pv 2) (pa_cons (pv 0) pa_nil))))))), ?_⟩
  refine q_asg (c_beside (va_cons (val_var rfl) va_nil) od fun b H1 s1 pb => ?_)
  refine q_unless (ans_isN (val_var rfl) rfl) ?_
  have pa1 := pa.same s1
  exact r_ret (te := tCall _ _ _ _) (c_call (va_cons (val_var rfl) (va_cons (val_var rfl) va_nil)) ⟨b, a, ys, xs, m, n, rfl, pb, pa1, sy, sx, m1, n1, hm, hn, ly, lx, fun c H' s' pc => k c H' (s1.trans s') pc⟩)

theorem ok_Poly_mul (T : Txt K mg) (TP : PolyT K mg) : FnOk P w K mg base CX0 11 (mA K (poA mg) "__mul__") (fDat K (mA K (poA mg) "__mul__")) ["self", "other"] (spBin mg fun xs ys => pmul xs ys) := by
  have G_beside := ok_beside (P := P) (w := w) (base := base) T TP
  have GPoly_neg := ok_Poly_neg (P := P) (w := w) (base := base) T TP
  have G_sum := ok_sum (P := P) (w := w) (base := base) T TP
  have G_product := ok_product (P := P) (w := w) (base := base) T TP
  refine TP.m_mul.F.ok scPoly_mul (fun vs H Q E h => ?_) (fun cdv A outer s H vs Q E hr h => ?_)
  · obtain ⟨a, v, xs, ys, n, m, rfl, _⟩ := h
    rfl
  obtain ⟨a, v, xs, ys, n, m, rfl, pa, od, sx, sy, n1, m1, hn, hm, lx, ly, k⟩ := h
  refine ⟨_, (pss_cons (ps_set (i := 2) scPoly_mul.nd rfl (Or.inl rfl) (pe_c T._beside G_beside (hr.mono (by decide)) (pa_cons (pv 1) pa_nil)))
  (pss_cons (ps_if (pt_cmpR op_isN (pv 2) pe_non (nomark _)) (pss_one (ps_ret pe_never)) pss_nil)
  (pss_one (ps_ret (pe_c T._product G_product (hr.mono (by decide)) (pa_cons (pv 0) (pa_cons (pv 2) pa_nil))))))), ?_⟩
  refine q_asg (c_beside (va_cons (val_var rfl) va_nil) od fun b H1 s1 pb => ?_)
  refine q_unless (ans_isN (val_var rfl) rfl) ?_
  have pa1 := pa.same s1
  exact r_ret (te := tCall _ _ _ _) (c_call (va_cons (val_var rfl) (va_cons (val_var rfl) va_nil)) ⟨a, b, xs, ys, n, m, rfl, pa1, pb, sx, sy, n1, m1, hn, hm, lx, ly, fun c H' s' pc => k c H' (s1.trans s') pc⟩)

theorem ok_Poly_rmul (T : Txt K mg) (TP : PolyT K mg) : FnOk P w K mg base CX0 11 (mA K (poA mg) "__rmul__") (fDat K (mA K (poA mg) "__rmul__")) ["self", "other"] (spBin mg fun xs ys => pmul ys xs) := by
  have G_beside := ok_beside (P := P) (w := w) (base := base) T TP
  have GPoly_neg := ok_Poly_neg (P := P) (w := w) (base := base) T TP
  have G_sum := ok_sum (P := P) (w := w) (base := base) T TP
  have G_product := ok_product (P := P) (w := w) (base := base) T TP
  refine TP.m_rmul.F.ok scPoly_rmul (fun vs H Q E h => ?_) (fun cdv A outer s H vs Q E hr h => ?_)
  · obtain ⟨a, v, xs, ys, n, m, rfl, _⟩ := h
    rfl
  obtain ⟨a, v, xs, ys, n, m, rfl, pa, od, sx, sy, n1, m1, hn, hm, lx, ly, k⟩ := h
  refine ⟨_, (pss_cons (ps_set (i := 2) scPoly_rmul.nd rfl (Or.inl rfl) (pe_c T._beside G_beside (hr.mono (by decide)) (pa_cons (pv 1) pa_nil)))
  (pss_cons (ps_if (pt_cmpR op_isN (pv 2) pe_non (nomark _)) (pss_one (ps_ret pe_never)) pss_nil)
  (pss_one (ps_ret (pe_c T._product G_product (hr.mono (by decide)) (pa_cons (pv 2) (pa_cons (pv 0) pa_nil))))))), ?_⟩
  refine q_asg (c_beside (va_cons (val_var rfl) va_nil) od fun b H1 s1 pb => ?_)
  refine q_unless (ans_isN (val_var rfl) rfl) ?_
  have pa1 := pa.same s1
  exact r_ret (te := tCall _ _ _ _) (c_call (va_cons (val_var rfl) (va_cons (val_var rfl) va_nil)) ⟨b, a, ys, xs, m, n, rfl, pb, pa1, sy, sx, m1, n1, hm, hn, ly, lx, fun c H' s' pc => k c H' (s1.trans s') pc⟩)

theorem ok_Poly_sub (T : Txt K mg) (TP : PolyT K mg) : FnOk P w K mg base CX0 11 (mA K (poA mg) "__sub__") (fDat K (mA K (poA mg) "__sub__")) ["self", "other"] (spBin mg fun xs ys => psum xs (pneg ys)) := by
  have G_beside := ok_beside (P := P) (w := w) (base := base) T TP
  have GPoly_neg := ok_Poly_neg (P := P) (w := w) (base := base) T TP
  have G_sum := ok_sum (P := P) (w := w) (base := base) T TP
  have G_product := ok_product (P := P) (w := w) (base := base) T TP
  refine TP.m_sub.F.ok scPoly_sub (fun vs H Q E h => ?_) (fun cdv A outer s H vs Q E hr h => ?_)
  · obtain ⟨a, v, xs, ys, n, m, rfl, _⟩ := h
    rfl
  obtain ⟨a, v, xs, ys, n, m, rfl, pa, od, sx, sy, n1, m1, hn, hm, lx, ly, k⟩ := h
  refine ⟨_, (pss_cons (ps_set (i := 2) scPoly_sub.nd rfl (Or.inl rfl) (pe_c T._beside G_beside (hr.mono (by decide)) (pa_cons (pv 1) pa_nil)))
  (pss_cons (ps_if (pt_cmpR op_isN (pv 2) pe_non (nomark _)) (pss_one (ps_ret pe_never)) pss_nil)
  (pss_one (ps_ret (pe_c T._sum G_sum (hr.mono (by decide)) (pa_cons (pv 0) (pa_cons (pe_un (un_own TP.m_neg.at_ TP.m_neg.fn GPoly_neg (hr.mono (by decide)) TP.m_neg.b) (pv 2)) pa_nil))))))), ?_⟩
  refine q_asg (c_beside (va_cons (val_var rfl) va_nil) od fun b H1 s1 pb => ?_)
  refine q_unless (ans_isN (val_var rfl) rfl) ?_
  have pa1 := pa.same s1
  have nl := pneg_len ys
  have nn : m * (pneg ys).length + m ≤ 400 := Nat.le_trans (Nat.add_le_add_right (Nat.mul_le_mul_left _ nl) _) hm
  refine r_ret (te := tCall _ _ _ _) (call_1 ((val_var rfl) _ (va_1 ((val_var rfl) _ ?_))))
  have pb' := pb
  obtain ⟨dy, ty, ey, _⟩ := pb'
  refine ⟨b, dy, _, rfl, ey, ⟨b, ys, m, rfl, pb, sy, by omega, by omega, fun c2 H2 s2 pc2 => ?_⟩⟩
  exact ⟨a, c2, xs, pneg ys, n, m, rfl, pa1.same s2, pc2, sx, sy.neg, n1, m1, hn, nn, lx, by omega, fun c H' s' pc => k c H' ((s1.trans s2).trans s') pc⟩

theorem ok_Poly_rsub (T : Txt K mg) (TP : PolyT K mg) : FnOk P w K mg base CX0 11 (mA K (poA mg) "__rsub__") (fDat K (mA K (poA mg) "__rsub__")) ["self", "other"] (spBin mg fun xs ys => psum ys (pneg xs)) := by
  have G_beside := ok_beside (P := P) (w := w) (base := base) T TP
  have GPoly_neg := ok_Poly_neg (P := P) (w := w) (base := base) T TP
  have G_sum := ok_sum (P := P) (w := w) (base := base) T TP
  have G_product := ok_product (P := P) (w := w) (base := base) T TP
  refine TP.m_rsub.F.ok scPoly_rsub (fun vs H Q E h => ?_) (fun cdv A outer s H vs Q E hr h => ?_)
  · obtain ⟨a, v, xs, ys, n, m, rfl, _⟩ := h
    rfl
  obtain ⟨a, v, xs, ys, n, m, rfl, pa, od, sx, sy, n1, m1, hn, hm, lx, ly, k⟩ := h
  refine ⟨_, (pss_cons (ps_set (i := 2) scPoly_rsub.nd rfl (Or.inl rfl) (pe_c T._beside G_beside (hr.mono (by decide)) (pa_cons (pv 1) pa_nil)))
  (pss_cons (ps_if (pt_cmpR op_isN (pv 2) pe_non (nomark _)) (pss_one (ps_ret pe_never)) pss_nil)
  (pss_one (ps_ret (pe_c T._sum G_sum (hr.mono (by decide)) (pa_cons (pv 2) (pa_cons (pe_un (un_own TP.m_neg.at_ TP.m_neg.fn GPoly_neg (hr.mono (by decide)) TP.m_neg.b) (pv 0)) pa_nil))))))), ?_⟩
  refine q_asg (c_beside (va_cons (val_var rfl) va_nil) od fun b H1 s1 pb => ?_)
  refine q_unless (ans_isN (val_var rfl) rfl) ?_
  have pa1 := pa.same s1
  have nl := pneg_len xs
  have nn : n * (pneg xs).length + n ≤ 400 := Nat.le_trans (Nat.add_le_add_right (Nat.mul_le_mul_left _ nl) _) hn
  refine r_ret (te := tCall _ _ _ _) (call_1 ((val_var rfl) _ (va_1 ((val_var rfl) _ ?_))))
  have pa' := pa1
  obtain ⟨dy, ty, ey, _⟩ := pa'
  refine ⟨a, dy, _, rfl, ey, ⟨a, xs, n, rfl, pa1, sx, by omega, by omega, fun c2 H2 s2 pc2 => ?_⟩⟩
  exact ⟨b, c2, ys, pneg xs, m, n, rfl, pb.same s2, pc2, sy, sx.neg, m1, n1, hm, nn, ly, by omega, fun c H' s' pc => k c H' ((s1.trans s2).trans s') pc⟩

def spDeg (mg : Str → Option Value) : Sp := fun vs H Q _ => ∃ (a : Addr) (xs : List Rat), vs = [.ref a] ∧ PoAt (poA mg) H a xs ∧ Q (.int ((xs.length : Int) - 1)) H
theorem ok_Poly_degree (T : Txt K mg) (TP : PolyT K mg) : FnOk P w K mg base CX0 1 (mA K (poA mg) "degree") (fDat K (mA K (poA mg) "degree")) ["self"] (spDeg mg) := by
  refine TP.m_degree.F.ok scPoly_degree (fun vs H Q E h => ?_) (fun cdv A outer s H vs Q E hr h => ?_)
  · obtain ⟨a, xs, rfl, _⟩ := h
    rfl
  obtain ⟨a, xs, rfl, ⟨dx, t, e, los, tl⟩, k⟩ := h
  refine ⟨_, (pss_one (ps_ret (pe_op op_sub (pe_callB call_len_seq (by rfl) T.len PySem.boot_len (pa_cons (pe_fld (pv 0) (by rfl)) pa_nil)) pe_int))), ?_⟩
  exact st_ret (v_sub (v_lenL (v_numbers TP (val_var rfl) e) los) val_c) k
end
end LW

namespace LW
open PySem PySem.Spec PyProof.Rows L2 GL
section
variable {P : Program} {w : World} {K : PySem.W.Frag} {mg : Str → Option Value} {base : Heap}

theorem c_told2 {H : Hp} {v wh : V} {q : Rat} {Q : VK} {E : XK} (r : Rq H v q) (k : ∀ p H', Same H H' → Lo H' p q → Q (.ref p) H') : sp_told mg ([v, wh] ++ []) H Q E :=
  c_told (mg := mg) (σ := []) (ta := fun _ H Q => Q [v, wh] H) (Q := Q) (E := E) (fun Q q => q) r k
theorem q_par {ta : TA} {tz : TS} {D : Ends} {σ : L2.St} {H : Hp} {i j : Nat} (h : ta σ H fun vs H1 => ∃ v w, vs = [v, w] ∧ tz D ((σ.set i (some v)).set j (some w)) H1) : tSeq (tPar i j ta) tz D σ H := h

/-! ### values -/
theorem q_forRev {g : TG} {ta : TA} {tb tz : TS} {D : Ends} {σ : L2.St} {H : Hp} {a : Addr} {xs : List V} (h : VA ta σ H [.ref a]) (hx : SqL K H a xs) (Pv : Nat → L2.St → Hp → Prop) (h0 : Pv 0 σ H) (hq : ∀ i σ H, Pv i σ H → SqL K H a xs)
    (hs : ∀ i x σ H, i < xs.length → xs[xs.length - 1 - i]? = some x → Pv i σ H → g x σ H fun σ2 H2 => tb { D with nx := Pv (i + 1), ct := Pv (i + 1), bk := tz D } σ2 H2) (hd : ∀ σ H, Pv xs.length σ H → tz D σ H) : tSeq (tFor (iRev K ta) g tb) tz D σ H := by
  refine h _ ⟨a, xs, rfl, hx, fun i m σ H => m = xs.length - i ∧ i ≤ xs.length ∧ Pv i σ H, ⟨_, rfl, Nat.zero_le _, h0⟩, ?_⟩
  rintro i m σ H ⟨rfl, hi, p⟩
  have q := hq i σ H p
  rcases Nat.lt_or_ge i xs.length with lt | ge
  · have e : xs[xs.length - 1 - i]? = some xs[xs.length - 1 - i] := List.getElem?_eq_getElem (by omega)
    refine .inr ⟨⟨lt, xs, _, q, e⟩, Pv (i + 1), fun σ' H' p' => ⟨xs.length - (i + 1), by omega, rfl, lt, p'⟩, ?_⟩
    rintro v H' ⟨rfl, f⟩
    exact hs i v σ _ lt (f xs q) p
  · obtain rfl : i = xs.length := by omega
    exact .inl ⟨Nat.le_refl _, hd σ H p⟩
def peval : List Rat → Rat → Rat
  | [], _ => 0
  | x :: r, q => x + q * peval r q
theorem at_step {D : Nat} {x q h : Rat} {total power T : Int} (hT : (T : Rat) = x * (D : Rat)) (ht : (total : Rat) * (q.den : Rat) = (power : Rat) * (h * (D : Rat))) :
    ((total * q.num + T * power : Int) : Rat) * (q.den : Rat) = ((power * (q.den : Int) : Int) : Rat) * ((x + q * h) * (D : Rat)) := by
  have e := num_den q
  rw [Rat.intCast_add, Rat.intCast_mul, Rat.intCast_mul, Rat.intCast_mul, hT, e]
  have e2 : (((q.den : Int) : Rat)) = (q.den : Rat) := rfl
  rw [e2]
  grind
theorem at_fin {D : Nat} {q h : Rat} {total power : Int} (d0 : 0 < D) (p0 : 0 < power) (ht : (total : Rat) * (q.den : Rat) = (power : Rat) * (h * (D : Rat))) : h = Rat.divInt (total * (q.den : Int)) ((D : Int) * power) := by
  rw [Rat.divInt_eq_div, Rat.intCast_mul, Rat.intCast_mul]
  have e2 : (((q.den : Int) : Rat)) = (q.den : Rat) := rfl
  have e3 : (((D : Int) : Rat)) = (D : Rat) := rfl
  rw [e2, e3, ht]
  have hz : ((D : Rat) * (power : Rat)) ≠ 0 := fun z => by
    have : (0 : Rat) < (D : Rat) * (power : Rat) := Rat.mul_pos (Rat.natCast_pos.mpr d0) (Rat.intCast_pos.mpr p0)
    rw [z] at this
    exact Rat.lt_irrefl this
  have e4 : (power : Rat) * (h * (D : Rat)) = h * ((D : Rat) * (power : Rat)) := by grind
  rw [e4]
  exact (Rat.mul_div_cancel hz).symm
def spAt (mg : Str → Option Value) : Sp := fun vs H Q E => ∃ (a : Addr) (v : V) (xs : List Rat), vs = [.ref a, v] ∧ PoAt (poA mg) H a xs ∧ ((∃ q n m, Rq H v q ∧ Sms n xs ∧ Sm m q ∧ n * xs.length + n ≤ 400 ∧ (m + 1) * xs.length + 2 * m ≤ 400 ∧ xs.length ≤ 400 ∧ ∀ p H', Same H H' → Lo H' p (peval xs q) → Q (.ref p) H') ∨ (RatQ H v false ∧ Bad mg H (.str "point") v E))
theorem ok_Poly_at (T : Txt K mg) (TP : PolyT K mg) : FnOk P w K mg base (L2.CX P w) 7 (mA K (poA mg) "at") (fDat K (mA K (poA mg) "at")) ["self", "point"] (spAt mg) := by
  have Gtold := ok_told (P := P) (w := w) (base := base) T
  have Gwhole_row := ok_whole_row (P := P) (w := w) (base := base) T
  refine TP.m_at.F.okX scPoly_at (fun vs H Q E h => ?_) (fun cdv A outer s H vs Q E hr h => ?_)
  · obtain ⟨a, v, xs, rfl, _⟩ := h
    rfl
  obtain ⟨a, v, xs, rfl, ⟨dx, t, e, los, tl⟩, h⟩ := h
  refine ⟨_, (pss_cons (ps_asg (pe_call Gtold (hr.mono (by decide)) (by rfl) T.told.g T.told.F.kp T.told.b .nil (passes_call (takes_of rfl rfl rfl rfl) (fun _ _ _ _ h => h)) (pa_cons (pv 1) (pa_cons pe_str pa_nil))) (pg_tup rfl (pgs_cons (pg_name (i := 2) scPoly_at.nd rfl (Or.inl rfl)) (pgs_cons (pg_name (i := 3) scPoly_at.nd rfl (Or.inl rfl)) pgs_nil))))
  (pss_cons (ps_asg (pe_c T.whole_row Gwhole_row (hr.mono (by decide)) (pa_cons (pe_fld (pv 0) (by rfl)) pa_nil)) (pg_tup rfl (pgs_cons (pg_name (i := 4) scPoly_at.nd rfl (Or.inl rfl)) (pgs_cons (pg_name (i := 5) scPoly_at.nd rfl (Or.inl rfl)) pgs_nil))))
  (pss_cons (ps_asg (pe_tup (pa_cons pe_int (pa_cons pe_int pa_nil))) (pg_tup rfl (pgs_cons (pg_name (i := 6) scPoly_at.nd rfl (Or.inl rfl)) (pgs_cons (pg_name (i := 7) scPoly_at.nd rfl (Or.inl rfl)) pgs_nil))))
  (pss_cons (ps_for (passes_of rfl) rfl (pi_reversed (by rfl) T.reversed (pa_cons (pv 4) pa_nil)) (pg_name (i := 8) scPoly_at.nd rfl (Or.inl rfl))
  (pss_cons (ps_set (i := 6) scPoly_at.nd rfl (Or.inl rfl) (pe_op op_add (pe_op op_mulW (pv 6) (pv 2)) (pe_op op_mulW (pv 8) (pv 7))))
  (pss_one (ps_set (i := 7) scPoly_at.nd rfl (Or.inl rfl) (pe_op op_mulW (pv 7) (pv 3))))))
  (pss_one (ps_ret (pe_call Gtold (hr.mono (by decide)) (by rfl) T.told.g T.told.F.kp T.told.b .nil (passes_call (takes_of rfl rfl rfl rfl) (fun _ _ _ _ h => h)) (pa_cons (pe_tup (pa_cons (pe_op op_mulW (pv 6) (pv 3)) (pa_cons (pe_op op_mulW (pv 5) (pv 7)) pa_nil))) (pa_cons pe_str pa_nil))))))))), ?_⟩
  rcases h with ⟨q, n, m, rq, sx, sq, hn, hm, hl, k⟩ | ⟨r, b⟩
  case inr => exact c_call (va_cons (val_var rfl) (va_cons val_c va_nil)) ⟨v, _, rfl, .inr ⟨r, b⟩⟩
  refine q_two (c_told (va_cons (val_var rfl) (va_cons val_c va_nil)) rq fun p1 H1 s1 lo => g_two (SqT.of lo) ?_)
  refine q_two (call_1 ((v_numbers TP (val_var rfl) (s1 _ _ e)) _ ?_))
  refine ⟨t, xs, n, rfl, los.same s1, sx, by omega, by omega, fun p l D H2 s2 d0 dl dd ep el => g_two (SqT.of ep) ?_⟩
  refine q_two (l_tup (va_cons val_c (va_cons val_c va_nil)) (by decide) fun pz hpz => g_two (SqT.of upd_same) ?_)
  have sz := Same.new' (o := .tup [.int 0, .int 1]) hpz
  have el := sz _ _ el
  have s2 := s2.trans sz
  revert el s2
  generalize upd H2 pz (.tup [.int 0, .int 1]) = H2
  intro el s2
  clear sz hpz ep
  have b1 := tops_abs sx dl
  have den0 := q.den_pos
  have pw : ∀ k, k ≤ xs.length → q.den ^ k ≤ 2 ^ (m * k) := fun k _ => by
    rw [Nat.pow_mul]
    exact Nat.pow_le_pow_left (Nat.le_of_lt sq.2) k
  have P0 : ∀ {a b : Nat}, a ≤ b → b ≤ 999 → (2 : Nat) ^ a < 2 ^ 1000 := fun h g => Nat.pow_lt_pow_right (by decide) (by omega)
  have mk : ∀ k, k ≤ xs.length → (m + 1) * k + 2 * m ≤ 400 ∧ m * k ≤ 400 := fun k hk => by
    have h1 := Nat.mul_le_mul_left (m + 1) hk
    have h2 : m * k ≤ (m + 1) * k := Nat.mul_le_mul_right k (Nat.le_succ m)
    omega
  refine q_forRev (K := K) (xs := (tops D xs).map V.int) (va_cons (val_var rfl) va_nil) (SqL.of el) (fun k σ H3 => H3 = H2 ∧ ∃ (total power : Int) (z : Option V), σ = [some (.ref a), some v, some (.int q.num), some (.int (q.den : Int)), some (.ref l), some (.int (D : Int)), some (.int total), some (.int power), z] ∧
    power = ((q.den ^ k : Nat) : Int) ∧ total.natAbs ≤ 2 ^ (n + n * xs.length + (m + 1) * k) ∧ (total : Rat) * (q.den : Rat) = (power : Rat) * (peval (xs.drop (xs.length - k)) q * (D : Rat))) ⟨rfl, 0, 1, none, rfl, rfl, Nat.zero_le _, ?_⟩ (fun k σ H3 z => by rw [z.1]; exact SqL.of el) (fun k x σ H3 hk hx z => ?_) (fun σ H3 z => ?_)
  · rw [Nat.sub_zero, List.drop_length]
    simp [peval, Rat.zero_mul]
  · obtain ⟨rfl, total, power, z, rfl, rfl, tb, te⟩ := z
    have lk : k < xs.length := by simpa [tops] using hk
    rw [List.length_map, tops_len] at hx
    have gx : xs[xs.length - 1 - k]? = some xs[xs.length - 1 - k] := List.getElem?_eq_getElem (by omega)
    generalize hxx : xs[xs.length - 1 - k] = x0 at gx
    have gT : (tops D xs)[xs.length - 1 - k]? = some (x0.num * ((D / x0.den : Nat) : Int)) := by unfold tops; rw [List.getElem?_map, gx]; rfl
    rw [List.getElem?_map, gT] at hx
    cases hx
    have hT := nd_tops dd (xs.length - 1 - k)
    rw [nd_some gT, co_some gx] at hT
    have bT := b1 _ (get_mem gT)
    generalize x0.num * ((D / x0.den : Nat) : Int) = T at hT bT gT
    have mk1 := mk (k + 1) (by omega)
    have mk0 := mk k (by omega)
    have pk := pw k (by omega)
    refine g_name ((v_add (v_mul (i := total) (j := q.num) (val_var rfl) (val_var rfl) (fit_mul (Nat.lt_of_le_of_lt tb (P0 (Nat.le_refl _) (by omega))) (Nat.lt_trans sq.1 (P0 (Nat.le_refl _) (by omega))))) (v_mul (i := T) (j := ((q.den ^ k : Nat) : Int)) (val_var rfl) (val_var rfl) (fit_mul (Nat.lt_of_le_of_lt bT (P0 (Nat.le_refl _) (by omega))) (by rw [Int.natAbs_natCast]; exact Nat.lt_of_le_of_lt pk (P0 (Nat.le_refl _) (by omega)))))) _ ?_)
    refine (v_mul (i := ((q.den ^ k : Nat) : Int)) (j := (q.den : Int)) (val_var rfl) (val_var rfl) (fit_mul (by rw [Int.natAbs_natCast]; exact Nat.lt_of_le_of_lt pk (P0 (Nat.le_refl _) (by omega))) (by rw [Int.natAbs_natCast]; exact Nat.lt_trans sq.2 (P0 (Nat.le_refl _) (by omega))))) _ ?_
    refine ⟨rfl, _, _, _, rfl, by rw [Nat.pow_succ, Int.natCast_mul], ?_, ?_⟩
    · have e1 : (2 : Nat) ^ (n + n * xs.length + (m + 1) * (k + 1)) = 2 ^ (n + n * xs.length + (m + 1) * k) * 2 ^ m + 2 ^ (n + n * xs.length + (m + 1) * k) * 2 ^ m := by
        rw [← Nat.mul_two, ← Nat.pow_add, ← Nat.pow_succ]
        congr 1
        rw [Nat.mul_succ]
        omega
      rw [e1]
      refine Nat.le_trans (Int.natAbs_add_le _ _) (Nat.add_le_add ?_ ?_)
      · rw [Int.natAbs_mul]
        exact Nat.mul_le_mul tb (Nat.le_of_lt sq.1)
      · rw [Int.natAbs_mul, Int.natAbs_natCast]
        have h1 : (2 : Nat) ^ (n + n * xs.length) * 2 ^ (m * k) ≤ 2 ^ (n + n * xs.length + (m + 1) * k) * 2 ^ m := by
          rw [← Nat.pow_add, ← Nat.pow_add]
          refine Nat.pow_le_pow_right (by decide) ?_
          have : m * k ≤ (m + 1) * k := Nat.mul_le_mul_right k (Nat.le_succ m)
          omega
        exact Nat.le_trans (Nat.mul_le_mul bT pk) h1
    · have ed : xs.drop (xs.length - (k + 1)) = x0 :: xs.drop (xs.length - k) := by
        have i1 : xs.length - (k + 1) = xs.length - 1 - k := by omega
        rw [i1, List.drop_eq_getElem_cons (by omega), hxx]
        congr 2
        omega
      rw [ed, peval]
      exact at_step hT te
  · obtain ⟨rfl, total, power, z, rfl, rfl, tb, te⟩ := z
    rw [List.length_map, tops_len] at tb te ⊢
    rw [Nat.sub_self, List.drop_zero] at te
    have mkn := mk xs.length (Nat.le_refl _)
    have pk := pw xs.length (Nat.le_refl _)
    have ppos : (0 : Int) < ((q.den ^ xs.length : Nat) : Int) := by
      have := Nat.pow_pos (n := xs.length) den0
      omega
    have fin := at_fin (D := D) (q := q) d0 ppos te
    have mul2 : ∀ {a b N M : Nat}, a ≤ 2 ^ N → b ≤ 2 ^ M → N + M ≤ 999 → a * b < 2 ^ 1000 := fun {a b N M} h1 h2 h3 => by
      have := Nat.mul_le_mul h1 h2
      rw [← Nat.pow_add] at this
      exact Nat.lt_of_le_of_lt this (Nat.pow_lt_pow_right (by decide) (by omega))
    have t1 : (total * (q.den : Int)).natAbs < 2 ^ 1000 := by
      rw [Int.natAbs_mul, Int.natAbs_natCast]
      exact mul2 tb (Nat.le_of_lt sq.2) (by omega)
    have t2 : ((D : Int) * ((q.den ^ xs.length : Nat) : Int)).natAbs < 2 ^ 1000 := by
      rw [Int.natAbs_mul, Int.natAbs_natCast, Int.natAbs_natCast]
      exact mul2 dl pk (by omega)
    refine r_ret (te := tCall _ _ _ _) (call_1 (l_tup (va_cons (v_mul (i := total) (j := (q.den : Int)) (val_var rfl) (val_var rfl) (fit_mul (Nat.lt_of_le_of_lt tb (P0 (Nat.le_refl _) (by omega))) (by rw [Int.natAbs_natCast]; exact Nat.lt_trans sq.2 (P0 (Nat.le_refl _) (by omega))))) (va_cons (v_mul (i := (D : Int)) (j := ((q.den ^ xs.length : Nat) : Int)) (val_var rfl) (val_var rfl) (fit_mul (by rw [Int.natAbs_natCast]; exact Nat.lt_of_le_of_lt dl (P0 (Nat.le_refl _) (by omega))) (by rw [Int.natAbs_natCast]; exact Nat.lt_of_le_of_lt pk (P0 (Nat.le_refl _) (by omega))))) va_nil)) (by show 2 ≤ 100000; decide) fun p hp => va_1 (val_c _ ?_)))
    have s3 := Same.new' (o := .tup [.int (total * (q.den : Int)), .int ((D : Int) * ((q.den ^ xs.length : Nat) : Int))]) hp
    exact c_told2 ⟨_, _, .pair (.inr upd_same) (Int.mul_pos (by omega) ppos), ⟨t1, t2⟩, fin⟩ fun p2 H4 s4 lo4 => k p2 H4 (((s1.trans s2).trans s3).trans s4) lo4
end
end LW

/-! enumerate of a tuple. -/
namespace GL
open PySem PySem.Spec PyProof.Rows L2
open AutoSeq1 (wpAny_loadPart')
def tupIt (t : Addr) : Obj := { cls := .type "tuple_iterator", data := .fields #[.ref t, .int 0 0] }
def enumO (i : Addr) : Obj := { cls := .type "enumerate", data := .fields #[.none, .bool false, .ref i, rawInt 0, .none, .none] }
theorem meets_enumT (t : Addr) (items : Array Value) (n : Nat) (dd : Option Addr) (sl : Array (Option Value)) :
    Meets (Builtin.«enumerate.__new__» ⟨[.type "enumerate", .ref t], []⟩) (fun _ R s => s.heap.get? t = some { cls := .type "tuple", dict := dd, data := .seq items n, slots := sl } ∧
      R (.ok (.ret (.ref (s.heap.push (tupIt t)).objs.size))) { s with heap := (s.heap.push (tupIt t)).push (enumO s.heap.objs.size) }) :=
  .of_wp fun P w A R s h => by
    obtain ⟨hh, g, d, tk, os⟩ := s
    obtain ⟨ht, h⟩ := h
    have sub := sub_enumerate
    have hT : Heap.IsTuple (Shared.heap ⟨hh, g, d, tk, os⟩) t items := ⟨_, ht, rfl, n, rfl⟩
    wp_walk using wpAny_loadPart' ht
    refine wpAny_stack_any (fun stk => wpAny_pure ?_)
    split
    · rename_i c _ _ _ _ _
      cases (c == Value.type "enumerate") <;> (wp_walk using wpAny_loadPart' ht, wpAny_pyIter_tuple hT) <;> exact ⟨_, rfl, h⟩
    · (wp_walk using wpAny_loadPart' ht, wpAny_pyIter_tuple hT)
      exact ⟨_, rfl, h⟩
theorem call_enumT {P : Program} {w : World} {A : Around} {E : Value → Shared → Prop} {s : Shared} {t : Addr} {items : Array Value} {Q : Value → Shared → Prop} (hT : s.heap.IsTuple t items)
    (h : ∀ h', IsEnum h' (s.heap.objs.size + 1) s.heap.objs.size 0 .none → h'.IsTupleIter s.heap.objs.size t 0 → (∀ b o, s.heap.get? b = some o → h'.get? b = some o) → Q (.ref (s.heap.objs.size + 1)) { s with heap := h' }) :
    wpAny (model P w) A (call (.type "enumerate") [.ref t]) Q E s := by
  obtain ⟨⟨c, dd, dt, sl⟩, ht, hc, n, hd⟩ := hT
  have e1 : c = .type "tuple" := hc
  have e2 : dt = .seq items n := hd
  subst e1 e2
  refine callType_new F.called_enumerate (by decide) (F.typeCall_enumerate_1 _) (F.newCall_enumerate_1 _) (fun ob => F.args_object_init_2 ob _) F.entry_enumerate_new (meets_enumT t items n dd sl) ⟨ht, ?_⟩
  have z : (s.heap.push (tupIt t)).objs.size = s.heap.objs.size + 1 := Heap.size_push ..
  show _ ∧ _
  rw [z]
  have he : IsEnum ((s.heap.push (tupIt t)).push (enumO s.heap.objs.size)) (s.heap.objs.size + 1) s.heap.objs.size 0 .none := by
    have q := Heap.get?_push_size (s.heap.push (tupIt t)) (o := enumO s.heap.objs.size) rfl
    rw [z] at q
    exact q
  exact ⟨⟨_, he, rfl⟩, h _ he ⟨_, Heap.get?_push_of_some _ (Heap.get?_push_size _ rfl), rfl, rfl⟩ fun b o x => Heap.get?_push_of_some _ (Heap.get?_push_of_some _ x)⟩
/-- the tuple at a, each item in a new pair -/
def IteT (K : PySem.W.Frag) (a : Addr) : It :=
  ⟨fun i H => ∃ (xs : List V) (x : V), SqT K H a xs ∧ xs[i]? = some x, fun i H v H' => ∃ T x, v = .ref T ∧ H T = none ∧ H' = upd H T (.tup [.int (i : Nat), x]) ∧ ∀ xs, SqT K H a xs → xs[i]? = some x, fun i H => ∃ xs : List V, SqT K H a xs ∧ xs.length = i⟩
theorem turn_enumT {P : Program} {w : World} {K : PySem.W.Frag} {elts : List Expr} {kk : Nat} {tpos : Pos} (a e it : Addr) :
    Turn P w K (.Tuple elts kk tpos) (IteT K a) [e, it] e (fun i h => (∃ old, IsEnum h e it ((i : Nat) : Int) old) ∧ h.IsTupleIter it a i ∧ e ≠ it) where
  mem := by simp
  obj := fun i h st b hb => by
    obtain ⟨⟨old, he⟩, ⟨o, ho, hc, hd⟩, _⟩ := st
    rcases (show b = e ∨ b = it by simpa using hb) with z | z
    · rw [z]; exact ⟨_, he, fun v q => nomatch q⟩
    · rw [z]; exact ⟨o, ho, fun v q => by rw [hd] at q; cases q⟩
  keep := fun i h h' st k => by
    obtain ⟨⟨old, he⟩, hi, hne⟩ := st
    exact ⟨⟨old, k e (by simp) _ he⟩, hi.at (fun o q => k it (by simp) o q), hne⟩
  item := by
    intro X hP hw hK hc i pins s σ H E I hf st hg
    subst hP hw hK
    obtain ⟨⟨old, he⟩, hit, hne⟩ := st
    obtain ⟨xs, x, hq, hx⟩ := hg
    obtain ⟨its, rv, p, hz⟩ := I.tuple hq
    have hh := I.ok.hd hc
    obtain ⟨u, hu, ru⟩ := rv.get hx
    have le : e < s.heap.objs.size := Heap.lt_size he
    have li : it < s.heap.objs.size := by obtain ⟨_, q, _⟩ := hit; exact Heap.lt_size q
    have ai : a ≠ it := fun z => by
      obtain ⟨o1, h1, c1, _⟩ := p
      obtain ⟨o2, h2, c2, _⟩ := hit
      rw [z, h2] at h1
      cases h1
      rw [c1] at c2
      exact absurd (Value.type.inj c2) (by decide)
    have ae : a ≠ e := fun z => by
      obtain ⟨o1, h1, c1, _⟩ := p
      rw [z] at h1
      have h2 := he.symm.trans h1
      cases h2
      exact absurd (Value.type.inj c1) (by decide)
    have lt : i < its.toArray.size := by
      have := (List.getElem?_eq_some_iff.mp hu).1
      simpa using this
    refine wpAny_pyNext_enum_itemD (Draws.tuple (prog := X.prog) (w := X.w) (A := X.A.in1) hh it a ai its.toArray) he ⟨hit, p⟩ lt hne (by simp [hne, Ne.symm ae]) fun y h' tk hy ho hst hT hsz hk => ?_
    have ey : y = u := by
      have e1 : its.toArray[i]? = some u := by simpa using hu
      rw [e1] at hy
      cases hy
      rfl
    subst ey
    refine ⟨_, rfl, wpAny_letOwnedTupleGo_enum (s := { s with heap := h', toks := tk + 1 }) ho (fun h2 he' sb => ?_)⟩
    have t2 : h2.get? s.heap.objs.size = some { cls := .type "tuple", data := .seq #[.int i tk, y] } := (sb.2 _ (Nat.ne_of_gt le)).trans hT
    have new : ObjOk X.prog X.w (upd H s.heap.objs.size (.tup [.int (i : Nat), x])) h2 s.heap.objs.size (.tup [.int (i : Nat), x]) :=
      ⟨by show 2 ≤ sizeLine; decide, [.int i tk, y], .cons ⟨_, rfl⟩ (.cons ru .nil), ⟨_, t2, rfl, _, rfl⟩⟩
    have I1 : Inv X pins σ (upd H s.heap.objs.size (.tup [.int (i : Nat), x])) { s with heap := h2, toks := tk + 1 } :=
      I.turnedNew (ch := [e, it]) (fun b ob hb q => (sb.2 b (fun z => hb (by simp [z]))).trans (hk b ob (fun z => hb (by simp [z])) (fun z => hb (by simp [z])) q)) hf (Nat.le_refl _) new
    refine ⟨.ref s.heap.objs.size, _, I1, rfl, ⟨_, x, rfl, I.hok.fresh (Nat.le_refl _), rfl, fun ys hy2 => ?_⟩, ⟨⟨y, ?_⟩, hst.1.at (fun o q => (sb.2 it (Ne.symm hne)).trans q), hne⟩, fun b hb => ?_⟩
    · obtain ⟨its2, rv2, p2, _⟩ := I.tuple hy2
      have e3 : ys = xs := I.tuple_inj hy2 hq
      rw [e3]; exact hx
    · have e1 : ((i + 1 : Nat) : Int) = (i : Int) + 1 := by omega
      rw [e1]; exact he'
    · have lb : b < s.heap.objs.size := by
        rcases (show b = e ∨ b = it by simpa using hb) with z | z
        · rw [z]; exact le
        · rw [z]; exact li
      rw [upd_ne (Nat.ne_of_lt lb)]
      exact (hf b hb).1
  done := by
    intro X hP hw hK hc i pins s σ H E I hf st hg
    subst hP hw hK
    obtain ⟨⟨old, he⟩, hit, hne⟩ := st
    obtain ⟨xs, hq, hx⟩ := hg
    obtain ⟨its, rv, p, hz⟩ := I.tuple hq
    obtain ⟨f0, f1, f2, f3, f4, f5⟩ := hf it (by simp)
    have hh := I.ok.hd hc
    have ai : a ≠ it := fun z => by
      obtain ⟨o1, h1, c1, _⟩ := p
      obtain ⟨o2, h2, c2, _⟩ := hit
      rw [z, h2] at h1
      cases h1
      rw [c1] at c2
      exact absurd (Value.type.inj c2) (by decide)
    have ei : i = its.toArray.size := by
      rw [List.size_toArray, ← rv.length]
      exact hx.symm
    subst ei
    exact wpAny_pyNext_enum_endD (Draws.tuple (prog := X.prog) (w := X.w) (A := X.A.in1) hh it a ai its.toArray) he ⟨hit, p⟩ fun h' eb => ⟨rfl, I.turned (t' := s.toks) (fun b o hb q => eb b o hb q) f0 f1 f3 f4 f5⟩
  self := fun A i s Q E st h => by
    obtain ⟨⟨_, he⟩, _⟩ := st
    exact wpAny_pyIter_enum he h
def iEnumT (K : PySem.W.Frag) (ta : TA) : TI := fun σ H R => ta σ H fun vs H1 => ∃ a xs, vs = [.ref a] ∧ SqT K H1 a xs ∧ R (IteT K a) H1
theorem pi_enumT {X : Cx} {e : Expr} {ta : TA} {p pos tpos : Pos} {elts : List Expr} {kk : Nat} (hg : Gl X "enumerate") (hm : X.mg "enumerate" = none) (ha : PA X [e] ta) (hs : starEach [e] X.env = [(false, eval e X.env)] := by rfl) :
    PI X (.Tuple elts kk tpos) (.Call (.Name "enumerate" p) [e] [] pos) (iEnumT X.K ta) := by
  refine ⟨fun pins s σ H R I h => Call_ (ld_blt I hg hm boot_enumerate (PyProof.Rows.callWith_type1 (thn (ha.run pos pins s σ H _ I h) fun us s1 ⟨vs, H1, I1, r1, q1⟩ => ?_) hs rfl))⟩
  obtain ⟨a, xs, rfl, hq, q⟩ := q1
  cases r1 with
  | cons r rr =>
    cases rr
    cases r
    obtain ⟨its, rv, p', hz⟩ := I1.tuple hq
    refine call_enumT p' fun h' he hit hk => wpAny_pyIter_enum he ?_
    have I2 : Inv X pins σ H1 { s1 with heap := h' } := I1.kept (t' := s1.toks) hk
    refine ⟨s1.heap.objs.size + 1, [s1.heap.objs.size + 1, s1.heap.objs.size], _, _, H1, rfl, I2, turn_enumT a (s1.heap.objs.size + 1) s1.heap.objs.size, ⟨⟨.none, he⟩, hit, Nat.succ_ne_self _⟩, fun b hb => ?_, q⟩
    have lb : s1.heap.objs.size ≤ b := by
      rcases (show b = s1.heap.objs.size + 1 ∨ b = s1.heap.objs.size by simpa using hb) with z | z
      · rw [z]; exact Nat.le_add_right _ _
      · rw [z]; exact Nat.le_refl _
    exact I1.fpOk lb (I1.hok.fresh lb)
end GL

namespace LW
open PySem PySem.Spec PyProof.Rows L2 GL
section
variable {P : Program} {w : World} {K : PySem.W.Frag} {mg : Str → Option Value} {base : Heap}

/-! ### slopes -/
/-- [e for i, x in enumerate(tuple)] -/
theorem l_lcE {σ : L2.St} {H : Hp} {g : TG} {te : TE} {ta : TA} {vs : List Nat} {Q : VK} {a : Addr} {xs : List V} {R : Nat → V → Hp → Prop} (st : ∀ k, Stays (R k)) (of : Off R) (h : VA ta σ H [.ref a]) (hx : SqT K H a xs) (hn : xs.length ≤ 10000)
    (hs : ∀ (i : Nat) x T H1, xs[i]? = some x → Same H H1 → H1 T = some (.tup [.int (i : Int), x]) → Turn1 g te vs σ (.ref T) H1 (R i))
    (q : ∀ p ys H', Same H H' → H' p = some (.lst ys) → Rows R 0 xs.length ys H' → Q (.ref p) H') : tLc (iEnumT K ta) g tYes te vs σ H Q := by
  refine h _ ⟨a, xs, rfl, hx, fun D hD => ⟨fun i m H1 => m = xs.length - i ∧ i ≤ xs.length ∧ LcP R H D i H1, ⟨_, rfl, Nat.zero_le _, [], Same.new' hD, upd_same, hD, trivial, rfl⟩, ?_⟩⟩
  rintro i m H1 ⟨rfl, hi, p⟩
  have q1 := sqt_same p.choose_spec.1 hx
  rcases Nat.lt_or_ge i xs.length with lt | ge
  · have e : xs[i]? = some xs[i] := List.getElem?_eq_getElem lt
    refine .inr ⟨⟨xs, xs[i], q1, e⟩, LcP R H D (i + 1), fun H' p' => ⟨xs.length - (i + 1), by omega, rfl, lt, p'⟩, ?_⟩
    rintro v H' ⟨T, x, rfl, hT, rfl, f⟩
    have ex : x = xs[i] := by
      have := f xs q1
      rw [e] at this
      exact (Option.some.inj this).symm
    subst ex
    obtain ⟨ys, s, eD, nD, r⟩ := p
    have sT := Same.new' (o := .tup [.int ((i : Nat) : Int), xs[i]]) hT
    exact lc_step st of (H := H) ⟨ys, s.trans sT, sT _ _ eD, nD, Rows.stays st ys _ _ sT r⟩ (by omega) fun s2 => hs i _ T _ e s2 upd_same
  · obtain rfl : i = xs.length := by omega
    obtain ⟨ys, s, e, _, r⟩ := p
    exact .inl ⟨⟨xs, q1, rfl⟩, q D ys H1 s e r⟩
/-- the slope -/
def pslope (xs : List Rat) : List Rat := ofN (xs.length - 1) fun i => ((i + 1 : Nat) : Rat) * co xs (i + 1)
def spSlope (mg : Str → Option Value) : Sp := fun vs H Q _ => ∃ (a : Addr) (xs : List Rat) (n : Nat), vs = [.ref a] ∧ PoAt (poA mg) H a xs ∧ Sms n xs ∧ 1 ≤ n ∧ n ≤ 400 ∧ xs.length ≤ 400 ∧ ∀ c H', Same H H' → PoAt (poA mg) H' c (pslope xs) → Q (.ref c) H'
theorem ok_Poly_slope (T : Txt K mg) (TP : PolyT K mg) : FnOk P w K mg base CX0 9 (mA K (poA mg) "slope") (fDat K (mA K (poA mg) "slope")) ["self"] (spSlope mg) := by
  have GPoly_init := ok_Poly_init (P := P) (w := w) (base := base) T TP
  have Gtimes := ok_times (P := P) (w := w) (base := base) T
  refine TP.m_slope.F.ok scPoly_slope (fun vs H Q E h => ?_) (fun cdv A outer s H vs Q E hr h => ?_)
  · obtain ⟨a, xs, n, rfl, _⟩ := h
    rfl
  obtain ⟨a, xs, n, rfl, ⟨dx, t, e, ⟨vs, ev, al⟩, tl⟩, sm, n1, hn, hl, k⟩ := h
  refine ⟨_, (pss_cons (ps_setLc (i := 1) (own := [("power", 2), ("number", 3)]) (g := gTup K 2 (gCons (gName 2) (gCons (gName 3) gNil))) (tt := tYes) (by rfl) scPoly_slope.nd rfl rfl (sw_true rfl rfl rfl (by decide +kernel)) (pi_enumT (by rfl) T.enumerate (pa_cons (pe_fld (pv 0) (by rfl)) pa_nil)) (blkOk_by (own := [("power", 2), ("number", 3)]) (N := ["self", "numbers", "power", "number"]) (sc := defScope sPoly_slope) (by decide +kernel)) (fun _ _ _ _ _ => pg_tup rfl (pgs_cons (pg_name (i := 2) scPoly_slope.nd rfl (Or.inl rfl)) (pgs_cons (pg_name (i := 3) scPoly_slope.nd rfl (Or.inl rfl)) pgs_nil))) (fun _ _ _ _ _ => pts_nil) (fun _ _ _ _ _ => (pe_call Gtimes (hr.mono (by decide)) (by rfl) T.times.g T.times.F.kp T.times.b .nil passL (pa_cons (pv 2) (pa_cons (pv 3) pa_nil)))))
  (pss_one (ps_ret (pe_make TP.mkc GPoly_init (hr.mono (by decide)) (by rfl) TP.g TP.m_init.b .nil passL (pa_cons (pe_slice sl_list (pv 1) (po_some pe_int) po_none) pa_nil))))), ?_⟩
  have small : ∀ i : Nat, i < 400 → Sm 9 ((i : Nat) : Rat) := fun i hi => ⟨by show (((i : Nat) : Rat).num).natAbs < 2 ^ 9; rw [Rat.num_natCast, Int.natAbs_natCast]; omega, by rw [Rat.den_natCast]; decide⟩
  refine q_asg (l_lcE (R := fun i v H => ∃ p, v = V.ref p ∧ Lo H p (((i : Nat) : Rat) * co xs i)) (fun i v H1 H2 s ⟨p, h1, lo⟩ => ⟨p, h1, lo.same s⟩) (lo_offR _) (va_cons (v_numbers TP (val_var rfl) e) va_nil) (SqT.of ev) (by rw [al.len]; omega) (fun i x U H1 hx s1 eU => turn_two (SqT.of eU) rfl fun Q q => ?_) (fun l ys H1 s1 e1 r1 => ?_))
  · obtain ⟨q0, hq, p, rfl, lo⟩ := al.get hx
    have li : i < 400 := by have := (List.getElem?_eq_some_iff.mp hq).1; omega
    have ri : Rq H1 (.int (i : Int)) ((i : Nat) : Rat) := ⟨(i : Int), 1, .int _, ⟨by rw [Int.natAbs_natCast]; exact Nat.lt_of_lt_of_le li (Nat.le_trans (m := 2 ^ 9) (by decide) (Nat.pow_le_pow_right (by decide) (by decide))), Nat.one_lt_two_pow (by decide)⟩, by
      rw [Rat.divInt_eq_div]
      show ((i : Nat) : Rat) = ((i : Int) : Rat) / ((1 : Int) : Rat)
      rw [Rat.intCast_one]
      have := Rat.mul_div_cancel (a := ((i : Int) : Rat)) (b := 1) (by decide)
      rw [Rat.mul_one] at this
      rw [this]
      rfl⟩
    exact c_times (va_cons (val_var rfl) (va_cons (val_var rfl) va_nil)) ri ((lo.same s1).rq (sm q0 (get_mem hq)) (by omega)) fun p2 H2 s2 lo2 => q _ H2 s2 ⟨p2, rfl, by rw [co_some hq]; exact lo2⟩
  rw [al.len] at r1
  have cut : cutV ys (some 1) none = ys.drop 1 := by
    unfold cutV
    rw [HT.sIx_none, show (1 : Int) = ((1 : Nat) : Int) from rfl, HT.sIx_nat]
    rcases Nat.eq_zero_or_pos ys.length with z | z
    · have : ys = [] := List.length_eq_zero_iff.mp z
      rw [this]; rfl
    · rw [Nat.min_eq_left (by omega)]
      exact List.take_of_length_le (by rw [List.length_drop]; exact Nat.le_refl _)
  refine r_ret (va_1 ((val_var rfl) _ (val_c _ ⟨1, rfl, ⟨l, ys, rfl, SqL.of e1, fun p hp => ?_⟩⟩)))
  rw [cut]
  have s2 := Same.new' (o := .lst (ys.drop 1)) hp
  have hlen : (ys.drop 1).length = xs.length - 1 := by rw [List.length_drop, r1.2]
  refine made_poly (.inl upd_same) (by rw [hlen]; omega) (All2.mk (bs := (List.range (xs.length - 1)).map fun i => ((i + 1 : Nat) : Rat) * co xs (i + 1)) (by rw [hlen, List.length_map, List.length_range]) fun i v q hv hq => ?_) fun c H' s' pc => k c H' ((s1.trans s2).trans s') pc
  have hi : i < xs.length - 1 := by rw [← hlen]; exact (List.getElem?_eq_some_iff.mp hv).1
  rw [List.getElem?_drop, Nat.add_comm] at hv
  obtain ⟨p2, rfl, lo⟩ := r1.1.get hv
  rw [Nat.zero_add] at lo
  rw [List.getElem?_map, List.getElem?_range hi] at hq
  cases hq
  exact (lo.same s2).rq (n := 9 + n) ((small (i + 1) (by omega)).mul (sm.co n1 (i + 1))) (by omega)
end
end LW

namespace LW
open PySem PySem.Spec PyProof.Rows L2 GL
section
variable {P : Program} {w : World} {K : PySem.W.Frag} {mg : Str → Option Value} {base : Heap}

/-! ### the law's own ratios and rows -/
theorem But.lo {H H' : Hp} {p c t : Addr} {m : Nat} {q : Rat} (b : But p H H') (P : PenAt H p c m) (h : Lo H t q) : Lo H' t q := by
  obtain ⟨kvs, hd⟩ := P.dk
  exact b _ _ h (ne_of h hd (by intro z; cases z))
/-- a list of ratios in lowest terms -/
def Lst (H : Hp) (l : Addr) (xs : List Rat) : Prop := ∃ vs, H l = some (.lst vs) ∧ All2 (fun v q => ∃ p, v = .ref p ∧ Lo H p q) vs xs
theorem Lst.same {H H' : Hp} {t : Addr} {xs : List Rat} (h : Lst H t xs) (s : Same H H') : Lst H' t xs := by
  obtain ⟨vs, e, al⟩ := h
  exact ⟨vs, s _ _ e, al.imp fun v q ⟨p, e, lo⟩ => ⟨p, e, lo.same s⟩⟩
theorem Lst.but {H H' : Hp} {p c l : Addr} {m : Nat} {xs : List Rat} (h : Lst H l xs) (b : But p H H') (P : PenAt H p c m) : Lst H' l xs := by
  obtain ⟨vs, e, al⟩ := h
  obtain ⟨kvs, hd⟩ := P.dk
  exact ⟨vs, b _ _ e (ne_of e hd (by intro z; cases z)), al.imp fun v q ⟨p, e, lo⟩ => ⟨p, e, b.lo P lo⟩⟩
theorem c_lq {H : Hp} {ta : TA} {σ : L2.St} {x y : Int} {Q : VK} {E : XK} (h : VA ta σ H [.int x, .int y]) (hx : x.natAbs < 2 ^ wd) (hy : y.natAbs < 2 ^ wd) (y0 : 0 < y) (k : ∀ p H', Same H H' → Lo H' p (Rat.divInt x y) → Q (.ref p) H') : tCall spLQ [] E ta σ H Q :=
  c_call h ⟨x, y, rfl, hx, hy, .inl ⟨y0, fun p H' s z => k p H' s (by
    unfold Lo
    rw [← (low_rat x y0).1, ← (low_rat x y0).2]
    exact z)⟩⟩
theorem c_lplus {H : Hp} {ta : TA} {σ : L2.St} {p q : Addr} {x y : Rat} {n m : Nat} {Q : VK} {E : XK} (h : VA ta σ H [.ref p, .ref q]) (a : Lo H p x) (b : Lo H q y) (hx : Sm n x) (hy : Sm m y) (hn : n ≤ 1000) (hm : m ≤ 1000) (k : ∀ c H', Same H H' → Lo H' c (x + y) → Q (.ref c) H') : tCall sp_law_plus [] E ta σ H Q := by
  have d1 := x.den_pos
  have d2 := y.den_pos
  refine c_call h ⟨p, q, _, _, _, _, rfl, a, b, hx.fit hn, hy.fit hm, by omega, by omega, fun c H' s z => k c H' s ?_⟩
  unfold Lo
  have e : x + y = Rat.divInt (x.num * (y.den : Int) + y.num * (x.den : Int)) ((x.den : Int) * (y.den : Int)) := by rw [Rat.add_def', ← Rat.divInt_ofNat, Int.natCast_mul]
  rw [e, ← (low_rat _ (Int.mul_pos (by omega) (by omega))).1, ← (low_rat _ (Int.mul_pos (by omega) (by omega))).2]
  exact z
theorem c_ltimes {H : Hp} {ta : TA} {σ : L2.St} {p q : Addr} {x y : Rat} {n m : Nat} {Q : VK} {E : XK} (h : VA ta σ H [.ref p, .ref q]) (a : Lo H p x) (b : Lo H q y) (hx : Sm n x) (hy : Sm m y) (hn : n ≤ 1000) (hm : m ≤ 1000) (k : ∀ c H', Same H H' → Lo H' c (x * y) → Q (.ref c) H') : tCall sp_law_times [] E ta σ H Q := by
  have d1 := x.den_pos
  have d2 := y.den_pos
  refine c_call h ⟨p, q, _, _, _, _, rfl, a, b, hx.fit hn, hy.fit hm, by omega, by omega, fun c H' s z => k c H' s ?_⟩
  unfold Lo
  have e : x * y = Rat.divInt (x.num * y.num) ((x.den : Int) * (y.den : Int)) := by rw [Rat.mul_def', ← Rat.divInt_ofNat, Int.natCast_mul]
  rw [e, ← (low_rat _ (Int.mul_pos (by omega) (by omega))).1, ← (low_rat _ (Int.mul_pos (by omega) (by omega))).2]
  exact z

theorem va_s {te : TE} {tr : TA} {σ : L2.St} {H : Hp} {v : V} {Q : List V → Hp → Prop} (h : Val te σ H v) (k : tr σ H fun vs H1 => Q (v :: vs) H1) : tCons te tr σ H Q := h _ k
theorem l_s {ta : TA} {σ : L2.St} {H : Hp} {Q : VK} (h : ta σ H fun vs H1 => vs.length ≤ sizeLine ∧ ∀ q, H1 q = none → Q (.ref q) (upd H1 q (.lst vs))) : tLst ta σ H Q := h
def spLRatio : Sp := fun vs H Q _ => ∃ (p c : Addr) (m : Nat) (k : Nat), vs = [.ref p, .int (k : Int)] ∧ PenAt H p c m ∧ m + 3 < most ∧ 1 ≤ k ∧ k ≤ 9 ∧ ∀ (t : Addr) (H' : Hp) (q : Rat), Lo H' t q → Sm 10 q → But p H H' → PenAt H' p c (m + 3) → Q (.ref t) H'
theorem ok_law_ratio (T : Txt K mg) : FnOk P w K mg base CX0 5 (fA mg "_law_ratio") (fDat K (fA mg "_law_ratio")) ["_law_pen_here", "_law_most"] spLRatio := by
  have G_law_draw := ok_draw (P := P) (w := w) (base := base) T._law_draw.F T
  have G_law_pick := ok_pick (P := P) (w := w) (base := base) T
  have G_law_q := ok_law_q (P := P) (w := w) (base := base) T
  refine T._law_ratio.F.ok sc_law_ratio (fun vs H Q E h => ?_) (fun cdv A outer s H vs Q E hr h => ?_)
  · obtain ⟨p, c, m, k, rfl, _⟩ := h
    rfl
  obtain ⟨p, c, m, k, rfl, hP, hm, k1, k9, z⟩ := h
  refine ⟨_, (pss_cons (ps_set (i := 2) sc_law_ratio.nd rfl (Or.inl rfl) (pe_c T._law_pick G_law_pick (hr.mono (by decide)) (pa_cons (pv 0) (pa_cons (pe_lst (pa_cons pe_int (pa_cons pe_int (pa_cons pe_int (pa_cons pe_int (pa_cons pe_int (pa_cons pe_int (pa_cons (pe_op op_add pe_int (pe_c T._law_draw G_law_draw (hr.mono (by decide)) (pa_cons (pv 0) (pa_cons pe_int pa_nil)))) pa_nil)))))))) pa_nil))))
  (pss_one (ps_ret (pe_c T._law_q G_law_q (hr.mono (by decide)) (pa_cons (pe_op op_sub (pe_c T._law_draw G_law_draw (hr.mono (by decide)) (pa_cons (pv 0) (pa_cons (pe_op op_add (pe_op op_mulW (pe_op op_mulW pe_int (pv 1)) (pv 2)) pe_int) pa_nil))) (pe_op op_mulW (pv 1) (pv 2))) (pa_cons (pv 2) pa_nil)))))), ?_⟩
  refine q_asg (call_1 ((val_var rfl) _ (va_1 ?_)))
  refine l_s (va_s val_c (va_s val_c (va_s val_c (va_s val_c (va_s val_c (va_s val_c (va_1 (op_l val_c ?_))))))))
  refine c_call (va_cons (val_var rfl) (va_cons val_c va_nil)) ⟨p, c, 99, m, rfl, hP, by omega, by decide, by decide, fun r H1 r0 r1 b1 P1 => ?_⟩
  refine ⟨1, r, rfl, rfl, by show 7 ≤ sizeLine; decide, fun l hl => ?_⟩
  refine ⟨p, c, l, _, m + 1, rfl, P1.same (Same.new hl), by omega, SqL.of upd_same, by show 0 < 7; decide, by show 7 < 1000000000; decide, fun v H2 hv b2 P2 => ?_⟩
  obtain ⟨d, rfl, d0, d1⟩ : ∃ d : Int, v = .int d ∧ 0 < d ∧ d ≤ 99 := by
    simp at hv
    rcases hv with e | e | e | e | e | e
    · exact ⟨1, e, by decide, by decide⟩
    · exact ⟨2, e, by decide, by decide⟩
    · exact ⟨3, e, by decide, by decide⟩
    · exact ⟨7, e, by decide, by decide⟩
    · exact ⟨10, e, by decide, by decide⟩
    · exact ⟨1 + r, e, by omega, by omega⟩
  have c1 : (2 : Nat) ^ 10 < 2 ^ 1000 := Nat.pow_lt_pow_right (by decide) (by decide)
  have kd : 0 < (k : Int) * d := Int.mul_pos (by omega) d0
  have kd2 : (k : Int) * d ≤ 9 * 99 := Int.mul_le_mul (by omega) d1 (by omega) (by omega)
  refine r_ret (te := tCall _ _ _ _) (call_1 ?_)
  have hk : (k : Int).natAbs < 2 ^ 1000 := by omega
  have hd : d.natAbs < 2 ^ 1000 := by omega
  have h2k : (2 * (k : Int)).natAbs < 2 ^ 1000 := by omega
  refine c_call (va_cons (val_var rfl) (va_cons (v_add (v_mul (v_mul val_c (val_var rfl) (fit_mul (by omega) hk)) (val_var rfl) (fit_mul h2k hd)) val_c) va_nil)) ⟨p, c, _, m + 2, rfl, P2, by omega, ?_, ?_, fun r2 H3 r20 r21 b3 P3 => ?_⟩
  · rw [Int.mul_assoc]; omega
  · rw [Int.mul_assoc]; omega
  rw [Int.mul_assoc] at r21
  refine (v_mul (i := (k : Int)) (j := d) (val_var rfl) (val_var rfl) (fit_mul hk hd)) _ ⟨_, _, rfl, rfl, ?_⟩
  have hw : ∀ {i : Int}, i.natAbs < 1024 → i.natAbs < 2 ^ wd := fun h => Nat.lt_trans h (by decide +kernel)
  refine (val_var rfl) _ ?_
  refine ⟨r2 - (k : Int) * d, d, rfl, hw (by omega), hw (by omega), .inl ⟨d0, fun t H4 s4 e4 => ?_⟩⟩
  rw [(low_rat _ d0).1, (low_rat _ d0).2] at e4
  exact z t H4 _ e4 (Sm.div (n := 10) d0 (by show _ < 1024; omega) (by show _ < 1024; omega)) (((b1.trans (But.of (Same.new hl))).trans b2).trans (b3.trans (But.of s4))) (P3.same s4)

/-! ### the law's own polynomials -/
def listD (xs : List Rat) : PyData := .list (xs.map fun q => pr q.num (q.den : Int))
theorem lst_dp {H : Hp} {t : Addr} {xs : List Rat} (h : Lst H t xs) : Dp K H (.ref t) (listD xs) := by
  obtain ⟨vs, e, al⟩ := h
  refine .lst (SqL.of e) ?_
  clear e
  induction al with
  | nil => exact .nil
  | cons h _ ih =>
    obtain ⟨p, rfl, lo⟩ := h
    exact .cons (lo_dp lo) ih
theorem listD_shaped (xs : List Rat) : SeqAt.shaped (listD xs) = true := by
  have h := polyD_shaped xs
  unfold SeqAt.shaped polyD at h
  unfold SeqAt.shaped listD
  simpa [PyData.canLay0, PyData.depth] using h
theorem All2.take {α β : Type} {R : α → β → Prop} {as : List α} {bs : List β} (h : All2 R as bs) (n : Nat) : All2 R (as.take n) (bs.take n) := by
  refine All2.mk (by rw [List.length_take, List.length_take, h.len]) fun i a b ha hb => ?_
  rw [List.getElem?_take] at ha hb
  split at ha
  · rename_i lt
    rw [if_pos lt] at hb
    obtain ⟨b', hb', r⟩ := h.get ha
    rw [hb] at hb'
    cases hb'
    exact r
  · cases ha
theorem q_ifOr {σ : L2.St} {H : Hp} {t u : TT} {t1 tz : TS} {D : Ends} (h : t σ H fun c H1 => if c = true then (if true = true then t1 { D with nx := tz D } σ H1 else tz D σ H1) else
    u σ H1 fun b H2 => if b = true then t1 { D with nx := tz D } σ H2 else tz D σ H2) : tSeq (tIfS (tOr t u) t1 tNext) tz D σ H := h
theorem t_op {r : R2} {ta tb : TE} {σ : L2.St} {H : Hp} {K' : Bool → Hp → Prop} (h : ta σ H fun x H1 => tb σ H1 fun y H2 => r x y H2 fun z H3 => ∃ b, z = .bl b ∧ K' b H3) : tTest (tOp r ta tb) σ H K' := h
theorem atI_m1 {xs : List V} {v : V} (h : xs[xs.length - 1]? = some v) : atI xs (-1) = some v := by
  have hl := (List.getElem?_eq_some_iff.mp h).1
  unfold atI ixN
  rw [if_neg (by decide), if_pos (by omega)]
  show xs[(-1 + (xs.length : Int)).toNat]? = some v
  rw [show (-1 + (xs.length : Int)).toNat = xs.length - 1 by omega]
  exact h
theorem Same.updN {H H1 : Hp} {a : Addr} {o : HO} (s : Same H H1) (h : H a = none) : Same H (upd H1 a o) := fun b z hb => by
  rw [upd_ne (ne_of_none hb h)]
  exact s b z hb
theorem st_bm0 {ty : String} {r : V → List V → Hp → VK → Prop} {to : TE} {x : V} {D : Ends} {σ : L2.St} {H : Hp} (h : Val to σ H x) (k : tyV K ty x H ∧ r x [] H fun _ H1 => D.nx σ H1) : tDrop (tBM0 K ty r to) D σ H := h _ k
def spLPoly : Sp := fun vs H Q _ => ∃ (l : Addr) (xs : List Rat), vs = [.ref l] ∧ Lst H l xs ∧ xs.length ≤ 1000 ∧ ∀ (l' : Addr) (H' : Hp), Same H H' → Lst H' l' (trim xs) → Q (.ref l') H'
theorem ok_law_poly (T : Txt K mg) : FnOk P w K mg base CX0 1 (fA mg "_law_poly") (fDat K (fA mg "_law_poly")) ["_law_numbers"] spLPoly := by
  refine T._law_poly.F.ok sc_law_poly (fun vs H Q E h => ?_) (fun cdv A outer s H vs Q E hr h => ?_)
  · obtain ⟨l, xs, rfl, _⟩ := h
    rfl
  obtain ⟨l, xs, rfl, ⟨vs, hl, al⟩, hn, k⟩ := h
  refine ⟨_, (pss_cons (ps_set (i := 1) sc_law_poly.nd rfl (Or.inl rfl) (pe_callTy call_list_of (by rfl) T.list (by decide +kernel) (pa_cons (pv 0) pa_nil)))
  (pss_cons (ps_for PassesOwn.never rfl (pi_range1 (by rfl) T.range (pa_cons (pe_callB call_len_seq (by rfl) T.len PySem.boot_len (pa_cons (pv 0) pa_nil)) pa_nil)) (pg_name (i := 2) sc_law_poly.nd rfl (Or.inl rfl))
  (pss_cons (ps_if (PW.pt (pw_or (pt_cmpR (op_eqD (hu64 hr)) (pv 1) (pe_lst pa_nil) (nomark _)) (pw_or1 (pt_cmpR op_ne (pe_ix ix_tup (pe_ix ix_list (pv 1) (pe_un un_neg pe_int) (fun _ _ => rfl)) pe_int (fun _ _ => rfl)) pe_int (nomark _))))) (pss_one ps_break) pss_nil)
  (pss_one (ps_expr (pe_bm0 PySem.F.plainAttrs_list PySem.F.slot_list_pop PySem.F.type_list_pop mt_pop (pv 1))))))
  (pss_one (ps_ret (pv 1))))), ?_⟩
  refine q_asg ((va_cons (val_var rfl) va_nil) _ ⟨l, vs, rfl, .inl (SqL.of hl), fun l' hl' => ?_⟩)
  have s0 := Same.new' (o := .lst vs) hl'
  have len := al.len
  have done : ∀ j H', Same H H' → j ≤ xs.length → H' l' = some (.lst (vs.take j)) → (∀ i q, j ≤ i → xs[i]? = some q → q = 0) → (j = 0 ∨ ∃ q, xs[j - 1]? = some q ∧ q ≠ 0) → Q (.ref l') H' := fun j H' s hj e z h => k l' H' s (by
    have t := tlen_of hj z h
    unfold trim
    rw [t]
    exact ⟨_, e, (al.imp fun v q ⟨p, e, lo⟩ => ⟨p, e, lo.same s⟩).take j⟩)
  refine q_forR1 (n := xs.length) (va_cons (Val.is (v_len (xs := vs) (val_var rfl) (.inl (SqL.of (s0 _ _ hl)))) (by rw [len])) va_nil) (by omega) (fun i σ H1 => ∃ z, σ = [some (.ref l), some (.ref l'), z] ∧ Same H H1 ∧ H1 l' = some (.lst (vs.take (xs.length - i))) ∧ ∀ j q, xs.length - i ≤ j → xs[j]? = some q → q = 0)
    ⟨_, rfl, s0, by rw [Nat.sub_zero, ← len, List.take_length]; exact upd_same, fun j q h e => by have := (List.getElem?_eq_some_iff.mp e).1; omega⟩ (fun i σ H1 hi z => ?_) (fun σ H1 z => ?_)
  · obtain ⟨z, rfl, s1, e1, z1⟩ := z
    obtain ⟨j, hj⟩ : ∃ j, xs.length - i = j + 1 := ⟨xs.length - i - 1, by omega⟩
    rw [hj] at e1 z1
    have lj : j < xs.length := by omega
    have gx : xs[j]? = some xs[j] := List.getElem?_eq_getElem lj
    generalize xs[j] = q at gx
    obtain ⟨v, gv⟩ : ∃ v, vs[j]? = some v := ⟨_, List.getElem?_eq_getElem (by omega)⟩
    obtain ⟨q', hq', p, rfl, lo⟩ := al.get gv
    rw [gx] at hq'
    cases hq'
    have lt : (vs.take (j + 1)).length = j + 1 := by rw [List.length_take]; omega
    have last : (vs.take (j + 1))[(vs.take (j + 1)).length - 1]? = some (.ref p) := by
      rw [lt, List.getElem?_take, if_pos (by omega)]
      exact gv
    refine g_name (q_ifOr (t_op ((val_var rfl) _ (l_lst va_nil (by decide) fun e he => ?_))))
    have s2 := Same.new' (o := .lst []) he
    have L2 : Lst (upd H1 e (.lst [])) l' (xs.take (j + 1)) := ⟨_, s2 _ _ e1, (al.imp fun v q ⟨p, e, lo⟩ => ⟨p, e, lo.same (s1.trans s2)⟩).take (j + 1)⟩
    refine ⟨_, listD [], lst_dp L2, .lst (SqL.of upd_same) .nil, listD_shaped _, listD_shaped _, _, rfl, ?_⟩
    have ne : PyData.eqv (listD (xs.take (j + 1))) (listD []) = false := by
      have : ∃ x r, xs.take (j + 1) = x :: r := by
        cases h : xs.take (j + 1) with
        | nil =>
          have : (xs.take (j + 1)).length = 0 := by rw [h]; rfl
          rw [List.length_take] at this
          omega
        | cons x r => exact ⟨x, r, rfl⟩
      obtain ⟨x, r, h⟩ := this
      rw [h]
      rfl
    rw [ne]
    refine iteF (t_op ?_)
    have ev : Val (tOp (rIxT K) (tOp (rIxL K) (tVar 1) (tUn (rU fun i => .int (-i)) (tC (.int 1)))) (tC (.int 0))) [some (.ref l), some (.ref l'), some (.int (i : Int))] (upd H1 e (.lst [])) (.int q.num) :=
      v_ixT (n := 0) (xs := [.int q.num, .int (q.den : Int)]) (val_op (val_var rfl) (v_neg val_c) fun Q q => ⟨l', _, _, _, rfl, rfl, SqL.of (s2 _ _ e1), atI_m1 last, q⟩) val_c (SqT.of (lo.same (s1.trans s2))) rfl
    refine ev _ (val_c _ ⟨rfl, _, rfl, ?_⟩)
    by_cases q0 : q = 0
    · have n0 : (!decide (V.int q.num = V.int 0)) = false := by rw [q0]; rfl
      rw [n0]
      refine iteF ?_
      refine st_bm0 (x := .ref l') (val_var rfl) ⟨?_, l', _, _, rfl, rfl, s2 _ _ e1, last, ?_⟩
      · exact .inl ⟨rfl, _, SqL.of (s2 _ _ e1)⟩
      refine ⟨_, rfl, Same.updN (s1.trans s2) hl', ?_, fun i' q' h e => ?_⟩
      · rw [upd_same, show xs.length - (i + 1) = j by omega, List.dropLast_eq_take, lt, Nat.add_sub_cancel, List.take_take, Nat.min_eq_left (Nat.le_succ j)]
      · rcases Nat.lt_or_ge i' (j + 1) with lt | ge
        · have : i' = j := by omega
          subst this
          rw [gx] at e
          cases e
          exact q0
        · exact z1 i' q' ge e
    · have n1 : (!decide (V.int q.num = V.int 0)) = true := by
        rw [decide_eq_false (fun z => q0 (by
          have : q.num = 0 := by injection z
          exact Rat.num_eq_zero.mp this))]
        rfl
      rw [n1]
      exact iteT ((val_var (v := .ref l') rfl) _ (done (j + 1) _ (s1.trans s2) (by omega) (s2 _ _ e1) z1 (.inr ⟨q, by simpa using gx, q0⟩)))
  · obtain ⟨z, rfl, s1, e1, z1⟩ := z
    rw [Nat.sub_self] at e1 z1
    exact st_ret (val_var rfl) (done 0 _ s1 (Nat.zero_le _) e1 z1 (.inl rfl))
end
end LW

namespace LW
open PySem PySem.Spec PyProof.Rows L2 GL
section
variable {P : Program} {w : World} {K : PySem.W.Frag} {mg : Str → Option Value} {base : Heap}

section
variable {σ : L2.St} {H : Hp} {g : TG} {te : TE} {ta : TA} {vs : List Nat} {Q : VK} {a b : Addr} {xs ys : List V} {R : Nat → V → Hp → Prop}
/-- [e for x, y in zip(xs, ys)] -/
theorem l_lcZ (st : ∀ k, Stays (R k)) (of : Off R) (h : VA ta σ H [.ref a, .ref b]) (hx : SqL K H a xs) (hy : SqL K H b ys) (hl : xs.length = ys.length) (hn : xs.length ≤ 10000)
    (hs : ∀ (i : Nat) x y T H1, xs[i]? = some x → ys[i]? = some y → Same H H1 → H1 T = some (.tup [x, y]) → Turn1 g te vs σ (.ref T) H1 (R i))
    (q : ∀ p zs H', Same H H' → H' p = some (.lst zs) → Rows R 0 xs.length zs H' → Q (.ref p) H') : tLc (iZip K ta) g tYes te vs σ H Q := by
  refine h _ ⟨a, b, xs, ys, rfl, hx, hy, fun D hD => ⟨fun i m H1 => m = xs.length - i ∧ i ≤ xs.length ∧ LcP R H D i H1, ⟨_, rfl, Nat.zero_le _, [], Same.new' hD, upd_same, hD, trivial, rfl⟩, ?_⟩⟩
  rintro i m H1 ⟨rfl, hi, p⟩
  have q1 := p.choose_spec.1.seq hx
  have q2 := p.choose_spec.1.seq hy
  rcases Nat.lt_or_ge i xs.length with lt | ge
  · have e : xs[i]? = some xs[i] := List.getElem?_eq_getElem lt
    have e' : ys[i]? = some (ys[i]'(by omega)) := List.getElem?_eq_getElem (by omega)
    refine .inr ⟨⟨xs, ys, xs[i], _, q1, q2, e, e'⟩, LcP R H D (i + 1), fun H' p' => ⟨xs.length - (i + 1), by omega, rfl, lt, p'⟩, ?_⟩
    rintro v H' ⟨T, x, y, rfl, hT, rfl, f, f'⟩
    have ex := f xs q1
    have ey := f' ys q2
    obtain ⟨zs, s, eD, nD, r⟩ := p
    have sT := Same.new' (o := .tup [x, y]) hT
    exact lc_step st of (H := H) ⟨zs, s.trans sT, sT _ _ eD, nD, Rows.stays st zs _ _ sT r⟩ (by omega) fun s2 => hs i x y T _ ex ey s2 upd_same
  · obtain rfl : i = xs.length := by omega
    obtain ⟨zs, s, e, _, r⟩ := p
    exact .inl ⟨⟨xs, ys, q1, q2, .inl (Nat.le_refl _)⟩, q D zs H1 s e r⟩
/-- [e for x in range(1, n)] -/
theorem l_lcR1n {n : Nat} (st : ∀ k, Stays (R k)) (of : Off R) (h : VA ta σ H [.int 1, .int (n : Int)]) (hn : n ≤ 10000) (hs : ∀ i H1, i < n - 1 → Same H H1 → Turn1 g te vs σ (.int (1 + (i : Int))) H1 (R i))
    (q : ∀ p ys H', Same H H' → H' p = some (.lst ys) → Rows R 0 (n - 1) ys H' → Q (.ref p) H') : tLc (iRng2 ta) g tYes te vs σ H Q := by
  have e : ((n : Int) - 1).toNat = n - 1 := by omega
  refine h _ ⟨1, n, rfl, ⟨by omega, by omega, by omega, by omega⟩, fun D hD => lc_range (lo := 1) (n := ((n : Int) - 1).toNat) (LcP R H D) ⟨[], Same.new' hD, upd_same, hD, trivial, rfl⟩ (fun i H1 hi p => ?_) (fun H1 ⟨ys, s, e2, _, r⟩ => q D ys H1 s e2 (by rw [e] at r; exact r))⟩
  exact lc_step st of p (by omega) (hs i H1 (by omega))
end
theorem rows_lst {f : Nat → Rat} {n : Nat} {l : Addr} {vs : List V} {H : Hp} (e : H l = some (.lst vs)) (r : Rows (fun i v H => ∃ p, v = V.ref p ∧ Lo H p (f i)) 0 n vs H) : Lst H l ((List.range n).map f) :=
  ⟨vs, e, All2.mk (by rw [r.2, List.length_map, List.length_range]) fun i v q hv hq => by
    have hi : i < n := by rw [← r.2]; exact (List.getElem?_eq_some_iff.mp hv).1
    obtain ⟨p, rfl, lo⟩ := r.1.get hv
    rw [Nat.zero_add] at lo
    rw [List.getElem?_map, List.getElem?_range hi] at hq
    cases hq
    exact ⟨p, rfl, lo⟩⟩
theorem Lst.len {H : Hp} {l : Addr} {xs : List Rat} (h : Lst H l xs) : ∃ vs, H l = some (.lst vs) ∧ vs.length = xs.length := by
  obtain ⟨vs, e, al⟩ := h
  exact ⟨vs, e, al.len⟩
theorem v_lenS {σ : L2.St} {H : Hp} {te : TE} {l : Addr} {xs : List Rat} (h : Val te σ H (.ref l)) (q : Lst H l xs) : Val (tCB (fun xs H Q => ∃ p ys, xs = [.ref p] ∧ (SqL K H p ys ∨ SqT K H p ys) ∧ Q (.int ys.length) H) (tCons te tNil)) σ H (.int (xs.length : Int)) := by
  obtain ⟨vs, e, n⟩ := q.len
  exact Val.is (v_len h (.inl (SqL.of e))) (by rw [n])
def pscale (xs : List Rat) (y : Rat) : List Rat := ofN xs.length fun i => co xs i * y
def spLScaled : Sp := fun vs H Q _ => ∃ (l b : Addr) (xs : List Rat) (y : Rat) (n m : Nat), vs = [.ref l, .ref b] ∧ Lst H l xs ∧ Lo H b y ∧ Sms n xs ∧ Sm m y ∧ 1 ≤ n ∧ n ≤ 1000 ∧ m ≤ 1000 ∧ xs.length ≤ 1000 ∧ ∀ (l' : Addr) (H' : Hp), Same H H' → Lst H' l' (pscale xs y) → Q (.ref l') H'
theorem ok_law_p_scaled (T : Txt K mg) : FnOk P w K mg base CX0 4 (fA mg "_law_p_scaled") (fDat K (fA mg "_law_p_scaled")) ["_law_one", "_law_by"] spLScaled := by
  have G_law_poly := ok_law_poly (P := P) (w := w) (base := base) T
  have G_law_times := ok_law_times (P := P) (w := w) (base := base) T
  refine T._law_p_scaled.F.ok sc_law_p_scaled (fun vs H Q E h => ?_) (fun cdv A outer s H vs Q E hr h => ?_)
  · obtain ⟨l, b, xs, y, n, m, rfl, _⟩ := h
    rfl
  obtain ⟨l, b, xs, y, n, m, rfl, ⟨vs, hl, al⟩, lo, sx, sy, n1, hn, hm, hz, k⟩ := h
  refine ⟨_, (pss_one (ps_ret (pe_c T._law_poly G_law_poly (hr.mono (by decide)) (pa_cons (pe_lc (own := [("_law_a", 2)]) (g := gName 2) (tt := tYes) (by rfl) sc_law_p_scaled.nd (pi_list (pv 0)) (blkOk_by (own := [("_law_a", 2)]) (N := ["_law_one", "_law_by", "_law_a"]) (sc := defScope s_law_p_scaled) (by decide +kernel)) (fun _ _ _ _ _ => pg_name (i := 2) sc_law_p_scaled.nd rfl (Or.inl rfl)) (fun _ _ _ _ _ => pts_nil) (fun _ _ _ _ _ => (pe_c T._law_times G_law_times (hr.mono (by decide)) (pa_cons (pv 2) (pa_cons (pv 1) pa_nil))))) pa_nil)))), ?_⟩
  refine r_ret (te := tCall _ _ _ _) (va_1 (l_lcL (R := fun i v H => ∃ p, v = V.ref p ∧ Lo H p (co xs i * y)) (fun i v H1 H2 s ⟨p, h1, lo⟩ => ⟨p, h1, lo.same s⟩) (lo_offR _) (val_var rfl) (SqL.of hl) (by rw [al.len]; omega) (fun i x H1 hx s1 => turn_name rfl fun Q q => ?_) (fun l1 ys H1 s1 e1 r1 => ?_)))
  · obtain ⟨q0, hq, p, rfl, lo1⟩ := al.get hx
    exact c_ltimes (va_cons (val_var rfl) (va_cons (val_var rfl) va_nil)) (lo1.same s1) (lo.same s1) (sx q0 (get_mem hq)) sy hn hm fun c H2 s2 lo2 => q _ H2 s2 ⟨c, rfl, by rw [co_some hq]; exact lo2⟩
  · rw [al.len] at r1
    exact ⟨l1, _, rfl, rows_lst e1 r1, by rw [List.length_map, List.length_range]; exact hz, fun l' H' s h => k l' H' (s1.trans s) h⟩

theorem zero_lo {H : Hp} {t : Addr} (h : H t = some (.tup [.int 0, .int 1])) : Lo H t 0 := h
theorem rep_flat (v : V) : ∀ k, (List.replicate k [v]).flatten = List.replicate k v
  | 0 => rfl
  | k + 1 => by rw [List.replicate_succ, List.replicate_succ, List.flatten_cons, rep_flat v k]; rfl
theorem pad_all {H : Hp} {t : Addr} {vs : List V} {xs : List Rat} (al : All2 (fun v q => ∃ p, v = V.ref p ∧ Lo H p q) vs xs) (lt : Lo H t 0) {k : Nat} : All2 (fun v q => ∃ p, v = V.ref p ∧ Lo H p q) (vs ++ List.replicate k (V.ref t)) (xs ++ List.replicate k 0) := by
  have rep : ∀ k, All2 (fun v q => ∃ p, v = V.ref p ∧ Lo H p q) (List.replicate k (V.ref t)) (List.replicate k (0 : Rat)) := fun k => by
    induction k with
    | zero => exact .nil
    | succ k ih => exact .cons ⟨t, rfl, lt⟩ ih
  induction al with
  | nil => exact rep k
  | cons h _ ih => exact .cons h ih
/-- a row with zeros behind it -/
theorem l_pad {σ : L2.St} {H : Hp} {t1 t2 : TE} {l : Addr} {xs : List Rat} {k : Nat} {Q : VK} (h : Val t1 σ H (.ref l)) (hl : Lst H l xs) (hn : xs.length ≤ 1000) (hk : k ≤ 1000) (h2 : ∀ H1, Same H H1 → Val t2 σ H1 (.int (k : Int)))
    (q : ∀ p H', Same H H' → Lst H' p (xs ++ List.replicate k 0) → Q (.ref p) H') : tOp rCat t1 (tOp rRep (tLst (tCons (tTup (tCons (tC (.int 0)) (tCons (tC (.int 1)) tNil))) tNil)) t2) σ H Q := by
  obtain ⟨vs, e, al⟩ := hl
  have len := al.len
  refine op_l h ?_
  refine l_s (va_1 (l_tup (va_cons val_c (va_cons val_c va_nil)) (by decide) fun t ht => ⟨by show 1 ≤ sizeLine; decide, fun z hz => ?_⟩))
  have s1 := Same.new' (o := .tup [.int 0, .int 1]) ht
  have s2 := Same.new' (o := .lst [.ref t]) hz
  refine (h2 _ (s1.trans s2)) _ ⟨z, k, [.ref t], rfl, rfl, upd_same, by omega, by omega, ?_, fun r hr => ?_⟩
  · rw [Int.toNat_natCast]
    exact Nat.le_trans (by show 1 * k ≤ 1000; omega) (show 1000 ≤ sizeLine by decide)
  have s3 := Same.new' (o := .lst (List.replicate (k : Int).toNat [V.ref t]).flatten) hr
  refine ⟨l, r, vs, _, rfl, rfl, s3 _ _ (s2 _ _ (s1 _ _ e)), upd_same, ?_, fun p hp => ?_⟩
  · rw [Int.toNat_natCast, List.length_flatten, List.map_replicate, List.sum_replicate_nat]
    exact Nat.le_trans (by show vs.length + k * 1 ≤ 2000; omega) (show 2000 ≤ sizeLine by decide)
  · have s4 := Same.new' (o := .lst (vs ++ (List.replicate (k : Int).toNat [V.ref t]).flatten)) hp
    have S := ((s1.trans s2).trans s3).trans s4
    refine q p _ S ⟨_, upd_same, ?_⟩
    have fl : (List.replicate (k : Int).toNat [V.ref t]).flatten = List.replicate k (V.ref t) := by rw [Int.toNat_natCast, rep_flat]
    rw [fl] at S s4 s3 ⊢
    exact pad_all (al.imp fun v q ⟨p, e, lo⟩ => ⟨p, e, lo.same S⟩) (s4 _ _ (s3 _ _ (s2 _ _ upd_same)))
theorem co_pad (xs : List Rat) (k i : Nat) (q : Rat) (h : (xs ++ List.replicate k 0)[i]? = some q) : q = co xs i := by
  rcases Nat.lt_or_ge i xs.length with lt | ge
  · rw [List.getElem?_append_left lt] at h
    exact (co_some h).symm
  · rw [List.getElem?_append_right ge, List.getElem?_replicate] at h
    split at h
    · cases h
      exact (co_none ge).symm
    · cases h
def spLPlus2 (f : List Rat → List Rat → List Rat) : Sp := fun vs H Q _ => ∃ (l b : Addr) (xs ys : List Rat) (n m : Nat), vs = [.ref l, .ref b] ∧ Lst H l xs ∧ Lst H b ys ∧ Sms n xs ∧ Sms m ys ∧ 1 ≤ n ∧ 1 ≤ m ∧ n ≤ 900 ∧ m ≤ 900 ∧ xs.length ≤ 500 ∧ ys.length ≤ 500 ∧ ∀ (l' : Addr) (H' : Hp), Same H H' → Lst H' l' (f xs ys) → Q (.ref l') H'
theorem ok_law_p_plus (T : Txt K mg) : FnOk P w K mg base CX0 4 (fA mg "_law_p_plus") (fDat K (fA mg "_law_p_plus")) ["_law_one", "_law_two"] (spLPlus2 psum) := by
  have G_law_poly := ok_law_poly (P := P) (w := w) (base := base) T
  have G_law_plus := ok_law_plus (P := P) (w := w) (base := base) T
  refine T._law_p_plus.F.ok sc_law_p_plus (fun vs H Q E h => ?_) (fun cdv A outer s H vs Q E hr h => ?_)
  · obtain ⟨l, b, xs, ys, n, m, rfl, _⟩ := h
    rfl
  obtain ⟨l, b, xs, ys, n, m, rfl, Lx, Ly, sx, sy, n1, m1, hn, hm, hx, hy, k⟩ := h
  refine ⟨_, (pss_cons (ps_set (i := 2) sc_law_p_plus.nd rfl (Or.inl rfl) (pe_callB (cr_max rfl) (by rfl) T.max (by decide +kernel) (pa_cons (pe_lst (pa_cons (pe_callB call_len_seq (by rfl) T.len PySem.boot_len (pa_cons (pv 0) pa_nil)) (pa_cons (pe_callB call_len_seq (by rfl) T.len PySem.boot_len (pa_cons (pv 1) pa_nil)) pa_nil))) pa_nil)))
  (pss_cons (ps_par (i := 3) (j := 4) (by rfl) sc_law_p_plus.nd rfl rfl (by decide) rfl rfl (pa_cons (pe_op op_cat (pv 0) (pe_op op_rep (pe_lst (pa_cons (pe_tup (pa_cons pe_int (pa_cons pe_int pa_nil))) pa_nil)) (pe_op op_sub (pv 2) (pe_callB call_len_seq (by rfl) T.len PySem.boot_len (pa_cons (pv 0) pa_nil))))) (pa_cons (pe_op op_cat (pv 1) (pe_op op_rep (pe_lst (pa_cons (pe_tup (pa_cons pe_int (pa_cons pe_int pa_nil))) pa_nil)) (pe_op op_sub (pv 2) (pe_callB call_len_seq (by rfl) T.len PySem.boot_len (pa_cons (pv 1) pa_nil))))) pa_nil)) (by rfl))
  (pss_one (ps_ret (pe_c T._law_poly G_law_poly (hr.mono (by decide)) (pa_cons (pe_lc (own := [("_law_a", 5), ("_law_b", 6)]) (g := gTup K 2 (gCons (gName 5) (gCons (gName 6) gNil))) (tt := tYes) (by rfl) sc_law_p_plus.nd (pi_zip (by rfl) T.zip (pa_cons (pv 3) (pa_cons (pv 4) pa_nil))) (blkOk_by (own := [("_law_a", 5), ("_law_b", 6)]) (N := ["_law_one", "_law_two", "_law_many", "_law_first", "_law_second", "_law_a", "_law_b"]) (sc := defScope s_law_p_plus) (by decide +kernel)) (fun _ _ _ _ _ => pg_tup rfl (pgs_cons (pg_name (i := 5) sc_law_p_plus.nd rfl (Or.inl rfl)) (pgs_cons (pg_name (i := 6) sc_law_p_plus.nd rfl (Or.inl rfl)) pgs_nil))) (fun _ _ _ _ _ => pts_nil) (fun _ _ _ _ _ => (pe_c T._law_plus G_law_plus (hr.mono (by decide)) (pa_cons (pv 5) (pa_cons (pv 6) pa_nil))))) pa_nil)))))), ?_⟩
  refine q_asg (va_1 (l_s (va_s (v_lenS (val_var rfl) Lx) (va_1 ((v_lenS (val_var rfl) Ly) _ ⟨by show 2 ≤ sizeLine; decide, fun q hq => ⟨q, [(xs.length : Int), (ys.length : Int)], rfl, SqL.of upd_same, by show 0 < 2; decide, fun mx hm1 hm2 => ?_⟩⟩)))))
  obtain rfl : mx = ((max xs.length ys.length : Nat) : Int) := by
    have h1 := hm2 (xs.length : Int) (by simp)
    have h2 := hm2 (ys.length : Int) (by simp)
    simp at hm1
    rcases hm1 with e | e <;> omega
  have s1 := Same.new' (o := .lst [V.int (xs.length : Int), V.int (ys.length : Int)]) hq
  refine q_par (ta_two (l_pad (k := max xs.length ys.length - xs.length) (val_var rfl) (Lx.same s1) (by omega) (by omega) (fun H2 s2 => ?_) fun l1 H2 s2 L1 => l_pad (k := max xs.length ys.length - ys.length) (val_var rfl) ((Ly.same s1).same s2) (by omega) (by omega) (fun H3 s3 => ?_) fun l2 H3 s3 L2 => ⟨_, _, rfl, ?_⟩))
  · exact Val.is (v_sub (val_var rfl) (v_lenS (val_var rfl) ((Lx.same s1).same s2))) (by congr 1; omega)
  · exact Val.is (v_sub (val_var rfl) (v_lenS (val_var rfl) (((Ly.same s1).same s2).same s3))) (by congr 1; omega)
  obtain ⟨vs1, e1, al1⟩ := L1.same s3
  obtain ⟨vs2, e2, al2⟩ := L2
  have len1 : vs1.length = max xs.length ys.length := by rw [al1.len, List.length_append, List.length_replicate]; omega
  have len2 : vs2.length = max xs.length ys.length := by rw [al2.len, List.length_append, List.length_replicate]; omega
  refine r_ret (te := tCall _ _ _ _) (va_1 (l_lcZ (R := fun i v H => ∃ p, v = V.ref p ∧ Lo H p (co xs i + co ys i)) (fun i v H1 H2 s ⟨p, h1, lo⟩ => ⟨p, h1, lo.same s⟩) (lo_offR _) (va_cons (val_var rfl) (va_cons (val_var rfl) va_nil)) (SqL.of e1) (SqL.of e2) (by omega) (by omega) (fun i x y U H4 hx hy s4 eU => turn_two (SqT.of eU) rfl fun Q q => ?_) (fun l5 zs H5 s5 e5 r5 => ?_)))
  · obtain ⟨q1, hq1, p1, rfl, lo1⟩ := al1.get hx
    obtain ⟨q2, hq2, p2, rfl, lo2⟩ := al2.get hy
    have c1 := co_pad _ _ _ _ hq1
    have c2 := co_pad _ _ _ _ hq2
    subst c1 c2
    exact c_lplus (va_cons (val_var rfl) (va_cons (val_var rfl) va_nil)) (lo1.same s4) (lo2.same s4) (sx.co n1 i) (sy.co m1 i) (by omega) (by omega) fun c H6 s6 lo6 => q _ H6 s6 ⟨c, rfl, lo6⟩
  · rw [len1] at r5
    exact ⟨l5, _, rfl, rows_lst e5 r5, by rw [List.length_map, List.length_range]; omega, fun l' H' s h => k l' H' ((((s1.trans s2).trans s3).trans s5).trans s) h⟩
end
end LW

namespace LW
open PySem PySem.Spec PyProof.Rows L2 GL
section
variable {P : Program} {w : World} {K : PySem.W.Frag} {mg : Str → Option Value} {base : Heap}

theorem s_ltimes {H : Hp} {p q : Addr} {x y : Rat} {n m : Nat} {Q : VK} {E : XK} (a : Lo H p x) (b : Lo H q y) (hx : Sm n x) (hy : Sm m y) (hn : n ≤ 1000) (hm : m ≤ 1000) (k : ∀ c H', Same H H' → Lo H' c (x * y) → Q (.ref c) H') : sp_law_times ([.ref p, .ref q] ++ []) H Q E :=
  c_ltimes (E := E) (σ := []) (ta := tCons (tC (.ref p)) (tCons (tC (.ref q)) tNil)) (va_cons val_c (va_cons val_c va_nil)) a b hx hy hn hm k
theorem s_lplus {H : Hp} {p q : Addr} {x y : Rat} {n m : Nat} {Q : VK} {E : XK} (a : Lo H p x) (b : Lo H q y) (hx : Sm n x) (hy : Sm m y) (hn : n ≤ 1000) (hm : m ≤ 1000) (k : ∀ c H', Same H H' → Lo H' c (x + y) → Q (.ref c) H') : sp_law_plus ([.ref p, .ref q] ++ []) H Q E :=
  c_lplus (E := E) (σ := []) (ta := tCons (tC (.ref p)) (tCons (tC (.ref q)) tNil)) (va_cons val_c (va_cons val_c va_nil)) a b hx hy hn hm k
theorem pscale_neg (ys : List Rat) : pscale ys (-1) = pneg ys := eq_of_co tlen_ofN (tlen_trim _) fun i => by
  rw [co_neg]
  unfold pscale
  rw [co_ofN]
  split
  · grind
  · rename_i h
    rw [co_none (by omega)]
    grind
theorem m1_lo {H : Hp} {t : Addr} (h : H t = some (.tup [.int (-1), .int 1])) : Lo H t (-1) := h
theorem m1_sm : Sm 1 (-1 : Rat) := ⟨by decide, by decide⟩
theorem ok_law_p_minus (T : Txt K mg) : FnOk P w K mg base CX0 5 (fA mg "_law_p_minus") (fDat K (fA mg "_law_p_minus")) ["_law_one", "_law_two"] (spLPlus2 fun xs ys => psum xs (pneg ys)) := by
  have G_law_p_plus := ok_law_p_plus (P := P) (w := w) (base := base) T
  have G_law_p_scaled := ok_law_p_scaled (P := P) (w := w) (base := base) T
  refine T._law_p_minus.F.ok sc_law_p_minus (fun vs H Q E h => ?_) (fun cdv A outer s H vs Q E hr h => ?_)
  · obtain ⟨l, b, xs, ys, n, m, rfl, _⟩ := h
    rfl
  obtain ⟨l, b, xs, ys, n, m, rfl, Lx, Ly, sx, sy, n1, m1, hn, hm, hx, hy, k⟩ := h
  refine ⟨_, (pss_one (ps_ret (pe_c T._law_p_plus G_law_p_plus (hr.mono (by decide)) (pa_cons (pv 0) (pa_cons (pe_c T._law_p_scaled G_law_p_scaled (hr.mono (by decide)) (pa_cons (pv 1) (pa_cons (pe_tup (pa_cons (pe_un un_neg pe_int) (pa_cons pe_int pa_nil))) pa_nil))) pa_nil))))), ?_⟩
  refine r_ret (te := tCall _ _ _ _) (va_s (val_var rfl) (va_1 (call_1 ((val_var rfl) _ (va_1 (l_tup (va_cons (v_neg val_c) (va_cons val_c va_nil)) (by decide) fun t ht => ?_))))))
  have s1 := Same.new' (o := .tup [.int (-1), .int 1]) ht
  refine ⟨b, t, ys, -1, m, 1, rfl, Ly.same s1, m1_lo upd_same, sy, m1_sm, m1, by omega, by decide, by omega, fun l1 H1 s2 L1 => ?_⟩
  rw [pscale_neg] at L1
  exact ⟨l, l1, xs, pneg ys, n, m, rfl, (Lx.same s1).same s2, L1, sx, sy.neg, n1, m1, hn, hm, hx, Nat.le_trans (pneg_len ys) hy, fun l' H' s h => k l' H' ((s1.trans s2).trans s) h⟩

theorem q_forRL {g : TG} {te : TE} {tb tz : TS} {D : Ends} {σ : L2.St} {H : Hp} {a : Addr} {xs : List V} (h : Val te σ H (.ref a)) (hx : SqL K H a xs) (k : ∀ p H1, Same H H1 → H1 p = some (.lst xs.reverse) → ∃ Pv : Nat → L2.St → Hp → Prop, Pv 0 σ H1 ∧ (∀ i σ H, i ≤ xs.reverse.length → Pv i σ H → SqL K H p xs.reverse) ∧
    (∀ i x σ H, xs.reverse[i]? = some x → Pv i σ H → g x σ H fun σ2 H2 => tb { D with nx := Pv (i + 1), ct := Pv (i + 1), bk := tz D } σ2 H2) ∧ ∀ σ H, Pv xs.reverse.length σ H → tz D σ H) : tSeq (tFor (iList K (tRevL K te)) g tb) tz D σ H :=
  h _ ⟨a, xs, rfl, hx, fun p hp => by
    obtain ⟨Pv, h0, hl, hs, hd⟩ := k p _ (Same.new' hp) upd_same
    exact ⟨p, rfl, ⟨_, SqL.of upd_same⟩, for_list (D := { D with nx := tz D }) Pv h0 hl hs hd⟩⟩
def spLAt : Sp := fun vs H Q _ => ∃ (l b : Addr) (xs : List Rat) (y : Rat) (n m : Nat), vs = [.ref l, .ref b] ∧ Lst H l xs ∧ Lo H b y ∧ Sms n xs ∧ Sm m y ∧ (n + m + 1) * xs.length + n + m + 1 ≤ 900 ∧ ∀ (c : Addr) (H' : Hp), Same H H' → Lo H' c (peval xs y) → Q (.ref c) H'
theorem ok_law_p_at (T : Txt K mg) : FnOk P w K mg base CX0 4 (fA mg "_law_p_at") (fDat K (fA mg "_law_p_at")) ["_law_one", "_law_point"] spLAt := by
  have G_law_plus := ok_law_plus (P := P) (w := w) (base := base) T
  have G_law_times := ok_law_times (P := P) (w := w) (base := base) T
  refine T._law_p_at.F.ok sc_law_p_at (fun vs H Q E h => ?_) (fun cdv A outer s H vs Q E hr h => ?_)
  · obtain ⟨l, b, xs, y, n, m, rfl, _⟩ := h
    rfl
  obtain ⟨l, b, xs, y, n, m, rfl, ⟨vs, hl, al⟩, lo, sx, sy, hn, k⟩ := h
  refine ⟨_, (pss_cons (ps_set (i := 2) sc_law_p_at.nd rfl (Or.inl rfl) (pe_tup (pa_cons pe_int (pa_cons pe_int pa_nil))))
  (pss_cons (ps_for PassesOwn.never rfl (pi_list (pe_revL (pv 0))) (pg_name (i := 3) sc_law_p_at.nd rfl (Or.inl rfl))
  (pss_one (ps_set (i := 2) sc_law_p_at.nd rfl (Or.inl rfl) (pe_c T._law_plus G_law_plus (hr.mono (by decide)) (pa_cons (pe_c T._law_times G_law_times (hr.mono (by decide)) (pa_cons (pv 2) (pa_cons (pv 1) pa_nil))) (pa_cons (pv 3) pa_nil))))))
  (pss_one (ps_ret (pv 2))))), ?_⟩
  have len := al.len
  refine q_asg (l_tup (va_cons val_c (va_cons val_c va_nil)) (by decide) fun t ht => ?_)
  have s0 := Same.new' (o := .tup [.int 0, .int 1]) ht
  refine q_forRL (xs := vs) (val_var rfl) (SqL.of (s0 _ _ hl)) fun r H1 s1 er => ⟨fun i σ H2 => ∃ c z, σ = [some (.ref l), some (.ref b), some (.ref c), z] ∧ Same H1 H2 ∧ Lo H2 c (peval (xs.drop (xs.length - i)) y) ∧ Sm ((n + m + 1) * i + 1) (peval (xs.drop (xs.length - i)) y),
    ⟨t, none, rfl, Same.refl _, ?_, ?_⟩, fun i σ H2 _ z => ?_, fun i x σ H2 hx z => ?_, fun σ H2 z => ?_⟩
  · rw [Nat.sub_zero, List.drop_length]
    exact Lo.same (q := 0) (zero_lo upd_same) s1
  · rw [Nat.sub_zero, List.drop_length]
    exact Sm.zero (by omega)
  · obtain ⟨c, z, rfl, s2, _⟩ := z
    exact SqL.of (s2 _ _ er)
  · obtain ⟨c, z, rfl, s2, loc, smc⟩ := z
    have li : i < vs.length := by
      have := (List.getElem?_eq_some_iff.mp hx).1
      rw [List.length_reverse] at this
      exact this
    rw [List.getElem?_reverse li, len] at hx
    obtain ⟨q, hq, p, rfl, lop⟩ := al.get hx
    have sq := sx q (get_mem hq)
    have S := (s0.trans s1).trans s2
    have bd : (n + m + 1) * (i + 1) ≤ (n + m + 1) * xs.length := Nat.mul_le_mul_left _ (by omega)
    have bd' : (n + m + 1) * (i + 1) = (n + m + 1) * i + (n + m + 1) := Nat.mul_succ _ _
    have pe : peval (xs.drop (xs.length - (i + 1))) y = q + y * peval (xs.drop (xs.length - i)) y := by
      have e1 : xs.length - (i + 1) < xs.length := by omega
      rw [List.drop_eq_getElem_cons e1, show xs.length - (i + 1) + 1 = xs.length - i by omega, peval]
      have : xs[xs.length - (i + 1)] = q := by
        have h := List.getElem?_eq_getElem e1
        have e2 : xs.length - 1 - i = xs.length - (i + 1) := by omega
        rw [e2, h] at hq
        exact Option.some.inj hq
      rw [this]
    have e : peval (xs.drop (xs.length - i)) y * y + q = q + y * peval (xs.drop (xs.length - i)) y := by grind
    refine g_name (call_1 (c_ltimes (va_cons (val_var rfl) (va_cons (val_var rfl) va_nil)) loc (lo.same S) smc sy (by omega) (by omega) fun d H3 s3 lo3 => va_1 ((val_var rfl) _ (s_lplus lo3 (lop.same (S.trans s3)) (smc.mul sy) sq (by omega) (by omega) fun f H4 s4 lo4 => ?_))))
    refine ⟨f, _, rfl, (s2.trans s3).trans s4, ?_, ?_⟩
    · rw [pe, ← e]
      exact lo4
    · rw [pe, ← e]
      exact ((smc.mul sy).add sq).mono (by omega)
  · obtain ⟨c, z, rfl, s2, loc, _⟩ := z
    rw [List.length_reverse, len, Nat.sub_self, List.drop_zero] at loc
    exact st_ret (val_var rfl) (k c _ ((s0.trans s1).trans s2) loc)

def spLSlope : Sp := fun vs H Q _ => ∃ (l : Addr) (xs : List Rat) (n : Nat), vs = [.ref l] ∧ Lst H l xs ∧ Sms n xs ∧ n ≤ 900 ∧ xs.length ≤ 400 ∧ ∀ (l' : Addr) (H' : Hp), Same H H' → Lst H' l' (pslope xs) → Q (.ref l') H'
theorem ok_law_p_slope (T : Txt K mg) : FnOk P w K mg base CX0 4 (fA mg "_law_p_slope") (fDat K (fA mg "_law_p_slope")) ["_law_one"] spLSlope := by
  have G_law_poly := ok_law_poly (P := P) (w := w) (base := base) T
  have G_law_times := ok_law_times (P := P) (w := w) (base := base) T
  refine T._law_p_slope.F.ok sc_law_p_slope (fun vs H Q E h => ?_) (fun cdv A outer s H vs Q E hr h => ?_)
  · obtain ⟨l, xs, n, rfl, _⟩ := h
    rfl
  obtain ⟨l, xs, n, rfl, ⟨vs, hl, al⟩, sx, hn, hz, k⟩ := h
  have len := al.len
  refine ⟨_, (pss_one (ps_ret (pe_c T._law_poly G_law_poly (hr.mono (by decide)) (pa_cons (pe_lc (own := [("_law_k", 1)]) (g := gName 1) (tt := tYes) (by rfl) sc_law_p_slope.nd (pi_range2 (by rfl) T.range (pa_cons pe_int (pa_cons (pe_callB call_len_seq (by rfl) T.len PySem.boot_len (pa_cons (pv 0) pa_nil)) pa_nil))) (blkOk_by (own := [("_law_k", 1)]) (N := ["_law_one", "_law_k"]) (sc := defScope s_law_p_slope) (by decide +kernel)) (fun _ _ _ _ _ => pg_name (i := 1) sc_law_p_slope.nd rfl (Or.inl rfl)) (fun _ _ _ _ _ => pts_nil) (fun _ _ _ _ _ => (pe_c T._law_times G_law_times (hr.mono (by decide)) (pa_cons (pe_ix (show IxR _ (rIxL K) from ix_list) (pv 0) (pv 1) (fun _ _ => rfl)) (pa_cons (pe_tup (pa_cons (pv 1) (pa_cons pe_int pa_nil))) pa_nil))))) pa_nil)))), ?_⟩
  have small : ∀ i : Nat, i < 400 → Sm 9 ((i : Nat) : Rat) := fun i hi => ⟨by show (((i : Nat) : Rat).num).natAbs < 2 ^ 9; rw [Rat.num_natCast, Int.natAbs_natCast]; omega, by rw [Rat.den_natCast]; decide⟩
  refine r_ret (te := tCall _ _ _ _) (va_1 (l_lcR1n (n := xs.length) (R := fun i v H => ∃ p, v = V.ref p ∧ Lo H p (((i + 1 : Nat) : Rat) * co xs (i + 1))) (fun i v H1 H2 s ⟨p, h1, lo⟩ => ⟨p, h1, lo.same s⟩) (lo_offR _) (va_cons val_c (va_cons (v_lenS (val_var rfl) ⟨vs, hl, al⟩) va_nil)) (by omega) (fun i H1 hi s1 => turn_name rfl fun Q q => ?_) (fun l1 ys H1 s1 e1 r1 => ?_)))
  · have ei : (1 : Int) + (i : Int) = ((i + 1 : Nat) : Int) := by omega
    have gx : vs[i + 1]? = some vs[i + 1] := List.getElem?_eq_getElem (by omega)
    generalize vs[i + 1] = v at gx
    obtain ⟨q0, hq, p, rfl, lo⟩ := al.get gx
    rw [ei]
    refine call_1 ((v_ixL (n := i + 1) (val_var rfl) (val_var rfl) (SqL.of (s1 _ _ hl)) gx) _ (va_1 (l_tup (va_cons (val_var rfl) (va_cons val_c va_nil)) (by show 2 ≤ 100000; decide) fun t ht => ?_)))
    have s2 := Same.new' (o := .tup [.int ((i + 1 : Nat) : Int), .int 1]) ht
    have lot : Lo (upd H1 t (.tup [.int ((i + 1 : Nat) : Int), .int 1])) t ((i + 1 : Nat) : Rat) := by
      unfold Lo
      rw [Rat.num_natCast, Rat.den_natCast]
      exact upd_same
    refine s_ltimes ((lo.same s1).same s2) lot (sx q0 (get_mem hq)) (small (i + 1) (by omega)) (by omega) (by omega) fun c H3 s3 lo3 => q _ H3 (s2.trans s3) ⟨c, rfl, ?_⟩
    rw [co_some hq, Rat.mul_comm]
    exact lo3
  · exact ⟨l1, _, rfl, rows_lst e1 r1, by rw [List.length_map, List.length_range]; omega, fun l' H' s h => k l' H' (s1.trans s) h⟩
end
end LW

namespace LW
open PySem PySem.Spec PyProof.Rows L2 GL
section
variable {P : Program} {w : World} {K : PySem.W.Frag} {mg : Str → Option Value} {base : Heap}
theorem op_l' {r : R2} {ta tb : TE} {σ : L2.St} {H : Hp} {Q : VK} (k : ta σ H fun x H1 => tb σ H1 fun y H2 => r x y H2 Q) : tOp r ta tb σ H Q := k
theorem ixN_nat {n j : Nat} (h : j < n) : ixN n (j : Int) = some j := by
  unfold ixN
  rw [if_pos (by omega), if_pos (by omega), Int.toNat_natCast]

/-! ### products by the law -/
theorem st_forR1 {g : TG} {ta : TA} {tb : TS} {D : Ends} {σ : L2.St} {H : Hp} {n : Nat} (h : VA ta σ H [.int (n : Int)]) (hn : n ≤ 100000) (Pv : Nat → L2.St → Hp → Prop) (h0 : Pv 0 σ H)
    (hs : ∀ i σ H, i < n → Pv i σ H → g (.int (i : Int)) σ H fun σ2 H2 => tb { D with nx := Pv (i + 1), ct := Pv (i + 1), bk := D.nx } σ2 H2) (hd : ∀ σ H, Pv n σ H → D.nx σ H) : tFor (iRng1 ta) g tb D σ H :=
  h _ ⟨(n : Int), rfl, by omega, by omega, for_range (lo := 0) (n := (n : Int).toNat) (D := D) Pv h0 (fun i σ H hi p => by rw [Int.zero_add]; exact hs i σ H (by omega) p) (fun σ H p => hd σ H (by rw [Int.toNat_natCast] at p; exact p))⟩
theorem rsum_zero {n : Nat} {f : Nat → Rat} (h : ∀ i, i < n → f i = 0) : rsum n f = 0 := by
  induction n with
  | zero => rfl
  | succ n ih => rw [rsum, ih fun i hi => h i (by omega), h n (by omega), Rat.add_zero]
theorem rsum_cut (a : Nat) (f : Nat → Rat) : ∀ d, (∀ i, a ≤ i → i < a + d → f i = 0) → rsum (a + d) f = rsum a f
  | 0, _ => rfl
  | d + 1, h => by
    show rsum (a + d) f + f (a + d) = _
    rw [rsum_cut a f d fun i h1 h2 => h i h1 (by omega), h (a + d) (by omega) (by omega), Rat.add_zero]
theorem rsum_cut' {a b : Nat} {f : Nat → Rat} (l : a ≤ b) (h : ∀ i, a ≤ i → i < b → f i = 0) : rsum b f = rsum a f := by
  obtain ⟨d, rfl⟩ : ∃ d, b = a + d := ⟨b - a, by omega⟩
  exact rsum_cut a f d h
/-- the share of one number of the first in a product's number -/
def trm (xs ys : List Rat) (t s : Nat) : Rat := if s ≤ t then co xs s * co ys (t - s) else 0
theorem conv_trm (xs ys : List Rat) (t : Nat) : conv xs ys t = rsum xs.length (trm xs ys t) := by
  have e1 : conv xs ys t = rsum (t + 1) (trm xs ys t) := rsum_congr fun i hi => by
    unfold trm
    rw [if_pos (by omega)]
  rw [e1]
  rcases Nat.le_total (t + 1) xs.length with l | l
  · exact (rsum_cut' l fun i h1 h2 => by unfold trm; rw [if_neg (by omega)]).symm
  · exact rsum_cut' l fun i h1 h2 => by
      unfold trm
      split
      · rw [co_none h1, Rat.zero_mul]
      · rfl
theorem conv_zero {xs ys : List Rat} {t : Nat} (h : xs.length + ys.length - 1 ≤ t) : conv xs ys t = 0 := by
  rw [conv_trm]
  refine rsum_zero fun s hs => ?_
  unfold trm
  split
  · rw [co_none (xs := ys) (by omega), Rat.mul_zero]
  · rfl
theorem trm_sm {xs ys : List Rat} {n m : Nat} (sx : Sms n xs) (sy : Sms m ys) (n1 : 1 ≤ n) (m1 : 1 ≤ m) (t s : Nat) : Sm (n + m) (trm xs ys t s) := by
  unfold trm
  split
  · exact (sx.co n1 s).mul (sy.co m1 _)
  · exact Sm.zero (by omega)
theorem rsum_sm {f : Nat → Rat} {n : Nat} (h : ∀ s, Sm n (f s)) : ∀ i, Sm ((n + 1) * i + 1) (rsum i f)
  | 0 => Sm.zero (by omega)
  | i + 1 => ((rsum_sm h i).add (h i)).mono (by rw [Nat.mul_succ]; omega)
/-- a list of ratios, by a function -/
def Acc (H : Hp) (f : Addr) (N : Nat) (F : Nat → Rat) : Prop := ∃ ws, H f = some (.lst ws) ∧ ws.length = N ∧ ∀ (t : Nat) v, ws[t]? = some v → ∃ p, v = .ref p ∧ Lo H p (F t)
theorem Acc.congr {H : Hp} {f : Addr} {N : Nat} {F G : Nat → Rat} (h : Acc H f N F) (e : ∀ t, t < N → F t = G t) : Acc H f N G := by
  obtain ⟨ws, h1, h2, h3⟩ := h
  refine ⟨ws, h1, h2, fun t v hv => ?_⟩
  have lt : t < N := by rw [← h2]; exact (List.getElem?_eq_some_iff.mp hv).1
  rw [← e t lt]
  exact h3 t v hv
theorem Acc.same {H H' : Hp} {f : Addr} {N : Nat} {F : Nat → Rat} (h : Acc H f N F) (s : Same H H') : Acc H' f N F := by
  obtain ⟨ws, h1, h2, h3⟩ := h
  exact ⟨ws, s _ _ h1, h2, fun t v hv => by
    obtain ⟨p, e, lo⟩ := h3 t v hv
    exact ⟨p, e, lo.same s⟩⟩
theorem Acc.lst {H : Hp} {f : Addr} {N : Nat} {F : Nat → Rat} (h : Acc H f N F) : Lst H f ((List.range N).map F) := by
  obtain ⟨ws, h1, h2, h3⟩ := h
  refine ⟨ws, h1, All2.mk (by rw [h2, List.length_map, List.length_range]) fun i v q hv hq => ?_⟩
  have hi : i < N := by rw [← h2]; exact (List.getElem?_eq_some_iff.mp hv).1
  rw [List.getElem?_map, List.getElem?_range hi] at hq
  cases hq
  exact h3 i v hv
theorem lo_upd {H : Hp} {f p : Addr} {ws zs : List V} {q : Rat} (e : H f = some (.lst ws)) (lo : Lo H p q) : Lo (upd H f (.lst zs)) p q := by
  unfold Lo at lo ⊢
  rw [upd_ne (fun z => by rw [z, e] at lo; cases lo)]
  exact lo
def spLTimes : Sp := fun vs H Q _ => ∃ (l b : Addr) (xs ys : List Rat) (n m : Nat), vs = [.ref l, .ref b] ∧ Lst H l xs ∧ Lst H b ys ∧ Sms n xs ∧ Sms m ys ∧ 1 ≤ n ∧ 1 ≤ m ∧ (n + m + 1) * xs.length + n + m + 1 ≤ 900 ∧ xs.length ≤ 400 ∧ ys.length ≤ 400 ∧ ∀ (l' : Addr) (H' : Hp), Same H H' → Lst H' l' (pmul xs ys) → Q (.ref l') H'
theorem ok_law_p_times (T : Txt K mg) : FnOk P w K mg base CX0 4 (fA mg "_law_p_times") (fDat K (fA mg "_law_p_times")) ["_law_one", "_law_two"] spLTimes := by
  have G_law_poly := ok_law_poly (P := P) (w := w) (base := base) T
  have G_law_plus := ok_law_plus (P := P) (w := w) (base := base) T
  have G_law_times := ok_law_times (P := P) (w := w) (base := base) T
  refine T._law_p_times.F.ok sc_law_p_times (fun vs H Q E h => ?_) (fun cdv A outer s H vs Q E hr h => ?_)
  · obtain ⟨l, b, xs, ys, n, m, rfl, _⟩ := h
    rfl
  obtain ⟨l, b, xs, ys, n, m, rfl, Lx, Ly, sx, sy, n1, m1, hn, hx, hy, k⟩ := h
  refine ⟨_, (pss_cons (ps_set (i := 2) sc_law_p_times.nd rfl (Or.inl rfl) (pe_op op_rep (pe_lst (pa_cons (pe_tup (pa_cons pe_int (pa_cons pe_int pa_nil))) pa_nil)) (pe_callB (cr_max rfl) (by rfl) T.max (by decide +kernel) (pa_cons (pe_lst (pa_cons pe_int (pa_cons (pe_op op_sub (pe_op op_add (pe_callB call_len_seq (by rfl) T.len PySem.boot_len (pa_cons (pv 0) pa_nil)) (pe_callB call_len_seq (by rfl) T.len PySem.boot_len (pa_cons (pv 1) pa_nil))) pe_int) pa_nil))) pa_nil))))
  (pss_cons (ps_for PassesOwn.never rfl (pi_range1 (by rfl) T.range (pa_cons (pe_callB call_len_seq (by rfl) T.len PySem.boot_len (pa_cons (pv 0) pa_nil)) pa_nil)) (pg_name (i := 3) sc_law_p_times.nd rfl (Or.inl rfl))
  (pss_one (ps_for PassesOwn.never rfl (pi_range1 (by rfl) T.range (pa_cons (pe_callB call_len_seq (by rfl) T.len PySem.boot_len (pa_cons (pv 1) pa_nil)) pa_nil)) (pg_name (i := 4) sc_law_p_times.nd rfl (Or.inl rfl))
  (pss_one (ps_asg (pe_c T._law_plus G_law_plus (hr.mono (by decide)) (pa_cons (pe_ix ix_list (pv 2) (pe_op op_add (pv 3) (pv 4)) (fun _ _ => rfl)) (pa_cons (pe_c T._law_times G_law_times (hr.mono (by decide)) (pa_cons (pe_ix ix_list (pv 0) (pv 3) (fun _ _ => rfl)) (pa_cons (pe_ix ix_list (pv 1) (pv 4) (fun _ _ => rfl)) pa_nil))) pa_nil))) (pg_sub (pv 2) (pe_op op_add (pv 3) (pv 4)) set_list))))))
  (pss_one (ps_ret (pe_c T._law_poly G_law_poly (hr.mono (by decide)) (pa_cons (pv 2) pa_nil)))))), ?_⟩
  let N := xs.length + ys.length - 1
  refine q_asg (op_l' (l_s (va_1 (l_tup (va_cons val_c (va_cons val_c va_nil)) (by decide) fun t ht => ⟨by show 1 ≤ sizeLine; decide, fun z hz => ?_⟩))))
  have s1 := Same.new' (o := .tup [.int 0, .int 1]) ht
  have s2 := Same.new' (o := .lst [.ref t]) hz
  refine va_1 (l_s (va_s val_c (va_1 ((v_sub (v_add (v_lenS (val_var rfl) ((Lx.same s1).same s2)) (v_lenS (val_var rfl) ((Ly.same s1).same s2))) val_c) _ ⟨by show 2 ≤ sizeLine; decide, fun q hq => ⟨q, [0, (xs.length : Int) + (ys.length : Int) - 1], rfl, SqL.of upd_same, by show 0 < 2; decide, fun mx hm1 hm2 => ?_⟩⟩))))
  have s3 := Same.new' (o := .lst [.int 0, .int ((xs.length : Int) + (ys.length : Int) - 1)]) hq
  obtain rfl : mx = (N : Int) := by
    have h1 := hm2 0 (by simp)
    have h2 := hm2 ((xs.length : Int) + (ys.length : Int) - 1) (by simp)
    simp at hm1
    show mx = ((xs.length + ys.length - 1 : Nat) : Int)
    rcases hm1 with e | e <;> omega
  have hN : N ≤ 800 := by show xs.length + ys.length - 1 ≤ 800; omega
  refine ⟨z, (N : Int), [.ref t], rfl, rfl, s3 _ _ upd_same, by omega, by omega, Nat.le_trans (by show 1 * (N : Int).toNat ≤ 1000; omega) (show 1000 ≤ sizeLine by decide), fun f hf => ?_⟩
  have s4 := Same.new' (o := .lst (List.replicate (N : Int).toNat [V.ref t]).flatten) hf
  have fl : (List.replicate (N : Int).toNat [V.ref t]).flatten = List.replicate N (V.ref t) := by rw [Int.toNat_natCast, rep_flat]
  have A0 : Acc _ f N (fun _ => 0) := ⟨_, upd_same (o := .lst (List.replicate (N : Int).toNat [V.ref t]).flatten), by rw [fl, List.length_replicate], fun i v hv => by
    rw [fl, List.getElem?_replicate] at hv
    split at hv
    · cases hv
      exact ⟨t, rfl, s4 _ _ (s3 _ _ (s2 _ _ (show Lo _ t 0 from upd_same)))⟩
    · cases hv⟩
  have S := ((s1.trans s2).trans s3).trans s4
  have fH : H f = none := by
    cases h : H f with
    | none => rfl
    | some o => rw [((s1.trans s2).trans s3) _ _ h] at hf; cases hf
  revert A0 S
  generalize upd _ f (.lst (List.replicate (N : Int).toNat [V.ref t]).flatten) = H0
  intro A0 S
  refine q_forR1 (n := xs.length) (va_cons (v_lenS (val_var rfl) (Lx.same S)) va_nil) (by omega) (fun i σ H1 => ∃ z z', σ = [some (.ref l), some (.ref b), some (.ref f), z, z'] ∧ Same H H1 ∧ Acc H1 f N (fun t => rsum i (trm xs ys t))) ⟨_, _, rfl, S, A0⟩ (fun i σ H1 hi z => ?_) (fun σ H1 z => ?_)
  · obtain ⟨z, z', rfl, S1, A1⟩ := z
    refine g_name (st_forR1 (n := ys.length) (va_cons (v_lenS (val_var rfl) (Ly.same S1)) va_nil) (by omega) (fun k σ H2 => ∃ z', σ = [some (.ref l), some (.ref b), some (.ref f), some (.int (i : Int)), z'] ∧ Same H H2 ∧ Acc H2 f N (fun t => rsum i (trm xs ys t) + if i ≤ t ∧ t < i + k then co xs i * co ys (t - i) else 0))
      ⟨_, rfl, S1, A1.congr fun t _ => by rw [if_neg (by omega), Rat.add_zero]⟩ (fun k σ H2 hk z => ?_) (fun σ H2 z => ?_))
    · obtain ⟨z', rfl, S2, A2⟩ := z
      obtain ⟨ws, e1, e2, e3⟩ := A2
      have lj : i + k < N := by show i + k < xs.length + ys.length - 1; omega
      have gw : ws[i + k]? = some ws[i + k] := List.getElem?_eq_getElem (by omega)
      generalize ws[i + k] = v at gw
      obtain ⟨p, rfl, lo⟩ := e3 _ _ gw
      have lo : Lo H2 p (rsum i (trm xs ys (i + k)) + if i ≤ i + k ∧ i + k < i + k then co xs i * co ys (i + k - i) else 0) := lo
      rw [if_neg (by omega), Rat.add_zero] at lo
      obtain ⟨us, hu, alu⟩ := Lx.same S2
      obtain ⟨vs, hv, alv⟩ := Ly.same S2
      obtain ⟨u, gu⟩ : ∃ u, us[i]? = some u := ⟨_, List.getElem?_eq_getElem (by rw [alu.len]; exact hi)⟩
      obtain ⟨v, gv⟩ : ∃ v, vs[k]? = some v := ⟨_, List.getElem?_eq_getElem (by rw [alv.len]; exact hk)⟩
      obtain ⟨x, gx, px, rfl, lx⟩ := alu.get gu
      obtain ⟨y, gy, py, rfl, ly⟩ := alv.get gv
      have sx1 := sx x (get_mem gx)
      have sy1 := sy y (get_mem gy)
      have ei : (i : Int) + (k : Int) = ((i + k : Nat) : Int) := by omega
      have bd : (n + m + 1) * (i + 1) ≤ (n + m + 1) * xs.length := Nat.mul_le_mul_left _ (by omega)
      have bd' : (n + m + 1) * (i + 1) = (n + m + 1) * i + (n + m + 1) := Nat.mul_succ _ _
      refine g_name (call_1 ((v_ixL (n := i + k) (val_var rfl) (Val.is (v_add (val_var rfl) (val_var rfl)) (by rw [ei])) (SqL.of e1) gw) _ (va_1 (c_ltimes (va_cons (v_ixL (n := i) (val_var rfl) (val_var rfl) (SqL.of hu) gu) (va_cons (v_ixL (n := k) (val_var rfl) (val_var rfl) (SqL.of hv) gv) va_nil)) lx ly sx1 sy1 (by omega) (by omega) fun c H3 s3 lo3 => ?_))))
      refine s_lplus (lo.same s3) lo3 (rsum_sm (trm_sm sx sy n1 m1 _) i) (sx1.mul sy1) (by omega) (by omega) fun d H4 s4 lo4 => ?_
      have e4 := s4 _ _ (s3 _ _ e1)
      refine (val_var (v := .ref f) rfl) _ ((Val.is (v_add (val_var rfl) (val_var rfl)) (by rw [ei])) _ ⟨f, ws, _, i + k, rfl, rfl, e4, ixN_nat (by omega), ?_⟩)
      refine ⟨_, rfl, Same.updN ((S2.trans s3).trans s4) fH, ws.set (i + k) (.ref d), upd_same, by rw [List.length_set]; exact e2, fun t v hv => ?_⟩
      rw [List.getElem?_set] at hv
      split at hv
      · rename_i et
        subst et
        rw [if_pos (by omega)] at hv
        cases hv
        refine ⟨d, rfl, ?_⟩
        show Lo _ d (rsum i (trm xs ys (i + k)) + if i ≤ i + k ∧ i + k < i + (k + 1) then co xs i * co ys (i + k - i) else 0)
        rw [if_pos (by omega), co_some gx, Nat.add_sub_cancel_left, co_some gy]
        exact lo_upd e4 lo4
      · rename_i et
        obtain ⟨p', e', lo'⟩ := e3 t v hv
        refine ⟨p', e', ?_⟩
        have iff : (i ≤ t ∧ t < i + (k + 1)) ↔ (i ≤ t ∧ t < i + k) := by omega
        have lo2 := lo_upd (zs := ws.set (i + k) (.ref d)) e4 ((lo'.same s3).same s4)
        show Lo _ p' (rsum i (trm xs ys t) + if i ≤ t ∧ t < i + (k + 1) then co xs i * co ys (t - i) else 0)
        simp only [iff]
        exact lo2
    · obtain ⟨z', rfl, S2, A2⟩ := z
      refine ⟨_, _, rfl, S2, A2.congr fun t _ => ?_⟩
      show _ = rsum i (trm xs ys t) + trm xs ys t i
      unfold trm
      by_cases h1 : i ≤ t
      · rw [if_pos h1]
        by_cases h2 : t < i + ys.length
        · rw [if_pos ⟨h1, h2⟩]
        · rw [if_neg (by omega), co_none (xs := ys) (by omega), Rat.mul_zero]
      · rw [if_neg h1, if_neg (by omega)]
  · obtain ⟨z, z', rfl, S1, A1⟩ := z
    have L1 := A1.lst
    refine r_ret (te := tCall _ _ _ _) (c_call (va_cons (val_var rfl) va_nil) ⟨f, _, rfl, L1, by rw [List.length_map, List.length_range]; omega, fun l' H' s L' => k l' H' (S1.trans s) ?_⟩)
    have : trim ((List.range N).map fun t => rsum xs.length (trm xs ys t)) = pmul xs ys := by
      refine eq_of_co (tlen_ofN (n := N)) tlen_ofN fun i => ?_
      show co (ofN N fun t => rsum xs.length (trm xs ys t)) i = _
      unfold pmul
      rw [co_ofN, co_ofN, ← conv_trm]
      by_cases h1 : i < N
      · rw [if_pos h1, if_pos (by have : N = xs.length + ys.length - 1 := rfl; omega)]
      · rw [if_neg h1]
        split
        · exact (conv_zero (by have : N = xs.length + ys.length - 1 := rfl; omega)).symm
        · rfl
    rw [← this]
    exact L'
end
end LW

namespace LW
open PySem PySem.Spec PyProof.Rows L2 GL
section
variable {P : Program} {w : World} {K : PySem.W.Frag} {mg : Str → Option Value} {base : Heap}

/-! ### comprehensions that draw from the pen -/
section
variable {σ : L2.St} {H : Hp} {te ti : TE} {ta : TA} {vs : List Nat} {Q : VK} {a p c : Addr} {xs : List V} {R : Addr → Nat → V → Hp → Prop} {m k j : Nat}
def EB (p c : Addr) (te : TE) (σ : L2.St) (H : Hp) (m : Nat) (R : V → Hp → Prop) : Prop := ∀ Q : VK, (∀ v H', But p H H' → PenAt H' p c m → R v H' → Q v H') → te σ H Q
def BuS (R : Addr → Nat → V → Hp → Prop) : Prop := ∀ D i v H H' p c m, R D i v H → PenAt H p c m → But p H H' → R D i v H'
def OffD (R : Addr → Nat → V → Hp → Prop) : Prop := ∀ D i v H ys zs, R D i v H → H D = some (.lst ys) → R D i v (upd H D (.lst zs))
def LcB (R : Addr → Nat → V → Hp → Prop) (p c : Addr) (H : Hp) (m k : Nat) (D : Addr) (i : Nat) (H' : Hp) : Prop := ∃ ys, But p H H' ∧ PenAt H' p c (m + k * i) ∧ H' D = some (.lst ys) ∧ H D = none ∧ Run (R D) 0 ys H' ∧ ys.length = i
theorem Run.map {R S : Nat → V → Hp → Prop} {H H' : Hp} (f : ∀ k v, R k v H → S k v H') : ∀ {k : Nat} {xs : List V}, Run R k xs H → Run S k xs H'
  | _, [], _ => trivial
  | _, _ :: _, ⟨x, y⟩ => ⟨f _ _ x, Run.map f y⟩
theorem PenAt.updN {H H0 : Hp} {D : Addr} {ys zs : List V} {m0 : Nat} (P : PenAt H p c m) (P0 : PenAt H0 p c m0) (n0 : H0 D = none) (e : H D = some (.lst ys)) : PenAt (upd H D (.lst zs)) p c m := by
  obtain ⟨kvs, hd⟩ := P.dk
  obtain ⟨_, _, _, _, ns, _, hc, _⟩ := P0
  refine P.off (fun o h => ?_) (fun o h => ?_)
  · rw [upd_ne (ne_of hd e (by intro z; cases z))]
    exact h
  · rw [upd_ne (ne_of_none hc n0)]
    exact h
theorem lcB_0 {D : Addr} (P0 : PenAt H p c m) (hD : H D = none) : LcB R p c H m k D 0 (upd H D (.lst [])) := ⟨[], But.of (Same.new' hD), P0.same (Same.new' hD), upd_same, hD, trivial, rfl⟩
theorem lcB_step (bu : BuS R) (of : OffD R) {x : V} {i : Nat} {D : Addr} {H1 : Hp} (P0 : PenAt H p c m) (b : LcB R p c H m k D i H1) (hn : i < 10000) (hw : wipe ((wipe σ vs).set j (some x)) vs = wipe σ vs)
    (ht : But p H H1 → PenAt H1 p c (m + k * i) → H D = none → (∃ ys, H1 D = some (.lst ys)) → EB p c te ((wipe σ vs).set j (some x)) H1 (m + k * (i + 1)) (R D i)) :
    gName j x (wipe σ vs) H1 fun σ2 H2 => wipe σ2 vs = wipe σ vs ∧ tYes σ2 H2 fun b H3 => if b = true then te σ2 H3 fun y H4 => ∃ acc, H4 D = some (.lst acc) ∧ acc.length < sizeLine ∧ LcB R p c H m k D (i + 1) (upd H4 D (.lst (acc ++ [y]))) else LcB R p c H m k D (i + 1) H3 := by
  obtain ⟨ys, bb, P, eD, nD, r, len⟩ := b
  refine g_name ⟨hw, ?_⟩
  show (if true = true then te _ _ _ else LcB R p c H m k D (i + 1) H1)
  rw [if_pos rfl]
  refine ht bb P nD ⟨ys, eD⟩ _ fun v H4 b4 P4 rv => ?_
  obtain ⟨kvs, hd⟩ := P.dk
  have e4 := b4 _ _ eD (ne_of eD hd (by intro z; cases z))
  refine ⟨ys, e4, by rw [len]; exact Nat.lt_of_lt_of_le hn (by decide), ys ++ [v], fun b o z hb => ?_, P4.updN P0 nD e4, upd_same, nD, ?_, by rw [List.length_append, len]; rfl⟩
  · rw [upd_ne (ne_of_none z nD)]
    exact b4 _ _ (bb _ _ z hb) hb
  · refine Run.map (fun k v h => of D k v _ _ _ h e4) (Run.app (Run.map (fun k v h => bu D k v _ _ _ _ _ h P b4) r) ⟨?_, trivial⟩)
    rw [len, Nat.zero_add]
    exact rv
theorem l_lcBL (bu : BuS R) (of : OffD R) (P0 : PenAt H p c m) (h : Val ti σ H (.ref a)) (hx : SqL K H a xs) (hn : xs.length ≤ 10000) (hw : ∀ x, wipe ((wipe σ vs).set j (some x)) vs = wipe σ vs)
    (hs : ∀ D i x H1, xs[i]? = some x → But p H H1 → PenAt H1 p c (m + k * i) → H D = none → (∃ ys, H1 D = some (.lst ys)) → EB p c te ((wipe σ vs).set j (some x)) H1 (m + k * (i + 1)) (R D i))
    (q : ∀ D ys H', But p H H' → PenAt H' p c (m + k * xs.length) → H D = none → H' D = some (.lst ys) → Run (R D) 0 ys H' → ys.length = xs.length → Q (.ref D) H') : tLc (iList K ti) (gName j) tYes te vs σ H Q := by
  obtain ⟨kvs, hd⟩ := P0.dk
  exact h _ ⟨a, rfl, ⟨xs, hx⟩, fun D hD => lc_list (K := K) (a := a) (xs := xs) (LcB R p c H m k D) (lcB_0 P0 hD) (fun i H1 _ b => b.choose_spec.1.seq hd hx) (fun i x H1 e b => lcB_step bu of P0 b (by
    have := (List.getElem?_eq_some_iff.mp e).1
    omega) (hw x) (hs D i x H1 e)) (fun H1 ⟨ys, b, P, e, nD, r, l⟩ => q D ys H1 b P nD e r l)⟩
theorem rngB (bu : BuS R) (of : OffD R) (P0 : PenAt H p c m) {n : Int} (h0 : 0 ≤ n) (hn : n ≤ 10000) (hw : ∀ x, wipe ((wipe σ vs).set j (some x)) vs = wipe σ vs)
    (hs : ∀ D i x H1, i < n.toNat → But p H H1 → PenAt H1 p c (m + k * i) → H D = none → (∃ ys, H1 D = some (.lst ys)) → EB p c te ((wipe σ vs).set j (some x)) H1 (m + k * (i + 1)) (R D i))
    (q : ∀ D ys H', But p H H' → PenAt H' p c (m + k * n.toNat) → H D = none → H' D = some (.lst ys) → Run (R D) 0 ys H' → ys.length = n.toNat → Q (.ref D) H') : tLc (fun _ H R => R (Itr 0 n.toNat) H) (gName j) tYes te vs σ H Q :=
  fun D hD => lc_range (lo := 0) (n := n.toNat) (LcB R p c H m k D) (lcB_0 P0 hD) (fun i H1 hi b => lcB_step bu of P0 b (by omega) (hw _) (hs D i _ H1 hi)) (fun H1 ⟨ys, b, P, e, nD, r, l⟩ => q D ys H1 b P nD e r l)
theorem l_rngU {g : TG} {tt : TT} (h : ta σ H fun ws H1 => ∃ j : Int, ws = [.int j] ∧ -(2 ^ 62) ≤ j ∧ j < 2 ^ 62 ∧ tLc (fun _ H R => R (Itr 0 j.toNat) H) g tt te vs σ H1 Q) : tLc (iRng1 ta) g tt te vs σ H Q := h
end

theorem Rq.but {H H' : Hp} {p c : Addr} {m : Nat} {v : V} {q : Rat} (h : Rq H v q) (P : PenAt H p c m) (b : But p H H') : Rq H' v q := by
  obtain ⟨kvs, hd⟩ := P.dk
  obtain ⟨i, j, r, f, e⟩ := h
  refine ⟨i, j, ?_, f, e⟩
  cases r with
  | int i => exact .int i
  | pair h hj =>
    refine .pair ?_ hj
    rcases h with h | h
    · exact .inl (b _ _ h (ne_of h hd (by intro z; cases z)))
    · exact .inr (b _ _ h (ne_of h hd (by intro z; cases z)))
/-- numbers as the law draws them -/
def Fin (q : Rat) : Prop := q.num.natAbs ≤ 10 ^ 18 ∧ q.den ≤ 10 ^ 18
theorem Lo.low {H : Hp} {t : Addr} {q : Rat} (h : Lo H t q) (f : Fin q) : Low H t q.num (q.den : Int) := by
  have d := q.den_pos
  refine ⟨h, by omega, ?_, f.1, by have := f.2; omega⟩
  unfold gI
  rw [Int.natAbs_natCast]
  exact congrArg Nat.cast q.reduced
theorem c_passed {H : Hp} {p c t : Addr} {m : Nat} {q : Rat} {ta : TA} {σ : L2.St} {Q : VK} {E : XK} (h : VA ta σ H [.ref p, .ref t]) (P : PenAt H p c m) (hm : m + 3 < most) (lo : Lo H t q) (f : Fin q) (k : ∀ v H', But p H H' → PenAt H' p c (m + 3) → Rq H' v q → (∀ x, v = .ref x → H x = none) → Q v H') : tCall spPassed [] E ta σ H Q :=
  c_call h ⟨p, c, t, m, _, _, rfl, P, hm, lo.low f, fun v H' s s0 s3 r fr b P' => k v H' b P' ⟨_, _, r, by
    have d := q.den_pos
    have h1 := f.1
    have h2 := f.2
    have b1 : (3 * 10 ^ 18 : Nat) < 2 ^ 1000 := Nat.lt_of_lt_of_le (show 3 * 10 ^ 18 < 2 ^ 62 by decide) (Nat.pow_le_pow_right (by decide) (by decide))
    constructor
    · rw [Int.natAbs_mul]
      exact Nat.lt_of_le_of_lt (Nat.mul_le_mul h1 (show s.natAbs ≤ 3 by omega)) (by omega)
    · rw [Int.natAbs_mul, Int.natAbs_natCast]
      exact Nat.lt_of_le_of_lt (Nat.mul_le_mul h2 (show s.natAbs ≤ 3 by omega)) (by omega), by
    rw [Rat.divInt_mul_right (by omega), Rat.divInt_ofNat, Rat.mkRat_self]⟩ fr⟩
def Fins (xs : List Rat) : Prop := ∀ q ∈ xs, Fin q
theorem rq_bu (f : Nat → Rat) : BuS (fun _ i v H => Rq H v (f i)) := fun D i v H H' p c m r P b => r.but P b
/-- what passed gives stands apart from the list under way -/
def RqD (f : Nat → Rat) (D : Addr) (i : Nat) (v : V) (H : Hp) : Prop := Rq H v (f i) ∧ v ≠ .ref D
theorem rqd_bu (f : Nat → Rat) : BuS (RqD f) := fun D i v H H' p c m r P b => ⟨r.1.but P b, r.2⟩
theorem rqd_off (f : Nat → Rat) : OffD (RqD f) := fun D i v H ys zs r e => by
  obtain ⟨⟨x, y, rt, ft, eq⟩, n⟩ := r
  refine ⟨⟨x, y, ?_, ft, eq⟩, n⟩
  cases rt with
  | int => exact .int _
  | @pair a _ _ h hj =>
    have na : a ≠ D := fun z => n (by rw [z])
    refine .pair ?_ hj
    rcases h with h | h
    · exact .inl (by rw [upd_ne na]; exact h)
    · exact .inr (by rw [upd_ne na]; exact h)

/-! ### polynomials as the law makes them -/
def spDrawn : Sp := fun vs H Q _ => ∃ (p c : Addr) (m d k : Nat), vs = [.ref p, .int (d : Int), .int (k : Int)] ∧ PenAt H p c m ∧ d ≤ 5 ∧ m + 20 < most ∧ 1 ≤ k ∧ k ≤ 9 ∧ ∀ (l : Addr) (H' : Hp) (xs : List Rat), Lst H' l xs → Sms 10 xs → xs.length ≤ d + 1 → tlen xs = xs.length → But p H H' → PenAt H' p c (m + 20) → Q (.ref l) H'
theorem ok_law_drawn (T : Txt K mg) : FnOk P w K mg base CX0 6 (fA mg "_law_drawn") (fDat K (fA mg "_law_drawn")) ["_law_pen_here", "_law_degree", "_law_most"] spDrawn := by
  have G_law_draw := ok_draw (P := P) (w := w) (base := base) T._law_draw.F T
  have G_law_poly := ok_law_poly (P := P) (w := w) (base := base) T
  have G_law_ratio := ok_law_ratio (P := P) (w := w) (base := base) T
  refine T._law_drawn.F.ok sc_law_drawn (fun vs H Q E h => ?_) (fun cdv A outer s H vs Q E hr h => ?_)
  · obtain ⟨p, c, m, d, k, rfl, _⟩ := h
    rfl
  obtain ⟨p, c, m, d, k, rfl, hP, hd, hm, k1, k9, z⟩ := h
  refine ⟨_, (pss_one (ps_ret (pe_c T._law_poly G_law_poly (hr.mono (by decide)) (pa_cons (pe_lc (own := [("_law_k", 3)]) (g := gName 3) (tt := tYes) (by rfl) sc_law_drawn.nd (pi_range1 (by rfl) T.range (pa_cons (pe_op op_add pe_int (pe_c T._law_draw G_law_draw (hr.mono (by decide)) (pa_cons (pv 0) (pa_cons (pe_op op_add (pv 1) pe_int) pa_nil)))) pa_nil)) (blkOk_by (own := [("_law_k", 3)]) (N := ["_law_pen_here", "_law_degree", "_law_most", "_law_k"]) (sc := defScope s_law_drawn) (by decide +kernel)) (fun _ _ _ _ _ => pg_name (i := 3) sc_law_drawn.nd rfl (Or.inl rfl)) (fun _ _ _ _ _ => pts_nil) (fun _ _ _ _ _ => (pe_c T._law_ratio G_law_ratio (hr.mono (by decide)) (pa_cons (pv 0) (pa_cons (pv 2) pa_nil))))) pa_nil)))), ?_⟩
  refine r_ret (te := tCall _ _ _ _) (va_1 (l_rngU (va_1 (op_l val_c (c_call (va_cons (val_var rfl) (va_cons (v_add (val_var rfl) val_c) va_nil)) ⟨p, c, (d : Int) + 1, m, rfl, hP, by omega, by omega, by omega, fun r H1 r0 r1 b1 P1 => ⟨1, r, rfl, rfl, 1 + r, rfl, by omega, by omega, ?_⟩⟩)))))
  refine rngB (k := 3) (R := fun D i v H => ∃ t q, v = .ref t ∧ Lo H t q ∧ Sm 10 q) (fun D i v H H' p c m ⟨t, q, e, lo, sm⟩ P b => ⟨t, q, e, b.lo P lo, sm⟩) (fun D i v H ys zs ⟨t, q, e, lo, sm⟩ h => ⟨t, q, e, lo_upd h lo, sm⟩) P1 (by omega) (by omega) (fun _ => rfl) (fun D i x H2 hi b2 P2 _ _ => fun Q q => ?_) (fun D ys H2 b2 P2 nD e2 r2 l2 => ?_)
  · exact c_call (va_cons (val_var rfl) (va_cons (val_var rfl) va_nil)) ⟨p, c, _, k, rfl, P2, by omega, k1, k9, fun t H3 q3 lo sm b3 P3 => q _ H3 b3 (P3.le (by omega)) ⟨t, q3, rfl, lo, sm⟩⟩
  · have key : ∀ {ys : List V} {k : Nat}, Run (fun i v H => ∃ t q, v = .ref t ∧ Lo H t q ∧ Sm 10 q) k ys H2 → ∃ xs, All2 (fun v q => ∃ p, v = .ref p ∧ Lo H2 p q) ys xs ∧ Sms 10 xs := fun {ys} => by
      induction ys with
      | nil => exact fun _ => ⟨[], .nil, fun _ h => nomatch h⟩
      | cons y ys ih =>
        intro k ⟨⟨t, q, e, lo, sm⟩, h⟩
        obtain ⟨xs, al, s⟩ := ih h
        refine ⟨q :: xs, .cons ⟨t, e, lo⟩ al, fun q' hq => ?_⟩
        rcases List.mem_cons.mp hq with rfl | h
        · exact sm
        · exact s _ h
    obtain ⟨xs, al, sm⟩ := key r2
    have len := al.len
    refine ⟨D, xs, rfl, ⟨ys, e2, al⟩, by omega, fun l' H' s L => z l' H' _ L sm.trim ?_ (tlen_trim _) ((b1.trans b2).trans (But.of s)) ((P2.le ?_).same s)⟩
    · have := tlen_le xs
      rw [trim_len]
      omega
    · omega
theorem Sm.fin {q : Rat} (h : Sm 59 q) : Fin q := by
  have h1 := h.1
  have h2 := h.2
  have : (2 : Nat) ^ 59 < 10 ^ 18 := by decide
  exact ⟨by omega, by omega⟩
theorem run_rq {xs : List Rat} {D : Addr} {ys : List V} {H : Hp} (r : Run (RqD (co xs) D) 0 ys H) (l : ys.length = xs.length) : All2 (Rq H) ys xs := All2.mk l fun i v q hv hq => by
  have h := (r.get hv).1
  rw [Nat.zero_add, co_some hq] at h
  exact h
theorem pad_rq {H : Hp} {vs : List V} {xs : List Rat} (al : All2 (Rq H) vs xs) {k : Nat} : All2 (Rq H) (vs ++ List.replicate k (V.int 0)) (xs ++ List.replicate k 0) := by
  have rep : ∀ k, All2 (Rq H) (List.replicate k (V.int 0)) (List.replicate k (0 : Rat)) := fun k => by
    induction k with
    | zero => exact .nil
    | succ k ih => exact .cons ⟨0, 1, .int 0, ⟨Nat.two_pow_pos _, Nat.one_lt_two_pow (by decide)⟩, by decide⟩ ih
  induction al with
  | nil => exact rep k
  | cons h _ ih => exact .cons h ih
theorem trim_pad (xs : List Rat) (k : Nat) : trim (xs ++ List.replicate k 0) = trim xs := eq_of_co (tlen_trim _) (tlen_trim _) fun i => by
  rw [co_trim, co_trim]
  cases h : (xs ++ List.replicate k 0)[i]? with
  | some q => rw [co_some h]; exact co_pad _ _ _ _ h
  | none =>
    have h1 := List.getElem?_eq_none_iff.mp h
    rw [co_none h1, co_none (by rw [List.length_append] at h1; omega)]
def spMadeP (mg : Str → Option Value) : Sp := fun vs H Q _ => ∃ (p c l : Addr) (m : Nat) (xs : List Rat), vs = [.ref p, .ref l] ∧ PenAt H p c m ∧ m + 60 < most ∧ Lst H l xs ∧ Fins xs ∧ xs.length ≤ 12 ∧ ∀ (a : Addr) (H' : Hp), PoAt (poA mg) H' a (trim xs) → But p H H' → PenAt H' p c (m + 60) → Q (.ref a) H'
theorem ok_made_poly (T : Txt K mg) (TP : PolyT K mg) : FnOk P w K mg base CX0 9 (fA mg "_law_made_poly") (fDat K (fA mg "_law_made_poly")) ["_law_pen_here", "_law_one"] (spMadeP mg) := by
  have G_law_draw := ok_draw (P := P) (w := w) (base := base) T._law_draw.F T
  have G_law_pick := ok_pick (P := P) (w := w) (base := base) T
  have G_law_passed := ok_passed (P := P) (w := w) (base := base) T
  have GPoly_init := ok_Poly_init (P := P) (w := w) (base := base) T TP
  refine T._law_made_poly.F.ok sc_law_made_poly (fun vs H Q E h => ?_) (fun cdv A outer s H vs Q E hr h => ?_)
  · obtain ⟨p, c, l, m, xs, rfl, _⟩ := h
    rfl
  obtain ⟨p, c, l, m, xs, rfl, hP, hm, ⟨vs, hl, al⟩, fin, hx, z⟩ := h
  refine ⟨_, (pss_cons (ps_set (i := 2) sc_law_made_poly.nd rfl (Or.inl rfl) (pe_op op_cat (pe_lc (own := [("_law_number", 3)]) (g := gName 3) (tt := tYes) (by rfl) sc_law_made_poly.nd (pi_list (pv 1)) (blkOk_by (own := [("_law_number", 3)]) (N := ["_law_pen_here", "_law_one", "_law_numbers", "_law_number"]) (sc := defScope s_law_made_poly) (by decide +kernel)) (fun _ _ _ _ _ => pg_name (i := 3) sc_law_made_poly.nd rfl (Or.inl rfl)) (fun _ _ _ _ _ => pts_nil) (fun _ _ _ _ _ => (pe_c T._law_passed G_law_passed (hr.mono (by decide)) (pa_cons (pv 0) (pa_cons (pv 3) pa_nil))))) (pe_op op_rep (pe_lst (pa_cons pe_int pa_nil)) (pe_c T._law_draw G_law_draw (hr.mono (by decide)) (pa_cons (pv 0) (pa_cons pe_int pa_nil))))))
  (pss_one (ps_ret (pe_make TP.mkc GPoly_init (hr.mono (by decide)) (by rfl) TP.g TP.m_init.b .nil passL (pa_cons (pe_c T._law_pick G_law_pick (hr.mono (by decide)) (pa_cons (pv 0) (pa_cons (pe_lst (pa_cons (pe_callTy call_tuple_of (by rfl) T.tuple (by decide +kernel) (pa_cons (pv 2) pa_nil)) (pa_cons (pv 2) pa_nil))) pa_nil))) pa_nil))))), ?_⟩
  have len := al.len
  refine q_asg (op_l' (l_lcBL (k := 3) (R := RqD (co xs)) (rqd_bu _) (rqd_off _) hP (val_var rfl) (SqL.of hl) (by omega) (fun _ => rfl) (fun D i x H1 hx b1 P1 nD eD => fun Q q => ?_) (fun D ys H1 b1 P1 nD e1 r1 l1 => ?_)))
  · obtain ⟨q0, hq, t, rfl, lo⟩ := al.get hx
    have hi : i < xs.length := (List.getElem?_eq_some_iff.mp hq).1
    refine c_passed (va_cons (val_var rfl) (va_cons (val_var rfl) va_nil)) P1 (by omega) (b1.lo hP lo) (fin q0 (get_mem hq)) fun v H2 b2 P2 rq fr => q v H2 b2 (P2.le (by omega)) ⟨by rw [co_some hq]; exact rq, ?_⟩
    intro z
    obtain ⟨ys, eD⟩ := eD
    have := fr D z
    rw [eD] at this
    cases this
  · refine l_s (va_1 (val_c _ ⟨by show 1 ≤ sizeLine; decide, fun z1 hz1 => ?_⟩))
    have s1 := Same.new' (o := .lst [.int 0]) hz1
    refine c_call (va_cons (val_var rfl) (va_cons val_c va_nil)) ⟨p, c, 2, _, rfl, P1.same s1, by omega, by decide, by decide, fun r H2 r0 r1' b2 P2 => ?_⟩
    obtain ⟨kvs, hd⟩ := P1.dk
    have e1' := b2 _ _ (s1 _ _ e1) (ne_of e1 hd (by intro z; cases z))
    have z1' := b2 _ _ upd_same (Ne.symm (ne_of_none hd hz1))
    obtain ⟨k, rfl⟩ : ∃ k : Nat, r = k := ⟨r.toNat, by omega⟩
    refine ⟨z1, (k : Int), [.int 0], rfl, rfl, z1', by omega, by omega, Nat.le_trans (by show 1 * (k : Int).toNat ≤ 1000; omega) (show 1000 ≤ sizeLine by decide), fun w hw => ?_⟩
    have fl : (List.replicate (k : Int).toNat [V.int 0]).flatten = List.replicate k (V.int 0) := by rw [Int.toNat_natCast, rep_flat]
    rw [fl]
    have s3 := Same.new' (o := .lst (List.replicate k (V.int 0))) hw
    refine ⟨D, w, ys, List.replicate k (V.int 0), rfl, rfl, s3 _ _ e1', upd_same, Nat.le_trans (by show ys.length + (List.replicate k (V.int 0)).length ≤ 1000; rw [List.length_replicate]; omega) (show 1000 ≤ sizeLine by decide), fun n hn => ?_⟩
    have s4 := Same.new' (o := .lst (ys ++ List.replicate k (V.int 0))) hn
    have BB := (((b1.trans (But.of s1)).trans b2).trans (But.of s3)).trans (But.of s4)
    have P4 := (P2.same s3).same s4
    have al1 := run_rq r1 (by rw [l1, len])
    have al4 : All2 (Rq (upd (upd H2 w (.lst (List.replicate k (V.int 0)))) n (.lst (ys ++ List.replicate k (V.int 0))))) (ys ++ List.replicate k (V.int 0)) (xs ++ List.replicate k 0) := pad_rq (al1.imp fun v q h => (((h.same s1).but (P1.same s1) b2).same s3).same s4)
    have en := upd_same (H := upd H2 w (.lst (List.replicate k (V.int 0)))) (a := n) (o := .lst (ys ++ List.replicate k (V.int 0)))
    revert BB P4 al4 en
    generalize upd (upd H2 w (.lst (List.replicate k (V.int 0)))) n (.lst (ys ++ List.replicate k (V.int 0))) = H4
    generalize ew : ys ++ List.replicate k (V.int 0) = ws
    intro BB P4 al4 en
    have lw : ws.length ≤ 100 := by rw [← ew, List.length_append, List.length_replicate]; omega
    refine r_ret (va_1 (call_1 ((val_var rfl) _ (va_1 (l_two ((va_cons (val_var rfl) va_nil) _ ⟨n, ws, rfl, .inl ⟨SqL.of en, fun t ht => (val_var rfl) _ ⟨by show 2 ≤ sizeLine; decide, fun q hq => ?_⟩⟩⟩))))))
    have s5 := Same.new' (o := .tup ws) ht
    have s6 := Same.new' (o := .lst [.ref t, .ref n]) hq
    have P6 := (P4.same s5).same s6
    refine ⟨p, c, q, _, _, rfl, P6, by omega, SqL.of upd_same, by show 0 < 2; decide, by show 2 < 1000000000; decide, fun v H7 hv b7 P7 => ?_⟩
    have al7 := al4.imp fun v q h => ((h.same s5).same s6).but P6 b7
    obtain ⟨kvs6, hd6⟩ := P6.dk
    have last : ∀ a H8, Same H7 H8 → PoAt (poA mg) H8 a (trim (xs ++ List.replicate k 0)) → Q (.ref a) H8 := fun a H8 s8 po => z a H8 (by rw [← trim_pad xs k]; exact po) (((BB.trans (But.of (s5.trans s6))).trans b7).trans (But.of s8)) ((P7.same s8).le (by omega))
    rcases List.mem_cons.mp hv with rfl | hv
    · exact made_poly (.inr (b7 _ _ (s6 _ _ upd_same) (ne_of (s6 _ _ upd_same) hd6 (by intro z; cases z)))) (by omega) al7 last
    · rcases List.mem_cons.mp hv with rfl | hv
      · exact made_poly (.inl (b7 _ _ (s6 _ _ (s5 _ _ en)) (ne_of (s6 _ _ (s5 _ _ en)) hd6 (by intro z; cases z)))) (by omega) al7 last
      · cases hv
end
end LW

namespace LW
open PySem PySem.Spec PyProof.Rows L2 GL
section
variable {P : Program} {w : World} {K : PySem.W.Frag} {mg : Str → Option Value} {base : Heap}

/-! ### heaps without their tables -/
def bareH (H : Hp) : Hp := fun b => match H b with
  | some (.tbl _) => none
  | o => o
def NoTab (S : Hp) : Prop := ∀ b ps, S b ≠ some (.tbl ps)
theorem bare_at {H : Hp} {b : Addr} {o : HO} (h : H b = some o) (n : ∀ ps, o ≠ .tbl ps) : bareH H b = some o := by
  unfold bareH
  rw [h]
  cases o with
  | tbl ps => exact (n ps rfl).elim
  | _ => rfl
theorem bare_of {H : Hp} {b : Addr} {o : HO} (h : bareH H b = some o) : H b = some o ∧ ∀ ps, o ≠ .tbl ps := by
  unfold bareH at h
  split at h
  · cases h
  · rename_i o' e
    exact ⟨h, fun ps z => e ps (by rw [h, z])⟩
theorem bare_no (H : Hp) : NoTab (bareH H) := fun b ps z => (bare_of z).2 ps rfl
theorem bare_in (H : Hp) : Same (bareH H) H := fun b o h => (bare_of h).1
theorem ext_same {S H H1 : Hp} (n : NoTab S) (s : Same S H) (x : LamX.ExtN H H1) : Same S H1 := fun b o h => x b o (s b o h) fun ps z => n b ps (by rw [h, z])
theorem same_bare {S H : Hp} (n : NoTab S) (s : Same S H) : Same S (bareH H) := fun b o h => bare_at (s b o h) fun ps z => n b ps (by rw [h, z])
theorem Fine.same {H H' : Hp} {v : V} {d : PyData} (f : Fine K H v d) (s : Same H H') : Fine K H' v d := ⟨Dd.same s _ _ f.1, f.2⟩
theorem Tabs.but {T : List (Addr × Str)} {H H' : Hp} {p c : Addr} {m : Nat} (t : LamX.Tabs T H) (P : PenAt H p c m) (b : But p H H') : LamX.Tabs T H' := by
  obtain ⟨kvs, hd⟩ := P.dk
  intro q hq
  obtain ⟨ps, h1, h2, h3⟩ := t q hq
  refine ⟨ps, b _ _ h1 (fun z => by rw [z, hd] at h1; cases h1), h2, fun pos cv e => ?_⟩
  obtain ⟨c', e1, e2⟩ := h3 pos cv e
  exact ⟨c', e1, b _ _ e2 (fun z => by rw [z, hd] at e2; unfold LamX.CodeO at e2; cases e2)⟩
theorem Tabs.same {T : List (Addr × Str)} {H H' : Hp} (t : LamX.Tabs T H) (s : Same H H') : LamX.Tabs T H' := t.ext s
/-! ### what bare heaps still know -/
theorem PenAt.bare {H : Hp} {p c : Addr} {m : Nat} (h : PenAt H p c m) : PenAt (bareH H) p c m := h.off (fun o e => by
  obtain ⟨kvs, hd⟩ := h.dk
  rw [hd] at e
  cases e
  exact bare_at hd (fun ps z => by cases z)) (fun o e => by
  obtain ⟨a, d, n, f, ns, _, hc, _⟩ := h
  rw [hc] at e
  cases e
  exact bare_at hc (fun ps z => by cases z))
theorem Sq.bare {H : Hp} {a : Addr} {xs : List V} (h : Sq H a xs) : Sq (bareH H) a xs := h.elim (fun z => .inl (bare_at z fun _ e => by cases e)) fun z => .inr (bare_at z fun _ e => by cases e)
theorem Rt.bare {H : Hp} {v : V} {i j : Int} (h : Rt H v i j) : Rt (bareH H) v i j := by
  cases h with
  | int i => exact .int i
  | pair h p => exact .pair h.bare p
theorem Odd.bare {H : Hp} {v : V} (g : Odd H v) : Odd (bareH H) v := by
  cases g with
  | non => exact .non
  | bl => exact .bl
  | str => exact .str
  | tup e h => exact .tup (bare_at e fun _ z => by cases z) h
  | lst e h => exact .lst (bare_at e fun _ z => by cases z) h
  | dic e => exact .dic (bare_at e fun _ z => by cases z)
  | nest e e2 => exact .nest (bare_at e fun _ z => by cases z) (bare_at e2 fun _ z => by cases z)
theorem Rt.but' {H H' : Hp} {v : V} {i j : Int} {p c : Addr} {m : Nat} (g : Rt H v i j) (P : PenAt H p c m) (b : But p H H') : Rt H' v i j := by
  obtain ⟨kvs, hd⟩ := P.dk
  cases g with
  | int i => exact .int i
  | pair h q => exact .pair (h.elim (fun e => .inl (b _ _ e fun z => by rw [z, hd] at e; cases e)) fun e => .inr (b _ _ e fun z => by rw [z, hd] at e; cases e)) q
/-! ### the error of a lambda's call -/
section
variable {S H : Hp} {σ : L2.St} {v : V} {d : PyData} {T : List (Addr × Str)} {te : XK → TE}
theorem l_why {wh : Str} {Q : VK} (nt : NoTab S) (s : Same S H) (hT : LamX.Tabs T H) (f : Fine K S v d) (h : ∀ (H1 : Hp) (E : XK) (Q1 : VK), Same S H1 → Bad mg H1 (.str wh) v E → te E σ H1 Q1)
    (q : ∀ p H2, Same S H2 → LamX.Tabs T H2 → H2 p = some (.tup [.str "number", .str wh, .str d.shown]) → Q (.ref p) H2) : LamX.tLam T (TTwhy K mg) te σ H Q := by
  refine ⟨hT, fun H1 x T1 => ?_⟩
  have s1 := ext_same nt s x
  refine h H1 _ _ s1 fun a H2 s2 _ e => ?_
  exact .inl ⟨rfl, a, v, .str wh, d, rfl, e, f.same (s1.trans s2), fun p H3 s3 e3 => q p H3 ((s1.trans s2).trans s3) (T1.ext fun b o z => s3 b o (s2 b o z)) e3⟩
theorem shaped3 {a b c : Str} (ha : PyData.strOk a = true) (hb : PyData.strOk b = true) (hc : PyData.strOk c = true) : SeqAt.shaped (.tuple [.str a, .str b, .str c]) = true := by
  simp [SeqAt.shaped, PyData.canLay0, PyData.canLayAll0, PyData.depth, PyData.depthAll, ha, hb, hc]
theorem eqv3 (a b c : Str) : PyData.eqv (.tuple [.str a, .str b, .str c]) (.tuple [.str a, .str b, .str c]) = true := by
  simp [PyData.eqv, PyData.eqvAll]
theorem op_in {r : R2} {ta tb : TE} {Q : VK} (h : ta σ H fun x H1 => tb σ H1 fun y H2 => r x y H2 Q) : tOp r ta tb σ H Q := h
theorem dp3 {H : Hp} {p : Addr} {a b c : Str} (h : H p = some (.tup [.str a, .str b, .str c])) : Dp K H (.ref p) (.tuple [.str a, .str b, .str c]) := .tup (SqT.of h) (.cons (.str _) (.cons (.str _) (.cons (.str _) .nil)))
theorem why_row {r : R2} {wh : Str} {Q : VK} {i : Nat} (hi : σ[i]? = some (some v)) (nt : NoTab S) (s : Same S H) (hT : LamX.Tabs T H) (f : Fine K S v d) (h : ∀ (H1 : Hp) (E : XK) (Q1 : VK), Same S H1 → Bad mg H1 (.str wh) v E → te E σ H1 Q1)
    (q : ∀ p b H2, Same S H2 → LamX.Tabs T H2 → H2 p = some (.tup [.str "number", .str wh, .str d.shown]) → H2 b = some (.tup [.str "number", .str wh, .str d.shown]) → r (.ref p) (.ref b) H2 Q) :
    tOp r (LamX.tLam T (TTwhy K mg) te) (tTup (tCons (tC (.str "number")) (tCons (tC (.str wh)) (tCons (tCB (rShow K) (tCons (tVar i) tNil)) tNil)))) σ H Q := by
  refine op_in (l_why nt s hT f h fun p H2 s2 T2 e2 => ?_)
  have f2 := f.same s2
  refine l_tup (va_cons val_c (va_cons val_c (va_cons (v_show (val_var hi) f2.1 f2.2.1 (Nat.le_trans f2.2.2.1 (by decide)) (Nat.le_trans f2.2.2.2.1 (by decide))) va_nil))) (by show 3 ≤ 100000; decide) fun b hb => ?_
  exact q p b _ (s2.trans (Same.new' hb)) (Tabs.same T2 (Same.new' hb)) ((Same.new' hb) _ _ e2) upd_same
theorem why_ne {wh : Str} {Q : VK} {i : Nat} (hw : PyData.strOk wh = true) (hi : σ[i]? = some (some v)) (nt : NoTab S) (s : Same S H) (hT : LamX.Tabs T H) (f : Fine K S v d) (h : ∀ (H1 : Hp) (E : XK) (Q1 : VK), Same S H1 → Bad mg H1 (.str wh) v E → te E σ H1 Q1)
    (q : ∀ H2, Same S H2 → LamX.Tabs T H2 → Q (.bl false) H2) : tOp (rNeD K) (LamX.tLam T (TTwhy K mg) te) (tTup (tCons (tC (.str "number")) (tCons (tC (.str wh)) (tCons (tCB (rShow K) (tCons (tVar i) tNil)) tNil)))) σ H Q :=
  why_row hi nt s hT f h fun p b H2 s2 T2 e1 e2 => ⟨_, _, dp3 e1, dp3 e2, shaped3 (by decide +kernel) hw f.2.2.2.2, shaped3 (by decide +kernel) hw f.2.2.2.2, by rw [eqv3]; exact q H2 s2 T2⟩
theorem why_eq {wh : Str} {Q : VK} {i : Nat} (hw : PyData.strOk wh = true) (hi : σ[i]? = some (some v)) (nt : NoTab S) (s : Same S H) (hT : LamX.Tabs T H) (f : Fine K S v d) (h : ∀ (H1 : Hp) (E : XK) (Q1 : VK), Same S H1 → Bad mg H1 (.str wh) v E → te E σ H1 Q1)
    (q : ∀ H2, Same S H2 → LamX.Tabs T H2 → Q (.bl true) H2) : tOp (rEqD K) (LamX.tLam T (TTwhy K mg) te) (tTup (tCons (tC (.str "number")) (tCons (tC (.str wh)) (tCons (tCB (rShow K) (tCons (tVar i) tNil)) tNil)))) σ H Q :=
  why_row hi nt s hT f h fun p b H2 s2 T2 e1 e2 => ⟨_, _, dp3 e1, dp3 e2, shaped3 (by decide +kernel) hw f.2.2.2.2, shaped3 (by decide +kernel) hw f.2.2.2.2, by rw [eqv3]; exact q H2 s2 T2⟩
end
theorem lam_mem {P : Addr} {q r l : Str} (h : q = r) : (P, q ++ l) ∈ [(P, r ++ l)] := by rw [h]; exact List.mem_singleton.mpr rfl
theorem lam_only {P : Addr} {q r l : Str} (h : q = r) : ∀ p ∈ [(P, r ++ l)], p.1 = P → p.2 = q ++ l := fun p hp _ => by rw [List.mem_singleton.mp hp, h]
/-- as okG0, of a def whose code object is known -/
theorem okGc {k : Nat} {f c : Addr} {fd : FuncData} {ps : List Str} {sp : Sp} {x qual : Str} {st : Stmt} {N : List Str} (F : Fun K x qual st f fd) (hc : fd.code = .ref c) (S : FnScope N ps (defScope st)) (len : ∀ vs H Q E, sp vs H Q E → vs.length = ps.length)
    (body : ∀ (A : Around) (outer : List Env) (s : Shared) (H : Hp) (vs : List V) (Q : VK) (E : XK), Room k (A.deeper (envOfC qual (defScope st) s.heap.objs.size f (.ref c))) → Quiet A → sp vs H Q E →
      ∃ t, PSs (cxOf CX0 P w K mg base N qual (defScope st) f (.ref c) A outer s H E).nox (defBody st) t ∧ t { nx := fun _ H' => Q .non H', rt := Q } (start N vs) H) : OkG P w K mg base CX0 (k + 1) f fd ps sp := by
  obtain ⟨oc, od, kV, doc, pm, an, cdv, ct, osl, rfl, lk, hcd⟩ := F.ex
  have ec : cdv = .ref c := hc
  subst ec
  refine ⟨len, fun A outer s H args us vs Q E hr hq e0 hb r hsp => ?_⟩
  have KS : K.In s.heap := e0.mod.kin.keeps (fun b o e => (e0.bs b o e).1)
  have NL : s.heap.NoLimit := e0.mod.nolimit.keeps (fun b o e => (e0.bs b o e).1)
  have hl := len _ _ _ _ hsp
  refine codeAny_call_function hr.depth (KS _ _ lk) rfl S.co S.gen rfl (PySem.W.codeRec_of KS hcd) (hb _ _ _ _ ?_)
  refine wpAny_newFunctionEnv_cells S.kind ?_ (fun env he s1 x => ?_)
  · rintro ⟨n, v⟩ hy
    rcases S.par n (List.of_mem_zip hy).1 with q | q
    · exact .inl q
    · exact .inr ⟨q, PySem.W.cellsFrom_some _ _ _ (.inl q)⟩
  subst he
  refine ⟨NL.keeps x.toInCall.keep, codeAny_func ?_⟩
  obtain ⟨t, ht, hT⟩ := body A outer s H vs Q E (hr.deeper _) hq hsp
  have I0 := inv_start (CX := CX0) (E := E) S hr.hd e0 hl r x
  refine wpAny_mono (ht.nox.run [] s1 (start N vs) H _ I0 hT) (fun fl s' hs => ?_) (fun e s' hs => hs)
  cases fl with
  | ret u =>
    obtain ⟨v, _, H', J, rv, q⟩ := hs
    exact ⟨v, H', J.os, J.bare, J.base, J.hok, rv, q⟩
  | next =>
    obtain ⟨_, H', J, q⟩ := hs
    exact ⟨V.non, H', J.os, J.bare, J.base, J.hok, rfl, q⟩
  | brk => obtain ⟨_, _, _, q⟩ := hs; exact q.elim
  | cont => obtain ⟨_, _, _, q⟩ := hs; exact q.elim
theorem q_asgG {te : TE} {g : TG} {tz : TS} {D : Ends} {σ : L2.St} {H : Hp} (h : te σ H fun v H' => g v σ H' fun σ2 H2 => tz D σ2 H2) : tSeq (tAsg te g) tz D σ H := h
theorem tup_3 {t1 t2 t3 : TE} {σ : L2.St} {H : Hp} {Q : VK} (h : t1 σ H fun v H1 => t2 σ H1 fun w H2 => t3 σ H2 fun z H3 => 3 ≤ sizeLine ∧ ∀ q, H3 q = none → Q (.ref q) (upd H3 q (.tup [v, w, z]))) : tTup (tCons t1 (tCons t2 (tCons t3 tNil))) σ H Q := h
theorem g_three {i j k : Nat} {x y z : V} {T : Addr} {σ : L2.St} {H : Hp} {K' : L2.St → Hp → Prop} (hT : SqT K H T [x, y, z]) (q : K' (((σ.set i (some x)).set j (some y)).set k (some z)) H) : gTup K 3 (gCons (gName i) (gCons (gName j) (gCons (gName k) gNil))) (.ref T) σ H K' :=
  ⟨T, _, rfl, hT, rfl, x, _, rfl, y, _, rfl, z, _, rfl, rfl, q⟩
theorem tb_in {te : TE} {σ : L2.St} {H : Hp} {Q : Bool → Hp → Prop} (h : te σ H fun v H1 => ∃ b, v = .bl b ∧ Q b H1) : tB te σ H Q := h
theorem q_unlessC {r : R2} {a b : TE} {t1 tz : TS} {D : Ends} {σ : L2.St} {H : Hp} (h : tOp r a b σ H fun v H1 => v = .bl false ∧ tz D σ H1) (mono : ∀ {R S : VK}, (∀ v H', R v H' → S v H') → tOp r a b σ H R → tOp r a b σ H S) : tSeq (tIfS (tTest (tOp r a b)) t1 tNext) tz D σ H :=
  mono (fun v H' ⟨e, q⟩ => ⟨false, e, q⟩) h
theorem t_unless {te : TE} {t1 tz : TS} {D : Ends} {σ : L2.St} {H : Hp} (h : te σ H fun v H1 => ∃ b, v = .bl b ∧ if b = true then t1 { D with nx := tz D } σ H1 else tz D σ H1) : tSeq (tIfS (tTest te) t1 tNext) tz D σ H := h
theorem t_unless1 {te : TE} {t1 : TS} {D : Ends} {σ : L2.St} {H : Hp} (h : te σ H fun v H1 => ∃ b, v = .bl b ∧ if b = true then t1 D σ H1 else D.nx σ H1) : tIfS (tTest te) t1 tNext D σ H := h
/-- for x in [..] -/
theorem q_forN {g : TG} {ta : TA} {tb tz : TS} {D : Ends} {σ : L2.St} {H : Hp} {ys : List V} (h : VA ta σ H ys) (hl : ys.length ≤ 100000) (k : ∀ a, H a = none → ∃ Pv : Nat → L2.St → Hp → Prop, Pv 0 σ (upd H a (.lst ys)) ∧ (∀ i σ H, Pv i σ H → SqL K H a ys) ∧
      (∀ i x σ H, ys[i]? = some x → Pv i σ H → g x σ H fun σ2 H2 => tb { D with nx := Pv (i + 1), ct := Pv (i + 1), bk := tz D } σ2 H2) ∧ ∀ σ H, Pv ys.length σ H → tz D σ H) : tSeq (tFor (iList K (tLst ta)) g tb) tz D σ H :=
  h _ ⟨Nat.le_trans hl (by decide), fun a ha => ⟨a, rfl, ⟨_, SqL.of upd_same⟩, (k a ha).elim fun Pv z => for_list (K := K) (a := a) (xs := ys) (D := { D with nx := tz D }) Pv z.1 (fun i σ H _ p => z.2.1 i σ H p) z.2.2.1 z.2.2.2⟩⟩
theorem tt_in {te : TE} {σ : L2.St} {H : Hp} {Q : Bool → Hp → Prop} (h : te σ H fun v H1 => ∃ b, v = .bl b ∧ Q b H1) : tTest te σ H Q := h

/-! ### a call that ends by BadRow -/
theorem NoRow.same {H H' : Hp} {v : V} (h : NoRow H v) (s : Same H H') : NoRow H' v := by
  rcases h with ⟨n, i, a, b⟩ | ⟨a, xs, bs, e, q, l, al, z⟩
  · exact .inl ⟨n, i.same s, a, b⟩
  · exact .inr ⟨a, xs, bs, e, q.same s, l, al.imp fun _ _ r => r.same s, z⟩
theorem FineL.same {H H' : Hp} {v : V} {d : PyData} (f : FineL K H v d) (s : Same H H') : FineL K H' v d := ⟨Dd.same s _ _ f.1, f.2⟩
theorem Fine.long {H : Hp} {v : V} {d : PyData} (f : Fine K H v d) : FineL K H v d := ⟨f.1, f.2.1, Nat.le_trans f.2.2.1 (by decide), Nat.le_trans f.2.2.2.1 (by decide), f.2.2.2.2⟩
theorem made_bad {H1 : Hp} {v : V} {Q : VK} {E : XK} (nr : NoRow H1 v) (k : ∀ d H2, Same H1 H2 → H2 d = some (.xd [("row", v)]) → E (.ref (fA mg "BadRow")) (some d) H2) :
    ∀ x dx, H1 x = none → H1 dx = none → dx ≠ x → spInit mg (.ref x :: ([v] ++ [])) (upd (upd H1 dx (.own x)) x (.ins (poA mg) dx [])) Q E := fun x dx hx hdx ne => by
  have S : Same H1 (upd (upd H1 dx (.own x)) x (.ins (poA mg) dx [])) := fun b o e => by
    rw [upd_ne (ne_of_none e hx), upd_ne (ne_of_none e hdx)]
    exact e
  exact ⟨x, dx, v, rfl, upd_same, .inr ⟨nr.same S, fun d H2 keep hd e => k d H2 (fun b o z => keep _ _ (S _ _ z) (ne_of_none z hx)) e⟩⟩
theorem q_make {H1 : Hp} {v : V} {σ : L2.St} {i : Nat} {Q : VK} {E : XK} (hv : σ[i]? = some (some v)) (k : ∀ x dx, H1 x = none → H1 dx = none → dx ≠ x → spInit mg (.ref x :: ([v] ++ [])) (upd (upd H1 dx (.own x)) x (.ins (poA mg) dx [])) (fun v H2 => v = .non ∧ Q (.ref x) H2) E) :
    tMake (poA mg) (spInit mg) [] E (tCons (tVar i) tNil) σ H1 Q := va_1 ((val_var hv) _ k)
section
variable {S H : Hp} {σ : L2.St} {v : V} {d : PyData} {T : List (Addr × Str)} {te : XK → TE}
theorem shaped2 {a b : Str} (ha : PyData.strOk a = true) (hb : PyData.strOk b = true) : SeqAt.shaped (.tuple [.str a, .str b]) = true := by
  simp [SeqAt.shaped, PyData.canLay0, PyData.canLayAll0, PyData.depth, PyData.depthAll, ha, hb]
theorem eqv2 (a b : Str) : PyData.eqv (.tuple [.str a, .str b]) (.tuple [.str a, .str b]) = true := by
  simp [PyData.eqv, PyData.eqvAll]
theorem dp2 {H : Hp} {p : Addr} {a b : Str} (h : H p = some (.tup [.str a, .str b])) : Dp K H (.ref p) (.tuple [.str a, .str b]) := .tup (SqT.of h) (.cons (.str _) (.cons (.str _) .nil))
/-- _law_why(lambda: Poly(x)) beside ("row", repr(x)) -/
theorem row_row {r : R2} {Q : VK} {i j : Nat} (hi : σ[i]? = some (some v)) (nt : NoTab S) (s : Same S H) (hT : LamX.Tabs T H) (f : FineL K S v d) (nr : NoRow S v)
    (q : ∀ p b H2, Same S H2 → LamX.Tabs T H2 → H2 p = some (.tup [.str "row", .str d.shown]) → H2 b = some (.tup [.str "row", .str d.shown]) → r (.ref p) (.ref b) H2 Q) :
    tOp r (LamX.tLam T (TTwhy K mg) fun E => tMake (poA mg) (spInit mg) [] E (tCons (tVar i) tNil)) (tTup (tCons (tC (.str "row")) (tCons (tCB (rShow K) (tCons (tVar i) tNil)) tNil))) σ H Q := by
  refine op_in ⟨hT, fun H1 x T1 => ?_⟩
  have s1 := ext_same nt s x
  unfold TTwhy

  refine q_make hi fun x' dx hx hdx ne => ?_
  refine made_bad (nr.same s1) ?_ x' dx hx hdx ne
  intro dd H2 s2 e
  refine Or.inr ⟨rfl, dd, v, d, rfl, e, f.same (s1.trans s2), fun p H3 s3 e3 => ?_⟩
  have f3 := f.same ((s1.trans s2).trans s3)
  refine l_tup (va_cons val_c (va_cons (v_show (val_var hi) f3.1 f3.2.1 f3.2.2.1 f3.2.2.2.1) va_nil)) (by show 2 ≤ 100000; decide) fun b hb => ?_
  exact q p b _ (((s1.trans s2).trans s3).trans (Same.new' hb)) (T1.ext fun b' o z => (Same.new' hb) _ _ (s3 _ _ (s2 _ _ z))) ((Same.new' hb) _ _ e3) upd_same
theorem row_ne {Q : VK} {i : Nat} (hi : σ[i]? = some (some v)) (nt : NoTab S) (s : Same S H) (hT : LamX.Tabs T H) (f : FineL K S v d) (nr : NoRow S v) (q : ∀ H2, Same S H2 → LamX.Tabs T H2 → Q (.bl false) H2) :
    tOp (rNeD K) (LamX.tLam T (TTwhy K mg) fun E => tMake (poA mg) (spInit mg) [] E (tCons (tVar i) tNil)) (tTup (tCons (tC (.str "row")) (tCons (tCB (rShow K) (tCons (tVar i) tNil)) tNil))) σ H Q :=
  row_row (j := 0) hi nt s hT f nr fun p b H2 s2 T2 e1 e2 => ⟨_, _, dp2 e1, dp2 e2, shaped2 (by decide +kernel) f.2.2.2.2, shaped2 (by decide +kernel) f.2.2.2.2, by rw [eqv2]; exact q H2 s2 T2⟩
theorem row_eq {Q : VK} {i : Nat} (hi : σ[i]? = some (some v)) (nt : NoTab S) (s : Same S H) (hT : LamX.Tabs T H) (f : FineL K S v d) (nr : NoRow S v) (q : ∀ H2, Same S H2 → LamX.Tabs T H2 → Q (.bl true) H2) :
    tOp (rEqD K) (LamX.tLam T (TTwhy K mg) fun E => tMake (poA mg) (spInit mg) [] E (tCons (tVar i) tNil)) (tTup (tCons (tC (.str "row")) (tCons (tCB (rShow K) (tCons (tVar i) tNil)) tNil))) σ H Q :=
  row_row (j := 0) hi nt s hT f nr fun p b H2 s2 T2 e1 e2 => ⟨_, _, dp2 e1, dp2 e2, shaped2 (by decide +kernel) f.2.2.2.2, shaped2 (by decide +kernel) f.2.2.2.2, by rw [eqv2]; exact q H2 s2 T2⟩
end
end
end LW

namespace LW
open PySem PySem.Spec PyProof.Rows L2 GL
/-! ### data that may be shown: sizes, and what their text holds -/
theorem strOk_app {a b : Str} (ha : PyData.strOk a = true) (hb : PyData.strOk b = true) : PyData.strOk (a ++ b) = true := by
  unfold PyData.strOk at *
  rw [PySem.Str.cps_append, Array.all_append, ha, hb]
  rfl
theorem strOk_of (s : String) : PyData.strOk (Str.ofString s) = true := by
  rw [PySem.Str.ofString_eq_toList]
  unfold PyData.strOk
  rw [List.all_toArray, List.all_eq_true]
  intro x hx
  obtain ⟨c, _, rfl⟩ := List.mem_map.mp hx
  have := c.valid
  refine decide_eq_true ?_
  unfold UInt32.isValidChar Nat.isValidChar at this
  show c.val.toNat < 1114112
  omega
theorem strOk_join {sep : Str} (hs : PyData.strOk sep = true) : ∀ ts : List Str, (∀ t ∈ ts, PyData.strOk t = true) → PyData.strOk (Str.join sep ts) = true
  | [], _ => by show PyData.strOk Str.empty = true; decide +kernel
  | [x], h => h x (by simp)
  | x :: y :: r, h => strOk_app (strOk_app (h x (by simp)) hs) (strOk_join hs (y :: r) fun t ht => h t (by simp [ht]))
theorem strOk_from : ∀ (ts : List Str) (k : Nat) (acc : Str), PyData.strOk acc = true → (∀ t ∈ ts, PyData.strOk t = true) → PyData.strOk (textFrom k acc ts) = true
  | [], _, _, h, _ => h
  | t :: ts, k, acc, h, g => strOk_from ts (k + 1) _ (strOk_app (strOk_app h (strOk_of _)) (g t (by simp))) fun x hx => g x (by simp [hx])
theorem strOk_list {ts : List Str} (g : ∀ t ∈ ts, PyData.strOk t = true) : PyData.strOk (listText ts) = true := strOk_app (strOk_from ts 0 _ (strOk_of _) g) (strOk_of _)
theorem strOk_tuple {ts : List Str} (g : ∀ t ∈ ts, PyData.strOk t = true) : PyData.strOk (tupleText ts) = true := strOk_app (strOk_app (strOk_of _) (strOk_join (strOk_of _) ts g)) (strOk_of _)

/-- shown within B, of depth within k -/
def Nc (B k : Nat) (d : PyData) : Prop := d.showable = true ∧ d.shown.length ≤ B ∧ PyData.strOk d.shown = true ∧ d.depth ≤ k
theorem Nc.mono {B C k l : Nat} {d : PyData} (h : Nc B k d) (b : B ≤ C) (c : k ≤ l) : Nc C l d := ⟨h.1, Nat.le_trans h.2.1 b, h.2.2.1, Nat.le_trans h.2.2.2 c⟩
theorem nc_int {n : Int} (h : n.natAbs < 2 ^ 1000) : Nc 310 1 (.int n) := by
  have h10 : n.natAbs < 10 ^ 302 := Nat.lt_trans h (by decide +kernel)
  have e := int_text_length_le10 (a := n) (k := 302) (by decide) h10
  refine ⟨decide_eq_true ?_, ?_, strOk_of _, by simp [PyData.depth]⟩
  · rcases Nat.eq_zero_or_pos n.natAbs with z | z
    · rw [z]; decide
    · have := (Nat.log2_lt (by omega)).mpr h
      omega
  · show (Str.ofString (toString n)).length ≤ 310
    rw [PySem.ofString_length]
    omega
def NcAll (B k : Nat) (ds : List PyData) : Prop := ∀ d ∈ ds, Nc B k d
theorem nc_sum {B k : Nat} : ∀ {ds : List PyData}, NcAll B k ds → ((PyData.shownAll ds).map (·.length)).sum ≤ ds.length * B ∧ (PyData.shownAll ds).length = ds.length ∧ PyData.showableAll ds = true ∧ PyData.depthAll ds ≤ k ∧ ∀ t ∈ PyData.shownAll ds, PyData.strOk t = true
  | [], _ => by simp [PyData.shownAll, PyData.showableAll, PyData.depthAll]
  | d :: ds, h => by
    obtain ⟨h1, h2, h3, h4, h5⟩ := nc_sum (ds := ds) (fun x hx => h x (by simp [hx]))
    obtain ⟨a, b, c, e⟩ := h d (by simp)
    refine ⟨?_, ?_, ?_, ?_, ?_⟩
    · simp only [PyData.shownAll, List.map_cons, List.sum_cons, List.length_cons]
      rw [Nat.succ_mul]
      omega
    · simp only [PyData.shownAll, List.length_cons, h2]
    · simp only [PyData.showableAll, a, h3, Bool.and_self]
    · simp only [PyData.depthAll]
      omega
    · intro t ht
      simp only [PyData.shownAll, List.mem_cons] at ht
      rcases ht with rfl | ht
      · exact c
      · exact h5 t ht
theorem nc_tuple {B k : Nat} {ds : List PyData} (h : NcAll B k ds) : Nc (ds.length * (B + 2) + 3) (k + 1) (.tuple ds) := by
  obtain ⟨h1, h2, h3, h4, h5⟩ := nc_sum h
  refine ⟨by simp only [PyData.showable, h3], ?_, ?_, by simp only [PyData.depth]; omega⟩
  · have := tupleText_len_le (PyData.shownAll ds)
    simp only [PyData.shown]
    rw [h2] at this
    rw [Nat.mul_add]
    omega
  · simp only [PyData.shown]
    exact strOk_tuple h5
theorem nc_list {B k : Nat} {ds : List PyData} (h : NcAll B k ds) : Nc (ds.length * (B + 2) + 3) (k + 1) (.list ds) := by
  obtain ⟨h1, h2, h3, h4, h5⟩ := nc_sum h
  refine ⟨by simp only [PyData.showable, h3], ?_, ?_, by simp only [PyData.depth]; omega⟩
  · have := listText_len_le (PyData.shownAll ds)
    simp only [PyData.shown]
    rw [h2] at this
    rw [Nat.mul_add]
    omega
  · simp only [PyData.shown]
    exact strOk_list h5
section
variable {K : PySem.W.Frag} {mg : Str → Option Value}
theorem nc_two {x y : Int} (hx : x.natAbs < 2 ^ 1000) (hy : y.natAbs < 2 ^ 1000) : NcAll 310 1 [.int x, .int y] := fun d hd => by
  simp only [List.mem_cons, List.not_mem_nil, or_false] at hd
  rcases hd with rfl | rfl
  · exact nc_int hx
  · exact nc_int hy
theorem Rt.nc {H : Hp} {v : V} {i j : Int} (h : Rt H v i j) (f : Fit i j) : ∃ d, Dd K H v d ∧ Nc 630 2 d := by
  cases h with
  | int i => exact ⟨_, .int _, (nc_int f.1).mono (by decide) (by decide)⟩
  | pair h p =>
    rcases h with e | e
    · exact ⟨_, .lst (SqL.of e) (.cons (.int _) (.cons (.int _) .nil)), (nc_list (nc_two f.1 f.2)).mono (by show 2 * (310 + 2) + 3 ≤ 630; decide) (by decide)⟩
    · exact ⟨_, .tup (SqT.of e) (.cons (.int _) (.cons (.int _) .nil)), (nc_tuple (nc_two f.1 f.2)).mono (by show 2 * (310 + 2) + 3 ≤ 630; decide) (by decide)⟩
theorem Rq.nc {H : Hp} {v : V} {q : Rat} (h : Rq H v q) : ∃ d, Dd K H v d ∧ Nc 630 2 d := by
  obtain ⟨i, j, r, f, _⟩ := h
  exact Rt.nc r f
theorem polyD_nc {xs : List Rat} {n : Nat} (s : Sms n xs) (l : n ≤ 1000) (z : xs.length ≤ 100) : Nc 64000 3 (polyD xs) := by
  refine (nc_tuple (B := 630) (k := 2) fun d hd => ?_).mono (C := 64000) (l := 3) ?_ (by decide)
  · obtain ⟨q, hq, rfl⟩ := List.mem_map.mp hd
    have f := (s q hq).fit l
    exact (nc_tuple (nc_two f.1 f.2)).mono (by show 2 * (310 + 2) + 3 ≤ 630; decide) (by decide)
  · rw [List.length_map]
    have := Nat.mul_le_mul_right 632 z
    omega
theorem Fine.nc {H : Hp} {v : V} {d : PyData} (f : Fine K H v d) : Nc 1000 3 d := ⟨f.2.1, f.2.2.2.1, f.2.2.2.2, f.2.2.1⟩
theorem Nc.line {H : Hp} {v : V} {d : PyData} {B k : Nat} (h : Dd K H v d) (n : Nc B k d) (b : B ≤ 100000) (c : k ≤ 40) : FineL K H v d := ⟨h, n.1, Nat.le_trans n.2.2.2 c, Nat.le_trans n.2.1 b, n.2.2.1⟩
theorem all_nc {B k : Nat} {H : Hp} : ∀ {vs : List V}, (∀ v ∈ vs, ∃ d, Dd K H v d ∧ Nc B k d) → ∃ ds, DdAll K H vs ds ∧ NcAll B k ds ∧ ds.length = vs.length
  | [], _ => ⟨[], .nil, (fun _ h => nomatch h), rfl⟩
  | v :: vs, h => by
    obtain ⟨d, hd, n⟩ := h v (by simp)
    obtain ⟨ds, hds, ns, l⟩ := all_nc (vs := vs) fun x hx => h x (by simp [hx])
    refine ⟨d :: ds, .cons hd hds, fun x hx => ?_, by rw [List.length_cons, l, List.length_cons]⟩
    rcases List.mem_cons.mp hx with rfl | hx
    · exact n
    · exact ns x hx
end
end LW

namespace LW
open PySem PySem.Spec PyProof.Rows L2 GL
section
variable {P : Program} {w : World} {K : PySem.W.Frag} {mg : Str → Option Value} {base : Heap}
theorem Me.meth {C : Addr} {m q : Str} {st : Stmt} {ps : List Str} (h : Me K C m q st ps) : Meth K C m (mA K C m) := ⟨h.at_, h.fn, h.F.kp⟩
theorem lam_memT {P : Addr} {q r l : Str} {T : List (Addr × Str)} (hm : (P, r ++ l) ∈ T) (h : q = r) : (P, q ++ l) ∈ T := by rw [h]; exact hm
theorem lam_onlyT {P : Addr} {q r l : Str} {T : List (Addr × Str)} (ho : ∀ p ∈ T, p.1 = P → p.2 = r ++ l) (h : q = r) : ∀ p ∈ T, p.1 = P → p.2 = q ++ l := by rw [h]; exact ho

theorem va_x {te : TE} {tr : TA} {σ : L2.St} {H : Hp} {Q : List V → Hp → Prop} (h : te σ H fun v H1 => tr σ H1 fun vs H2 => Q (v :: vs) H2) : tCons te tr σ H Q := h
theorem low_lo {H : Hp} {t : Addr} {a b : Int} (h : Low H t a b) : ∃ q, Lo H t q ∧ Fin q := by
  obtain ⟨e, b0, g, al, bl⟩ := h
  have l := low_rat a b0
  rw [g, Int.ediv_one, Int.ediv_one] at l
  refine ⟨Rat.divInt a b, ?_, ?_, ?_⟩
  · unfold Lo
    rw [← l.1, ← l.2]
    exact e
  · rw [← l.1]
    exact al
  · have := l.2
    omega
theorem run_lst {S : Rat → Prop} {H : Hp} : ∀ {ys : List V} {k : Nat}, Run (fun _ v H => ∃ t q, v = .ref t ∧ Lo H t q ∧ S q) k ys H → ∃ xs, All2 (fun v q => ∃ p, v = V.ref p ∧ Lo H p q) ys xs ∧ ∀ q ∈ xs, S q
  | [], _, _ => ⟨[], .nil, fun _ h => nomatch h⟩
  | y :: ys, k, ⟨⟨t, q, e, lo, sm⟩, h⟩ => by
    obtain ⟨xs, al, s⟩ := run_lst h
    refine ⟨q :: xs, .cons ⟨t, e, lo⟩ al, fun q' hq => ?_⟩
    rcases List.mem_cons.mp hq with rfl | h
    · exact sm
    · exact s _ h
theorem Fin.zero : Fin 0 := ⟨by decide, by decide⟩
theorem Sm.fin10 {q : Rat} (h : Sm 10 q) : Fin q := (h.mono (by decide : 10 ≤ 59)).fin
/-- a row with drawn zeros behind it -/
theorem l_padB {σ : L2.St} {H : Hp} {t1 t2 : TE} {l p c : Addr} {xs : List Rat} {m m' B : Nat} {Q : VK} (P0 : PenAt H p c m) (h : Val t1 σ H (.ref l)) (hl : Lst H l xs) (hn : xs.length ≤ 1000) (hB : B ≤ 1000)
    (h2 : ∀ H1, Same H H1 → ∀ Q' : VK, (∀ (k : Nat) H2, k ≤ B → But p H1 H2 → PenAt H2 p c m' → Q' (.int (k : Int)) H2) → t2 σ H1 Q')
    (q : ∀ a H' k, k ≤ B → But p H H' → PenAt H' p c m' → Lst H' a (xs ++ List.replicate k 0) → Q (.ref a) H') : tOp rCat t1 (tOp rRep (tLst (tCons (tTup (tCons (tC (.int 0)) (tCons (tC (.int 1)) tNil))) tNil)) t2) σ H Q := by
  obtain ⟨kvs, hd⟩ := P0.dk
  refine op_l h ?_
  refine l_s (va_1 (l_tup (va_cons val_c (va_cons val_c va_nil)) (by decide) fun t ht => ⟨by show 1 ≤ sizeLine; decide, fun z hz => ?_⟩))
  have s1 := Same.new' (o := .tup [.int 0, .int 1]) ht
  have s2 := Same.new' (o := .lst [.ref t]) hz
  refine h2 _ (s1.trans s2) _ fun k H3 hk b3 P3 => ?_
  have hz3 := b3 _ _ (upd_same (a := z) (o := .lst [.ref t])) (ne_of upd_same (s2 _ _ (s1 _ _ hd)) (by intro z; cases z))
  have ht3 := b3 _ _ (s2 _ _ (upd_same (a := t) (o := .tup [.int 0, .int 1]))) (ne_of (s2 _ _ upd_same) (s2 _ _ (s1 _ _ hd)) (by intro z; cases z))
  refine ⟨z, k, [.ref t], rfl, rfl, hz3, by omega, by omega, Nat.le_trans (by show 1 * (k : Int).toNat ≤ 1000; omega) (show 1000 ≤ sizeLine by decide), fun r hr => ?_⟩
  have fl : (List.replicate (k : Int).toNat [V.ref t]).flatten = List.replicate k (V.ref t) := by rw [Int.toNat_natCast, rep_flat]
  rw [fl]
  have s4 := Same.new' (o := .lst (List.replicate k (V.ref t))) hr
  obtain ⟨vs, e, al⟩ := ((hl.same (s1.trans s2)).but b3 (P0.same (s1.trans s2))).same s4
  have len := al.len
  refine ⟨l, r, vs, _, rfl, rfl, e, upd_same, Nat.le_trans (by show vs.length + (List.replicate k (V.ref t)).length ≤ 2000; rw [List.length_replicate]; omega) (show 2000 ≤ sizeLine by decide), fun a ha => ?_⟩
  have s5 := Same.new' (o := .lst (vs ++ List.replicate k (V.ref t))) ha
  refine q a _ k hk (((But.of (s1.trans s2)).trans b3).trans (But.of (s4.trans s5))) (P3.same (s4.trans s5)) ⟨_, upd_same, ?_⟩
  exact pad_all (al.imp fun v q ⟨p, e, lo⟩ => ⟨p, e, lo.same s5⟩) (s5 _ _ (s4 _ _ ht3))

theorem bu_dd {H H' : Hp} {v : V} {i j : Int} {p c : Addr} {m : Nat} (h : Rt H v i j) (f : Fit i j) (P : PenAt H p c m) : ∃ d, Nc 630 2 d ∧ ∀ H', But p H H' → Dd K H' v d := by
  obtain ⟨kvs, hd⟩ := P.dk
  cases h with
  | int i => exact ⟨_, (nc_int f.1).mono (by decide) (by decide), fun H' b => .int _⟩
  | pair h q =>
    rcases h with e | e
    · exact ⟨.list [.int i, .int j], (nc_list (nc_two f.1 f.2)).mono (by show 2 * (310 + 2) + 3 ≤ 630; decide) (by decide), fun H' b => .lst (SqL.of (b _ _ e (ne_of e hd (by intro z; cases z)))) (.cons (.int _) (.cons (.int _) .nil))⟩
    · exact ⟨.tuple [.int i, .int j], (nc_tuple (nc_two f.1 f.2)).mono (by show 2 * (310 + 2) + 3 ≤ 630; decide) (by decide), fun H' b => .tup (SqT.of (b _ _ e (ne_of e hd (by intro z; cases z)))) (.cons (.int _) (.cons (.int _) .nil))⟩
theorem all_ncB {B k : Nat} {H : Hp} {p : Addr} : ∀ {vs : List V}, (∀ v ∈ vs, ∃ d, Nc B k d ∧ ∀ H', But p H H' → Dd K H' v d) → ∃ ds, NcAll B k ds ∧ ds.length = vs.length ∧ ∀ H', But p H H' → DdAll K H' vs ds
  | [], _ => ⟨[], (fun _ h => nomatch h), rfl, fun _ _ => .nil⟩
  | v :: vs, h => by
    obtain ⟨d, n, hd⟩ := h v (by simp)
    obtain ⟨ds, ns, l, hds⟩ := all_ncB (vs := vs) fun x hx => h x (by simp [hx])
    refine ⟨d :: ds, fun x hx => ?_, by rw [List.length_cons, l, List.length_cons], fun H' b => .cons (hd H' b) (hds H' b)⟩
    rcases List.mem_cons.mp hx with rfl | hx
    · exact n
    · exact ns x hx
/-- a row of lists of two, made behind H0 -/
def LsD (H0 : Hp) (f : Nat → Rat) (D : Addr) (i : Nat) (v : V) (H : Hp) : Prop := ∃ t, v = .ref t ∧ t ≠ D ∧ H0 t = none ∧ H t = some (.lst [.int (f i).num, .int ((f i).den : Int)])
theorem lsd_bu (H0 : Hp) (f : Nat → Rat) : BuS (LsD H0 f) := fun D i v H H' p c m ⟨t, e, n, z, h⟩ P b => by
  obtain ⟨kvs, hd⟩ := P.dk
  exact ⟨t, e, n, z, b _ _ h (ne_of h hd (by intro z; cases z))⟩
theorem lsd_off (H0 : Hp) (f : Nat → Rat) : OffD (LsD H0 f) := fun D i v H ys zs ⟨t, e, n, z, h⟩ hD => ⟨t, e, n, z, by rw [upd_ne n]; exact h⟩
theorem Fin.fit {q : Rat} (f : Fin q) : Fit q.num (q.den : Int) := by
  have h1 := f.1
  have h2 := f.2
  have b1 : (10 ^ 18 : Nat) < 2 ^ 1000 := Nat.lt_of_lt_of_le (show 10 ^ 18 < 2 ^ 62 by decide) (Nat.pow_le_pow_right (by decide) (by decide))
  exact ⟨by omega, by rw [Int.natAbs_natCast]; omega⟩
theorem pair_lst {H : Hp} {t : Addr} {q : Rat} (h : H t = some (.lst [.int q.num, .int (q.den : Int)])) : Rt H (.ref t) q.num (q.den : Int) := .pair (.inl h) (by have := q.den_pos; omega)
theorem pair_rq {H : Hp} {t : Addr} {q : Rat} (h : H t = some (.lst [.int q.num, .int (q.den : Int)])) (f : Fin q) : Rq H (.ref t) q := ⟨_, _, pair_lst h, f.fit, by rw [Rat.divInt_ofNat, Rat.mkRat_self]⟩
theorem Los.but {H H' : Hp} {t p c : Addr} {m : Nat} {xs : List Rat} (h : Los H t xs) (P : PenAt H p c m) (b : But p H H') : Los H' t xs := by
  obtain ⟨kvs, hd⟩ := P.dk
  obtain ⟨vs, e, al⟩ := h
  exact ⟨vs, b _ _ e (ne_of e hd (by intro z; cases z)), al.imp fun v q ⟨p, e, lo⟩ => ⟨p, e, b.lo P lo⟩⟩
theorem PoAt.but {C : Addr} {H H' : Hp} {a p c : Addr} {m : Nat} {xs : List Rat} (h : PoAt C H a xs) (P : PenAt H p c m) (b : But p H H') : PoAt C H' a xs := by
  obtain ⟨kvs, hd⟩ := P.dk
  obtain ⟨dx, t, e, l, z⟩ := h
  exact ⟨dx, t, b _ _ e (ne_of e hd (by intro z; cases z)), l.but P b, z⟩
theorem ne_same {s : Str} {H : Hp} {Q : VK} (q : Q (.bl false) H) : rNe (.str s) (.str s) H Q := ⟨rfl, by rw [decide_eq_true rfl]; exact q⟩
theorem run_rq0 {xs : List Rat} {D : Addr} {ys : List V} {H : Hp} (r : Run (RqD (co xs) D) 0 ys H) (l : ys.length = xs.length) : All2 (Rq H) ys xs := run_rq r l
theorem run_ls {xs : List Rat} {H0 H : Hp} {D : Addr} {zs : List V} (r : Run (LsD H0 (co xs) D) 0 zs H) (l : zs.length = xs.length) (f : Fins xs) : All2 (Rq H) zs xs := All2.mk l fun i v q hv hq => by
  obtain ⟨t, rfl, _, _, h⟩ := r.get hv
  rw [Nat.zero_add, co_some hq] at h
  exact pair_rq h (f q (get_mem hq))
theorem made_poly2 {H1 : Hp} {n x dx : Addr} {ws : List V} {xs : List Rat} {R : VK} {E : XK} (hS : Sq H1 n ws) (hl : ws.length ≤ 1000) (al : All2 (Rq H1) ws xs) (hx : H1 x = none) (hdx : H1 dx = none) (ne : dx ≠ x) (k : ∀ H', Same H1 H' → PoAt (poA mg) H' x (trim xs) → R .non H') :
    spInit mg (.ref x :: ([.ref n] ++ [])) (upd (upd H1 dx (.own x)) x (.ins (poA mg) dx [])) R E := by
  have S : Same H1 (upd (upd H1 dx (.own x)) x (.ins (poA mg) dx [])) := fun b o e => by
    rw [upd_ne (ne_of_none e hx), upd_ne (ne_of_none e hdx)]
    exact e
  exact ⟨x, dx, .ref n, rfl, upd_same, .inl ⟨n, ws, xs, rfl, hS.same S, hl, al.imp fun v q r => r.same S, fun t H' keep e los => k H' (fun b o z => keep _ _ (S _ _ z) (ne_of_none z hx)) ⟨dx, t, e, los, tlen_trim _⟩⟩⟩
theorem lo_updL {H : Hp} {t p : Addr} {ws zs : List V} {q : Rat} (e : H t = some (.lst ws)) (lo : Lo H p q) : Lo (upd H t (.lst zs)) p q := lo_upd e lo
theorem Los.updL {H : Hp} {t a : Addr} {ws zs : List V} {xs : List Rat} (h : Los H a xs) (e : H t = some (.lst ws)) : Los (upd H t (.lst zs)) a xs := by
  obtain ⟨vs, ea, al⟩ := h
  exact ⟨vs, by rw [upd_ne (ne_of ea e (by intro z; cases z))]; exact ea, al.imp fun v q ⟨p, e', lo⟩ => ⟨p, e', lo_upd e lo⟩⟩
theorem PoAt.updL {C : Addr} {H : Hp} {t a : Addr} {ws zs : List V} {xs : List Rat} (h : PoAt C H a xs) (e : H t = some (.lst ws)) : PoAt C (upd H t (.lst zs)) a xs := by
  obtain ⟨dx, u, ea, l, z⟩ := h
  exact ⟨dx, u, by rw [upd_ne (ne_of ea e (by intro z; cases z))]; exact ea, l.updL e, z⟩
theorem but_updN {p : Addr} {H H' : Hp} {t : Addr} {zs : List V} (b : But p H H') (n : H t = none) : But p H (upd H' t (.lst zs)) := fun a o h hp => by
  rw [upd_ne (ne_of_none h n)]
  exact b a o h hp
theorem or_in' {t u : TT} {σ : L2.St} {H : Hp} {Q : Bool → Hp → Prop} (h : t σ H fun c H1 => if c = true then Q true H1 else u σ H1 Q) : tOr t u σ H Q := h
theorem not_in {t : TT} {σ : L2.St} {H : Hp} {Q : Bool → Hp → Prop} (h : t σ H fun c H1 => Q (!c) H1) : tNot t σ H Q := h
theorem Fins.sms {xs : List Rat} (f : Fins xs) : Sms 60 xs := fun q hq => by
  have h := f q hq
  have : (10 : Nat) ^ 18 < 2 ^ 60 := by decide
  exact ⟨by have := h.1; omega, by have := h.2; omega⟩
theorem v_showP (TP : PolyT K mg) {σ : L2.St} {H : Hp} {i : Nat} {a : Addr} {xs : List Rat} (hi : σ[i]? = some (some (.ref a))) (h : PoAt (poA mg) H a xs) (n : Nc 64000 3 (polyD xs)) : Val (tCB (rShow K) (tCons (tFld K (tVar i) "numbers") tNil)) σ H (.str (polyD xs).shown) := by
  obtain ⟨dx, u, ea, l, z⟩ := h
  exact v_show (v_numbers TP (val_var hi) ea) (los_dd l) n.1 (Nat.le_trans n.2.2.2 (by decide)) (Nat.le_trans n.2.1 (by decide))
theorem v_showL {σ : L2.St} {H : Hp} {te : TE} {t : Addr} {xs : List Rat} (h : Val te σ H (.ref t)) (l : Los H t xs) (n : Nc 64000 3 (polyD xs)) : Val (tCB (rShow K) (tCons te tNil)) σ H (.str (polyD xs).shown) :=
  v_show h (los_dd l) n.1 (Nat.le_trans n.2.2.2 (by decide)) (Nat.le_trans n.2.1 (by decide))
theorem ne_sameV {v : V} {H : Hp} {Q : VK} (hs : scal v v = true) (q : Q (.bl false) H) : rNe v v H Q := ⟨hs, by rw [decide_eq_true rfl]; exact q⟩
theorem snoc_ne (xs : List Rat) : xs ≠ trim (xs ++ [1]) := by
  have h : tlen (xs ++ [1]) = xs.length + 1 := tlen_of (by rw [List.length_append]; exact Nat.le_refl _) (fun i q hi e => by
    have := (List.getElem?_eq_some_iff.mp e).1
    rw [List.length_append] at this
    have : i < xs.length + 1 := this
    omega) (.inr ⟨1, by rw [Nat.add_sub_cancel, List.getElem?_append_right (Nat.le_refl _), Nat.sub_self]; rfl, by decide⟩)
  intro e
  have := congrArg List.length e
  rw [trim_len, h] at this
  omega
theorem no_degree {v : V} : ([("numbers", v)] : List (Str × V)).lookup ("degree" : Str) = none := by
  have ne : (("degree" : Str) == ("numbers" : Str)) = false := by decide +kernel
  rw [List.lookup_cons, ne]
  rfl
theorem int_rq {H : Hp} {i : Int} (h : i.natAbs < 2 ^ 1000) : Rq H (.int i) (Rat.divInt i 1) := ⟨i, 1, .int i, ⟨h, Nat.one_lt_two_pow (by decide)⟩, rfl⟩
theorem All2.snoc {α β : Type} {R : α → β → Prop} {as : List α} {bs : List β} {a : α} {b : β} (h : All2 R as bs) (r : R a b) : All2 R (as ++ [a]) (bs ++ [b]) := by
  induction h with
  | nil => exact .cons r .nil
  | cons h _ ih => exact .cons h ih
theorem Los.rqs {H : Hp} {t : Addr} {us : List V} {xs : List Rat} {n : Nat} (al : All2 (fun v q => ∃ p, v = V.ref p ∧ Lo H p q) us xs) (sm : Sms n xs) (hn : n ≤ 1000) : All2 (Rq H) us xs := All2.mk al.len fun i v q hv hq => by
  obtain ⟨q', hq', p, rfl, lo⟩ := al.get hv
  rw [hq] at hq'
  cases hq'
  exact lo.rq (sm q (get_mem hq)) hn
theorem PoAt.obj {C : Addr} {H : Hp} {a : Addr} {xs : List Rat} (h : PoAt C H a xs) : ∃ dx fs, H a = some (.ins C dx fs) := by
  obtain ⟨dx, u, e, _⟩ := h
  exact ⟨dx, _, e⟩
theorem q_ifK {σ : L2.St} {H : Hp} {t : TT} {t1 tz : TS} {D : Ends} {I : Hp → Prop} (rest : ∀ H1, I H1 → tz D σ H1) (h : (∀ H1, I H1 → tz D σ H1) → t σ H fun b H1 => if b = true then t1 { D with nx := tz D } σ H1 else tz D σ H1) : tSeq (tIfS t t1 tNext) tz D σ H := h rest
theorem Tabs.updL {T : List (Addr × Str)} {H : Hp} {a : Addr} {ws zs : List V} (t : LamX.Tabs T H) (e : H a = some (.lst ws)) : LamX.Tabs T (upd H a (.lst zs)) := by
  intro q hq
  obtain ⟨ps, h1, h2, h3⟩ := t q hq
  refine ⟨ps, by rw [upd_ne (fun z => by rw [z, e] at h1; cases h1)]; exact h1, h2, fun pos cv e' => ?_⟩
  obtain ⟨c', e1, e2⟩ := h3 pos cv e'
  exact ⟨c', e1, by rw [upd_ne (fun z => by rw [z, e] at e2; unfold LamX.CodeO at e2; cases e2)]; exact e2⟩
theorem Odd.updL {H : Hp} {v : V} {a : Addr} {ws zs : List V} (g : Odd H v) (e : H a = some (.lst ws)) (n : v ≠ .ref a) : Odd (upd H a (.lst zs)) v := by
  have k : ∀ {b : Addr} {o : HO}, H b = some o → (∀ l, o ≠ .lst l) → upd H a (.lst zs) b = some o := fun {b o} h f => by
    rw [upd_ne (fun z => by rw [z, e] at h; cases h; exact f _ rfl)]
    exact h
  cases g with
  | non => exact .non
  | bl => exact .bl
  | str => exact .str
  | tup e1 h => exact .tup (k e1 fun _ z => by cases z) h
  | lst e1 h => exact .lst (by rw [upd_ne (fun z => n (by rw [z]))]; exact e1) h
  | dic e1 => exact .dic (k e1 fun _ z => by cases z)
  | nest e1 e2 => exact .nest (k e1 fun _ z => by cases z) (k e2 fun _ z => by cases z)
theorem Rq.bare {H : Hp} {v : V} {q : Rat} (h : Rq H v q) : Rq (bareH H) v q := by
  obtain ⟨i, j, r, f, e⟩ := h
  exact ⟨i, j, r.bare, f, e⟩
theorem rt_dp {H : Hp} {v : V} {i j : Int} (h : Rt H v i j) : ∃ d, Dp K H v d ∧ PyData.canLay0 d = true ∧ d.depth ≤ 2 := by
  cases h with
  | int i => exact ⟨_, .int i, rfl, by simp [PyData.depth]⟩
  | pair h p =>
    rcases h with e | e
    · exact ⟨.list [.int i, .int j], .lst (SqL.of e) (.cons (.int _) (.cons (.int _) .nil)), rfl, by simp [PyData.depth, PyData.depthAll]⟩
    · exact ⟨.tuple [.int i, .int j], .tup (SqT.of e) (.cons (.int _) (.cons (.int _) .nil)), rfl, by simp [PyData.depth, PyData.depthAll]⟩
theorem rqs_dp {H : Hp} : ∀ {ys : List V} {xs : List Rat}, All2 (Rq H) ys xs → ∃ ds, DpAll K H ys ds ∧ PyData.canLayAll0 ds = true ∧ PyData.depthAll ds ≤ 2 ∧ ds.length = ys.length
  | [], _, _ => ⟨[], .nil, rfl, by simp [PyData.depthAll], rfl⟩
  | y :: ys, _ :: _, .cons ⟨i, j, r, _, _⟩ t => by
    obtain ⟨ds, h1, h2, h3, h4⟩ := rqs_dp t
    obtain ⟨d, g1, g2, g3⟩ := rt_dp (K := K) r
    refine ⟨d :: ds, .cons g1 h1, by simp [PyData.canLayAll0, g2, h2], ?_, by rw [List.length_cons, h4, List.length_cons]⟩
    simp only [PyData.depthAll]
    omega
theorem list_shaped {ds : List PyData} (h : PyData.canLayAll0 ds = true) (d : PyData.depthAll ds ≤ 2) : SeqAt.shaped (.list ds) = true := by
  refine Bool.and_eq_true_iff.mpr ⟨h, decide_eq_true ?_⟩
  have e : (PyData.list ds).depth = 1 + PyData.depthAll ds := by simp [PyData.depth]; omega
  rw [e]
  omega
theorem eqv_nil {ds : List PyData} : PyData.eqv (.list ds) (.list []) = decide (ds = []) := by
  cases ds with
  | nil => rfl
  | cons d ds => rfl
/-- a row in which one is no ratio -/
theorem no_row {S : Hp} {G : Addr} {ys : List V} {xs : List Rat} {odd : V} {j : Nat} (e : S G = some (.lst (ys.set j odd))) (hj : j < ys.length) (hl : ys.length ≤ 1000) (al : All2 (Rq S) ys xs) (o : RatQ S odd false) : NoRow S (.ref G) := by
  refine .inr ⟨G, _, (ys.map fun _ => true).set j false, rfl, .inl e, by rw [List.length_set]; exact hl, All2.mk (by rw [List.length_set, List.length_set, List.length_map]) fun i v b hv hb => ?_, ?_⟩
  · rw [List.getElem?_set] at hv hb
    split at hv
    · rename_i h
      subst h
      rw [if_pos rfl, if_pos (by rw [List.length_map]; exact hj)] at hb
      cases hv
      cases hb
      exact o
    · rename_i h
      rw [if_neg h, List.getElem?_map, hv] at hb
      cases hb
      obtain ⟨q, _, r⟩ := al.get hv
      exact r.yes
  · rw [List.all_eq_false]
    exact ⟨false, List.mem_of_getElem? (i := j) (by rw [List.getElem?_set, if_pos rfl, if_pos (by rw [List.length_map]; exact hj)]), by decide⟩
theorem fine_row {S : Hp} {G : Addr} {ys : List V} {xs : List Rat} {odd : V} {j : Nat} (e : S G = some (.lst (ys.set j odd))) (hl : ys.length ≤ 9) (al : All2 (Rq S) ys xs) (o : ∃ d, Fine K S odd d) : ∃ d, FineL K S (.ref G) d := by
  obtain ⟨ds, h1, h2, h3⟩ := all_nc (K := K) (B := 1000) (k := 3) (H := S) (vs := ys.set j odd) fun v hv => by
    rcases List.mem_or_eq_of_mem_set hv with h | rfl
    · obtain ⟨i, hi, ei⟩ := List.getElem_of_mem h
      obtain ⟨q, _, r⟩ := al.get (List.getElem?_eq_getElem hi)
      rw [ei] at r
      obtain ⟨d, hd, n⟩ := Rq.nc (K := K) r
      exact ⟨d, hd, n.mono (by decide) (by decide)⟩
    · obtain ⟨d, f⟩ := o
      exact ⟨d, f.1, f.nc⟩
  refine ⟨.list ds, Nc.line (.lst (SqL.of e) h1) (nc_list h2) ?_ (by decide)⟩
  rw [List.length_set] at h3
  have := Nat.mul_le_mul_right (1000 + 2) (show ds.length ≤ 9 by omega)
  omega
/-- values that are no rows -/
theorem strange_ok {S : Hp} {v : V} {da : Addr} (hv : v ∈ [V.non, .int 5, .str "12", .ref da, .bl true]) (e : S da = some (.dK [(aK, .int 1)])) : ∃ d, NoRow S v ∧ FineL K S v d := by
  have kk : ∀ {d : PyData}, Dd K S v d → d.showable = true ∧ d.depth ≤ 3 ∧ d.shown.length ≤ 1000 ∧ PyData.strOk d.shown = true → FineL K S v d := fun a b => Fine.long ⟨a, b⟩
  simp only [List.mem_cons, List.not_mem_nil, or_false] at hv
  rcases hv with rfl | rfl | rfl | rfl | rfl
  · exact ⟨_, .inl ⟨_, .non, by decide, by decide⟩, kk .non (by decide +kernel)⟩
  · exact ⟨_, .inl ⟨_, .int 5, by decide, by decide⟩, kk (.int 5) (by decide +kernel)⟩
  · exact ⟨_, .inl ⟨_, .str _, by decide, by decide⟩, kk (.str _) (by decide +kernel)⟩
  · obtain ⟨d, f⟩ := Odd.fine (K := K) (Odd.dic e)
    exact ⟨d, .inl ⟨_, .dic e, by decide, by decide⟩, f.long⟩
  · exact ⟨_, .inl ⟨_, .bl true, by decide, by decide⟩, kk (.bl true) (by decide +kernel)⟩

def spMadeR (Tb : List (Addr × Str)) : Sp := fun vs H Q _ => ∃ (p c : Addr) (m : Nat), vs = [.ref p] ∧ PenAt H p c m ∧ m + 400 < most ∧ LamX.Tabs Tb H ∧ ∀ H', PenAt H' p c (m + 400) → LamX.Tabs Tb H' → Q (.bl true) H'
theorem ok_made_right (T : Txt K mg) (TP : PolyT K mg) {cC cP : Addr} {Tb : List (Addr × Str)} (TB : LamX.TabB base mg cC cP) (hcC : (fDat K (fA mg "_law_made_right")).code = .ref cC) (hTm : (cP, (("_law_made_right" : Str) ++ (".<locals>." : Str)) ++ ("<lambda>" : Str)) ∈ Tb) (hTo : ∀ p ∈ Tb, p.1 = cP → p.2 = (("_law_made_right" : Str) ++ (".<locals>." : Str)) ++ ("<lambda>" : Str)) :
    OkG P w K mg base CX0 15 (fA mg "_law_made_right") (fDat K (fA mg "_law_made_right")) ["_law_pen_here"] (spMadeR Tb) := by
  have G_law_draw := ok_draw (P := P) (w := w) (base := base) T._law_draw.F T
  have G_law_pick := ok_pick (P := P) (w := w) (base := base) T
  have G_law_any := ok_any (P := P) (w := w) (base := base) T
  have G_law_ratio := ok_law_ratio (P := P) (w := w) (base := base) T
  have G_law_some_ratio := ok_some_ratio (P := P) (w := w) (base := base) T
  have G_law_passed := ok_passed (P := P) (w := w) (base := base) T
  have G_law_poly := ok_law_poly (P := P) (w := w) (base := base) T
  have GPoly_init := ok_Poly_init (P := P) (w := w) (base := base) T TP
  have GPoly_eq := ok_Poly_eq (P := P) (w := w) (base := base) T TP
  have GPoly_degree := ok_Poly_degree (P := P) (w := w) (base := base) T TP
  obtain ⟨oc, od, kV, doc, pm, an, cdw, ct, osl, efd, lk, hcg⟩ := T._law_why.F.ex
  have lk' := efd ▸ lk
  have b' := efd ▸ T._law_why.b
  refine okGc T._law_made_right.F hcC sc_law_made_right (fun vs H Q E h => ?_) (fun A outer s H vs Q E hr hq h => ?_)
  · obtain ⟨p, c, m, rfl, _⟩ := h
    rfl
  obtain ⟨p, c, m, rfl, hP, hm, hT, k⟩ := h
  refine ⟨_, (pss_cons (ps_setLc (i := 1) (own := [("_law_k", 2)]) (g := gName 2) (tt := tYes) (by rfl) sc_law_made_right.nd rfl rfl (sw_true rfl rfl rfl (by decide +kernel)) (pi_range1 (by rfl) T.range (pa_cons (pe_c T._law_draw G_law_draw (hr.mono (by decide)) (pa_cons (pv 0) (pa_cons pe_int pa_nil))) pa_nil)) (blkOk_by (own := [("_law_k", 2)]) (N := ["_law_pen_here", "_law_numbers", "_law_k", "_law_given", "_law_due", "_law_number", "_law_lists", "_law_kept", "_law_made", "_law_other", "_law_odd", "_law_strange"]) (sc := defScope s_law_made_right) (by decide +kernel)) (fun _ _ _ _ _ => pg_name (i := 2) sc_law_made_right.nd rfl (Or.inl rfl)) (fun _ _ _ _ _ => pts_nil) (fun _ _ _ _ _ => (pe_c T._law_pick G_law_pick (hr.mono (by decide)) (pa_cons (pv 0) (pa_cons (pe_lst (pa_cons (pe_tup (pa_cons pe_int (pa_cons pe_int pa_nil))) (pa_cons (pe_c T._law_ratio G_law_ratio (hr.mono (by decide)) (pa_cons (pv 0) (pa_cons pe_int pa_nil))) (pa_cons (pe_c T._law_some_ratio G_law_some_ratio (hr.mono (by decide)) (pa_cons (pv 0) pa_nil)) pa_nil)))) pa_nil)))))
  (pss_cons (ps_set (i := 1) sc_law_made_right.nd rfl (Or.inl rfl) (pe_op op_cat (pv 1) (pe_op op_rep (pe_lst (pa_cons (pe_tup (pa_cons pe_int (pa_cons pe_int pa_nil))) pa_nil)) (pe_c T._law_draw G_law_draw (hr.mono (by decide)) (pa_cons (pv 0) (pa_cons pe_int pa_nil))))))
  (pss_cons (ps_asg (pe_tup (pa_cons (pe_lc (own := [("_law_number", 5)]) (g := gName 5) (tt := tYes) (by rfl) sc_law_made_right.nd (pi_list (pv 1)) (blkOk_by (own := [("_law_number", 5)]) (N := ["_law_pen_here", "_law_numbers", "_law_k", "_law_given", "_law_due", "_law_number", "_law_lists", "_law_kept", "_law_made", "_law_other", "_law_odd", "_law_strange"]) (sc := defScope s_law_made_right) (by decide +kernel)) (fun _ _ _ _ _ => pg_name (i := 5) sc_law_made_right.nd rfl (Or.inl rfl)) (fun _ _ _ _ _ => pts_nil) (fun _ _ _ _ _ => (pe_c T._law_passed G_law_passed (hr.mono (by decide)) (pa_cons (pv 0) (pa_cons (pv 5) pa_nil))))) (pa_cons (pe_callTy call_tuple_of (by rfl) T.tuple (by decide +kernel) (pa_cons (pe_c T._law_poly G_law_poly (hr.mono (by decide)) (pa_cons (pv 1) pa_nil)) pa_nil)) pa_nil))) (pg_tup rfl (pgs_cons (pg_name (i := 3) sc_law_made_right.nd rfl (Or.inr rfl)) (pgs_cons (pg_name (i := 4) sc_law_made_right.nd rfl (Or.inl rfl)) pgs_nil))))
  (pss_cons (ps_setLc (i := 6) (own := [("_law_number", 5)]) (g := gName 5) (tt := tYes) (by rfl) sc_law_made_right.nd rfl rfl (sw_true rfl rfl rfl (by decide +kernel)) (pi_list (pv 1)) (blkOk_by (own := [("_law_number", 5)]) (N := ["_law_pen_here", "_law_numbers", "_law_k", "_law_given", "_law_due", "_law_number", "_law_lists", "_law_kept", "_law_made", "_law_other", "_law_odd", "_law_strange"]) (sc := defScope s_law_made_right) (by decide +kernel)) (fun _ _ _ _ _ => pg_name (i := 5) sc_law_made_right.nd rfl (Or.inl rfl)) (fun _ _ _ _ _ => pts_nil) (fun _ _ _ _ _ => (pe_callTy (show CallR _ (.type "list") (fun xs H Q => ∃ p ys, xs = [.ref p] ∧ (SqL K H p ys ∨ SqT K H p ys) ∧ ∀ l, H l = none → Q (.ref l) (upd H l (.lst ys))) from call_list_of) (by rfl) T.list (by decide +kernel) (pa_cons (pv 5) pa_nil))))
  (pss_cons (ps_set (i := 7) sc_law_made_right.nd rfl (Or.inl rfl) (pe_callB (id := "repr") (call_show hq (hu64 hr)) (by rfl) T.repr (by decide +kernel) (pa_cons (pe_tup (pa_cons (pv 3) (pa_cons (pv 6) pa_nil))) pa_nil)))
  (pss_cons (ps_par (i := 8) (j := 9) (by rfl) sc_law_made_right.nd rfl rfl (by decide) rfl rfl (pa_cons (pe_make TP.mkc GPoly_init (hr.mono (by decide)) (by rfl) TP.g TP.m_init.b .nil passL (pa_cons (pe_c T._law_pick G_law_pick (hr.mono (by decide)) (pa_cons (pv 0) (pa_cons (pe_lst (pa_cons (pv 3) (pa_cons (pe_callTy call_tuple_of (by rfl) T.tuple (by decide +kernel) (pa_cons (pv 3) pa_nil)) pa_nil))) pa_nil))) pa_nil)) (pa_cons (pe_make TP.mkc GPoly_init (hr.mono (by decide)) (by rfl) TP.g TP.m_init.b .nil passL (pa_cons (pv 6) pa_nil)) pa_nil)) (by rfl))
  (pss_cons (ps_if (pt_cmpR op_ne (pe_callB (id := "repr") (call_show hq (hu64 hr)) (by rfl) T.repr (by decide +kernel) (pa_cons (pe_tup (pa_cons (pv 3) (pa_cons (pv 6) pa_nil))) pa_nil)) (pv 7) (nomark _)) (pss_one (ps_ret pe_bl)) pss_nil)
  (pss_cons (ps_for PassesOwn.never rfl (pi_list (pv 6)) (pg_name (i := 5) sc_law_made_right.nd rfl (Or.inl rfl))
  (pss_one (ps_asg (pe_op op_add (pe_ix ix_list (pv 5) pe_int (fun _ _ => rfl)) pe_int) (pg_sub (pv 5) pe_int set_list))))
  (pss_cons (ps_expr (pe_bm PySem.F.plainAttrs_list PySem.F.slot_list_append PySem.F.type_list_append mt_append (pv 6) (pa_cons (pe_tup (pa_cons pe_int (pa_cons pe_int pa_nil))) pa_nil)))
  (pss_cons (ps_if (PW.pt (pw_or (pt_cmpR op_ne (pe_callB (id := "repr") (call_show hq (hu64 hr)) (by rfl) T.repr (by decide +kernel) (pa_cons (pe_fld (pv 8) (by rfl)) pa_nil)) (pe_callB (id := "repr") (call_show hq (hu64 hr)) (by rfl) T.repr (by decide +kernel) (pa_cons (pv 4) pa_nil)) (nomark _)) (pw_or (pt_cmpR op_ne (pe_callB (id := "repr") (call_show hq (hu64 hr)) (by rfl) T.repr (by decide +kernel) (pa_cons (pe_fld (pv 9) (by rfl)) pa_nil)) (pe_callB (id := "repr") (call_show hq (hu64 hr)) (by rfl) T.repr (by decide +kernel) (pa_cons (pv 4) pa_nil)) (nomark _)) (pw_or1 (pt_not (pt_cmpR (op_eqO rfl TP.m_eq.at_ TP.m_eq.fn TP.subT GPoly_eq (hr.mono (by decide)) TP.m_eq.b) (pv 8) (pv 9) (nomark _))))))) (pss_one (ps_ret pe_bl)) pss_nil)
  (pss_cons (ps_if (PW.pt (pw_or (pt_cmpR op_ne (pe_meth0 (pv 8) TP.cls TP.m_degree.meth GPoly_degree (hr.mono (by decide)) TP.m_degree.b .nil pass0) (pe_op op_sub (pe_callB call_len_seq (by rfl) T.len PySem.boot_len (pa_cons (pv 4) pa_nil)) pe_int) (nomark _)) (pw_or (pt_cmpR (op_eqO rfl TP.m_eq.at_ TP.m_eq.fn TP.subT GPoly_eq (hr.mono (by decide)) TP.m_eq.b) (pv 8) (pe_make TP.mkc GPoly_init (hr.mono (by decide)) (by rfl) TP.g TP.m_init.b .nil passL (pa_cons (pe_op op_cat (pe_callTy call_list_of (by rfl) T.list (by decide +kernel) (pa_cons (pv 4) pa_nil)) (pe_lst (pa_cons pe_int pa_nil))) pa_nil)) (nomark _)) (pw_or (pt_cmpR (op_eqO rfl TP.m_eq.at_ TP.m_eq.fn TP.subT GPoly_eq (hr.mono (by decide)) TP.m_eq.b) (pv 8) (pv 4) (nomark _)) (pw_or1 (pt_cmpR (op_eqO rfl TP.m_eq.at_ TP.m_eq.fn TP.subT GPoly_eq (hr.mono (by decide)) TP.m_eq.b) (pe_make TP.mkc GPoly_init (hr.mono (by decide)) (by rfl) TP.g TP.m_init.b .nil passL (pa_cons (pe_tup (pa_cons pe_int pa_nil)) pa_nil)) pe_int (nomark _))))))) (pss_one (ps_ret pe_bl)) pss_nil)
  (pss_cons (ps_set (i := 10) sc_law_made_right.nd rfl (Or.inl rfl) (pe_c T._law_any G_law_any (hr.mono (by decide)) (pa_cons (pv 0) pa_nil)))
  (pss_cons (ps_if (pt_cmpR (op_neD (hu64 hr)) (pv 3) (pe_lst pa_nil) (nomark _)) (pss_cons (ps_asg (pv 10) (pg_sub (pv 3) (pe_c T._law_draw G_law_draw (hr.mono (by decide)) (pa_cons (pv 0) (pa_cons (pe_callB call_len_seq (by rfl) T.len PySem.boot_len (pa_cons (pv 3) pa_nil)) pa_nil))) set_list))
  (pss_one (ps_if (pt_cmpR (op_neD (hu64 hr)) (LamX.pe_lamcall (T := Tb) (TT := TTwhy K mg) (x := "_law_why") (a := "_law_call") (g := fA mg "_law_why") (c := cC) (P := cP) (k := 9) (Ng := ["_law_call", "e"]) (t := fun E => tMake (poA mg) (spInit mg) [] E (tCons (tVar 3) tNil))
     (by rfl) T._law_why.g T._law_why.F.kp lk' hcg b' sc_law_why rfl (.inl rfl) (why_gives T hq fun e => (hr.mono (by decide) : Room 2 _).deeper e) TB rfl (lam_memT hTm (by rfl)) (lam_onlyT hTo (by rfl)) (hr.mono (by decide)) (LamX.lamS_by (show LamX.lamSB (defScope s_law_made_right) _ = true from by decide +kernel)) rfl (fun _ _ _ _ _ => rfl)
     (fun A outer s H E f c' hr => pe_make TP.mkc GPoly_init (hr.mono (by decide)) (by rfl) TP.g TP.m_init.b .nil (passes_call (takes_of rfl rfl rfl rfl) (fun _ _ _ _ h => h)) (pa_cons (pv 3) pa_nil))) (pe_tup (pa_cons pe_str (pa_cons (pe_callB (id := "repr") (call_show hq (hu64 hr)) (by rfl) T.repr (by decide +kernel) (pa_cons (pv 3) pa_nil)) pa_nil))) (nomark _)) (pss_one (ps_ret pe_bl)) pss_nil))) pss_nil)
  (pss_cons (ps_set (i := 11) sc_law_made_right.nd rfl (Or.inr rfl) (pe_c T._law_pick G_law_pick (hr.mono (by decide)) (pa_cons (pv 0) (pa_cons (pe_lst (pa_cons pe_non (pa_cons pe_int (pa_cons pe_str (pa_cons (pe_disp (pps_cons pe_str pe_int pps_nil) (by rfl) (by rfl) (fun z => by cases z) (by decide)) (pa_cons pe_bl pa_nil)))))) pa_nil))))
  (pss_one (ps_ret (pe_cmpR (op_eqD (hu64 hr)) (LamX.pe_lamcall (T := Tb) (TT := TTwhy K mg) (x := "_law_why") (a := "_law_call") (g := fA mg "_law_why") (c := cC) (P := cP) (k := 9) (Ng := ["_law_call", "e"]) (t := fun E => tMake (poA mg) (spInit mg) [] E (tCons (tVar 11) tNil))
     (by rfl) T._law_why.g T._law_why.F.kp lk' hcg b' sc_law_why rfl (.inl rfl) (why_gives T hq fun e => (hr.mono (by decide) : Room 2 _).deeper e) TB rfl (lam_memT hTm (by rfl)) (lam_onlyT hTo (by rfl)) (hr.mono (by decide)) (LamX.lamS_by (show LamX.lamSB (defScope s_law_made_right) _ = true from by decide +kernel)) rfl (fun _ _ _ _ _ => rfl)
     (fun A outer s H E f c' hr => pe_make TP.mkc GPoly_init (hr.mono (by decide)) (by rfl) TP.g TP.m_init.b .nil (passes_call (takes_of rfl rfl rfl rfl) (fun _ _ _ _ h => h)) (pa_cons (pv 11) pa_nil))) (pe_tup (pa_cons pe_str (pa_cons (pe_callB (id := "repr") (call_show hq (hu64 hr)) (by rfl) T.repr (by decide +kernel) (pa_cons (pv 11) pa_nil)) pa_nil))) (nomark _)))))))))))))))))), ?_⟩
  refine q_asg (l_rngU (va_1 (c_call (va_cons (val_var rfl) (va_cons val_c va_nil)) ⟨p, c, 8, m, rfl, hP, by omega, by decide, by decide, fun r H1 r0 r1 b1 P1 => ⟨r, rfl, by omega, by omega, ?_⟩⟩)))
  refine rngB (k := 20) (R := fun D i v H => ∃ t q, v = .ref t ∧ Lo H t q ∧ Fin q) (fun D i v H H' p c m ⟨t, q, e, lo, sm⟩ P b => ⟨t, q, e, b.lo P lo, sm⟩) (fun D i v H ys zs ⟨t, q, e, lo, sm⟩ h => ⟨t, q, e, lo_upd h lo, sm⟩) P1 (by omega) (by omega) (fun _ => rfl) (fun D i x H2 hi b2 P2 _ _ => fun Q q => ?_) (fun D ys H2 b2 P2 nD e2 r2 l2 => ?_)
  · refine call_1 ((val_var rfl) _ (va_1 (l_s (va_x (l_tup (va_cons val_c (va_cons val_c va_nil)) (by decide) fun t0 ht0 => va_x (c_call (va_cons (val_var rfl) (va_cons val_c va_nil)) ⟨p, c, m + 1 + 20 * i, 9, rfl, P2.same (Same.new' ht0), by omega, by decide, by decide, fun t1 H3 q1 lo1 sm1 b3 P3 => va_1 (c_call (va_cons (val_var rfl) va_nil) ⟨p, c, m + 1 + 20 * i + 3, rfl, P3, by omega, fun t2 H4 x2 y2 low2 b4 P4 => ⟨by show 3 ≤ sizeLine; decide, fun z hz => ?_⟩⟩)⟩))))))
    have sz := Same.new' (o := .lst [.ref t0, .ref t1, .ref t2]) hz
    obtain ⟨q2, lo2, f2⟩ := low_lo low2
    have l0 : Lo H4 t0 0 := b4.lo P3 (b3.lo (P2.same (Same.new' ht0)) (zero_lo upd_same))
    have l1 : Lo H4 t1 q1 := b4.lo P3 lo1
    have P5 := P4.same sz
    refine ⟨p, c, z, _, _, rfl, P5, by omega, SqL.of upd_same, by show 0 < 3; decide, by show 3 < 1000000000; decide, fun v H6 hv b6 P6 => q v H6 ((((But.of (Same.new' ht0)).trans b3).trans b4).trans ((But.of sz).trans b6)) (P6.le (by omega)) ?_⟩
    simp only [List.mem_cons, List.not_mem_nil, or_false] at hv
    rcases hv with rfl | rfl | rfl
    · exact ⟨t0, 0, rfl, b6.lo P5 (l0.same sz), Fin.zero⟩
    · exact ⟨t1, q1, rfl, b6.lo P5 (l1.same sz), sm1.fin10⟩
    · exact ⟨t2, q2, rfl, b6.lo P5 (lo2.same sz), f2⟩
  obtain ⟨xs0, al0, fin0⟩ := run_lst r2
  have len0 := al0.len
  refine q_asg (l_padB (B := 2) (m' := m + 1 + 20 * r.toNat + 1) P2 (val_var rfl) ⟨ys, e2, al0⟩ (by omega) (by decide) (fun H3 s3 Q' k' => c_call (va_cons (val_var rfl) (va_cons val_c va_nil)) ⟨p, c, 3, _, rfl, P2.same s3, by omega, by decide, by decide, fun r' H4 r0' r1' b4 P4 => ?_⟩) fun N H3 k2 hk2 b3 P3 L3 => ?_)
  · obtain ⟨k3, rfl⟩ : ∃ k3 : Nat, r' = k3 := ⟨r'.toNat, by omega⟩
    exact k' k3 H4 (by omega) b4 P4
  have finx : Fins (xs0 ++ List.replicate k2 0) := fun q hq => by
    rcases List.mem_append.mp hq with h | h
    · exact fin0 q h
    · rw [List.eq_of_mem_replicate h]; exact Fin.zero
  have lenx : (xs0 ++ List.replicate k2 0).length ≤ 9 := by rw [List.length_append, List.length_replicate]; omega
  have P3 := P3.le (show m + 1 + 20 * r.toNat + 1 ≤ m + 150 by omega)
  have B3 := (b1.trans b2).trans b3
  clear al0 fin0 len0 e2 r2 l2 nD b2 b3 P2 P1 b1
  generalize xs0 ++ List.replicate k2 0 = xs at finx lenx L3
  obtain ⟨vs, eN, al⟩ := L3
  have len := al.len
  refine q_two (tup_two (l_lcBL (k := 3) (R := RqD (co xs)) (rqd_bu _) (rqd_off _) P3 (val_var rfl) (SqL.of eN) (by omega) (fun _ => rfl) (fun D i x H4 hx b4 P4 nD eD => fun Q q => ?_) (fun G ys H4 b4 P4 nG e4 r4 l4 => cb_one (c_call (va_cons (val_var rfl) va_nil) ⟨N, xs, rfl, Lst.but ⟨vs, eN, al⟩ b4 P3, by omega, fun l' H5 s5 L5 => ?_⟩))))
  · obtain ⟨q0, hq, t, rfl, lo⟩ := al.get hx
    have li : i < vs.length := (List.getElem?_eq_some_iff.mp hx).1
    refine c_passed (va_cons (val_var rfl) (va_cons (val_var rfl) va_nil)) P4 (by omega) (b4.lo P3 lo) (finx q0 (get_mem hq)) fun v H5 b5 P5 rq fr => q v H5 b5 (P5.le (by omega)) ⟨by rw [co_some hq]; exact rq, fun z => ?_⟩
    obtain ⟨ys, eD⟩ := eD
    have := fr D z
    rw [eD] at this
    cases this
  obtain ⟨us, eU, alU⟩ := L5
  refine ⟨l', us, rfl, .inl ⟨SqL.of eU, fun t ht => ⟨by show 2 ≤ sizeLine; decide, fun z hz => g_two (SqT.of upd_same) ?_⟩⟩⟩
  have s6 := Same.new' (o := .tup us) ht
  have s7 := Same.new' (o := .tup [.ref G, .ref t]) hz
  have due : Los (upd (upd H5 t (.tup us)) z (.tup [.ref G, .ref t])) t (trim xs) := ⟨us, s7 _ _ upd_same, alU.imp fun v q ⟨p, e, lo⟩ => ⟨p, e, (lo.same s6).same s7⟩⟩
  have S6 := (s5.trans s6).trans s7
  have P6 := P4.same S6
  have B6 := (B3.trans b4).trans (But.of S6)
  have eG := S6 _ _ e4
  have rG := Run.map (fun k v h => rqd_bu (co xs) G k v _ _ _ _ _ h P4 (But.of S6)) r4
  have L6 : Lst (upd (upd H5 t (.tup us)) z (.tup [.ref G, .ref t])) N xs := (Lst.but ⟨vs, eN, al⟩ b4 P3).same S6
  have P6 := P6.le (show m + 150 + 3 * vs.length ≤ m + 200 by omega)
  revert due P6 B6 eG rG L6
  generalize upd (upd H5 t (.tup us)) z (.tup [.ref G, .ref t]) = H6
  intro due B6 eG rG L6 P6
  have lG : ys.length = xs.length := by rw [l4, len]
  have cG : c ≠ G := by
    obtain ⟨_, _, _, _, ns3, _, hc3, _⟩ := P3
    exact ne_of_none hc3 nG
  clear S6 s6 s7 hz ht eU alU s5 e4 r4 b4 P4 nG eN al P3 B3 len l4
  -- lists
  obtain ⟨vs, eN, al⟩ := L6
  have len := al.len
  refine q_asg (l_lcBL (k := 0) (R := LsD H6 (co xs)) (lsd_bu _ _) (lsd_off _ _) P6 (val_var rfl) (SqL.of eN) (by omega) (fun _ => rfl) (fun D i x H7 hx b7 P7 nD eD => fun Q q => ?_) (fun LL zs H7 b7 P7 nL eL rL lL => ?_))
  · obtain ⟨q0, hq, t0, rfl, lo⟩ := al.get hx
    obtain ⟨ws, eD⟩ := eD
    refine cb_one ((val_var rfl) _ ⟨t0, _, rfl, .inr (SqT.of (b7.lo P6 lo)), fun t1 ht1 => q _ _ (But.of (Same.new' ht1)) (P7.same (Same.new' ht1)) ⟨t1, rfl, fun z => ?_, ?_, ?_⟩⟩)
    · rw [z, eD] at ht1
      cases ht1
    · cases h : H6 t1 with
      | none => rfl
      | some o =>
        obtain ⟨kvs, hd⟩ := P7.dk
        rw [b7 _ _ h (fun z => by rw [z, hd] at ht1; cases ht1)] at ht1
        cases ht1
    · rw [co_some hq]
      exact upd_same
  rw [len] at lL
  have P7 := P7.le (show m + 200 + 0 * vs.length ≤ m + 200 by omega)
  have eG7 := b7 _ _ eG (ne_of eG P6.dk.choose_spec (by intro z; cases z))
  have rG7 := Run.map (fun k v h => rqd_bu (co xs) G k v _ _ _ _ _ h P6 b7) rG
  have due7 : Los H7 t (trim xs) := due.but P6 b7
  obtain ⟨dG, nG, lenG, ddG⟩ := all_ncB (K := K) (H := H7) (p := p) (vs := ys) (B := 630) (k := 2) fun v hv => by
    obtain ⟨i, hi, e⟩ := List.getElem_of_mem hv
    obtain ⟨x, y, rt, f, _⟩ := (rG7.get (List.getElem?_eq_getElem hi)).1
    rw [e] at rt
    exact bu_dd (H' := H7) rt f P7
  obtain ⟨dL, nL', lenL, ddL⟩ := all_ncB (K := K) (H := H7) (p := p) (vs := zs) (B := 630) (k := 2) fun v hv => by
    obtain ⟨i, hi, e⟩ := List.getElem_of_mem hv
    obtain ⟨t1, e1, _, _, h⟩ := rL.get (List.getElem?_eq_getElem hi)
    rw [e] at e1
    subst e1
    have fi : Fin (co xs (0 + i)) := by
      have : xs[i]? = some (xs[i]'(by omega)) := List.getElem?_eq_getElem _
      rw [Nat.zero_add, co_some this]
      exact finx _ (get_mem this)
    exact bu_dd (H' := H7) (pair_lst h) fi.fit P7
  have ncT : Nc 60000 4 (.tuple [.list dG, .list dL]) := by
    refine (nc_tuple (B := 20000) (k := 3) fun d hd => ?_).mono (by show 2 * (20000 + 2) + 3 ≤ 60000; decide) (by decide)
    simp only [List.mem_cons, List.not_mem_nil, or_false] at hd
    rcases hd with rfl | rfl
    · refine (nc_list nG).mono ?_ (by decide)
      have := Nat.mul_le_mul_right (630 + 2) (show dG.length ≤ 9 by omega)
      omega
    · refine (nc_list nL').mono ?_ (by decide)
      have := Nat.mul_le_mul_right (630 + 2) (show dL.length ≤ 9 by omega)
      omega
  have eL7 : ∀ H', But p H7 H' → H' LL = some (.lst zs) := fun H' b => b _ _ eL (ne_of eL P7.dk.choose_spec (by intro z; cases z))
  have eG8 : ∀ H', But p H7 H' → H' G = some (.lst ys) := fun H' b => b _ _ eG7 (ne_of eG7 P7.dk.choose_spec (by intro z; cases z))
  have ddT : ∀ H' z, But p H7 H' → H' z = some (.tup [.ref G, .ref LL]) → Dd K H' (.ref z) (.tuple [.list dG, .list dL]) := fun H' z b e => .tup (SqT.of e) (.cons (.lst (SqL.of (eG8 H' b)) (ddG H' b)) (.cons (.lst (SqL.of (eL7 H' b)) (ddL H' b)) .nil))
  refine q_asg (cb_one (l_tup (va_cons (val_var rfl) (va_cons (val_var rfl) va_nil)) (by show 2 ≤ 100000; decide) fun z hz => ⟨_, _, rfl, ddT _ z (But.of (Same.new' hz)) upd_same, ncT.1, Nat.le_trans ncT.2.2.2 (by decide), Nat.le_trans ncT.2.1 (by decide), ?_⟩))
  have b8 := But.of (p := p) (Same.new' (o := .tup [.ref G, .ref LL]) hz)
  have P8 := P7.same (Same.new' (o := .tup [.ref G, .ref LL]) hz)
  revert b8 P8
  generalize upd H7 z (.tup [.ref G, .ref LL]) = H8
  intro b8 P8
  clear hz z
  -- made, other
  refine q_par (ta_two (va_1 (call_1 ((val_var rfl) _ (va_1 (l_two ((val_var rfl) _ (cb_one ((val_var rfl) _ ⟨G, ys, rfl, .inl ⟨SqL.of (eG8 H8 b8), fun t1 ht1 => ⟨by show 2 ≤ sizeLine; decide, fun q1 hq1 => ?_⟩⟩⟩)))))))))
  have s9 := Same.new' (o := .tup ys) ht1
  have s10 := Same.new' (o := .lst [.ref G, .ref t1]) hq1
  have P10 := (P8.same s9).same s10
  have b10 := b8.trans (But.of (s9.trans s10))
  refine ⟨p, c, q1, _, _, rfl, P10, by omega, SqL.of upd_same, by show 0 < 2; decide, by show 2 < 1000000000; decide, fun v H11 hv b11 P11 => ?_⟩
  have B11 := b10.trans b11
  obtain ⟨n', rfl, hS⟩ : ∃ n', v = .ref n' ∧ Sq H11 n' ys := by
    simp only [List.mem_cons, List.not_mem_nil, or_false] at hv
    rcases hv with rfl | rfl
    · exact ⟨_, rfl, .inl (eG8 _ B11)⟩
    · have e := s10 _ _ (upd_same (H := H8) (a := t1) (o := .tup ys))
      exact ⟨_, rfl, .inr (b11 _ _ e (ne_of e P10.dk.choose_spec (by intro z; cases z)))⟩
  have rG11 := Run.map (fun k v h => rqd_bu (co xs) G k v _ _ _ _ _ h P7 B11) rG7
  refine fun a dx hx hdx ne => made_poly2 hS (by omega) (run_rq rG11 lG) hx hdx ne fun H12 s12 pa => ⟨rfl, ?_⟩
  have B12 := B11.trans (But.of s12)
  have rL12 := Run.map (fun k v h => lsd_bu H6 (co xs) LL k v _ _ _ _ _ h P7 B12) rL
  refine va_1 ((val_var rfl) _ fun a2 dx2 hx2 hdx2 ne2 => made_poly2 (.inl (eL7 _ B12)) (by omega) (run_ls rL12 lL finx) hx2 hdx2 ne2 fun H13 s13 pa2 => ⟨rfl, _, _, rfl, ?_⟩)
  have B13 := B12.trans (But.of s13)
  have P13 := (P11.same s12).same s13
  have pa := pa.same s13
  refine t_unless (op_in (cb_one (l_tup (va_cons (val_var rfl) (va_cons (val_var rfl) va_nil)) (by show 2 ≤ 100000; decide) fun z hz => ⟨_, _, rfl, ddT _ z (B13.trans (But.of (Same.new' hz))) upd_same, ncT.1, Nat.le_trans ncT.2.2.2 (by decide), Nat.le_trans ncT.2.1 (by decide), (val_var rfl) _ (ne_same ⟨false, rfl, iteF ?_⟩)⟩)))
  have s14 := Same.new' (o := .tup [.ref G, .ref LL]) hz
  have B14 := B13.trans (But.of s14)
  have P14 := P13.same s14
  have pa := pa.same s14
  have pa2 := pa2.same s14
  have eL14 := eL7 _ B14
  have rL14 := Run.map (fun k v h => lsd_bu H6 (co xs) LL k v _ _ _ _ _ h P7 B14) rL
  have b14 := b7.trans B14
  revert B14 P14 pa pa2 eL14 rL14 b14
  generalize upd H13 z (.tup [.ref G, .ref LL]) = H14
  intro B14 P14 pa pa2 eL14 rL14 b14
  clear hz s14 P13 B13 s13 B12 rL12 s12 rG11 hS P11 b11 B11 hv P10 b10 s9 s10 hq1 ht1 P8 b8 B14 ddT eL7 eG8 rG7 due7 eG7 rL eL P7 b7
  have hT6 := Tabs.but hT hP B6
  -- the walk over the lists
  have it14 : ∀ v ∈ zs, ∃ t x y, v = V.ref t ∧ t ≠ LL ∧ H6 t = none ∧ H14 t = some (.lst [.int x, .int y]) := fun v hv => by
    obtain ⟨i, hi, e⟩ := List.getElem_of_mem hv
    obtain ⟨t1, e1, n1, n6, h1⟩ := rL14.get (List.getElem?_eq_getElem hi)
    exact ⟨t1, _, _, by rw [← e]; exact e1, n1, n6, h1⟩
  refine q_forL (xs := zs) (val_var rfl) (SqL.of eL14) (fun i σ H' => ∃ z, σ = [some (.ref p), some (.ref N), none, some (.ref G), some (.ref t), z, some (.ref LL), some (.str (PyData.tuple [.list dG, .list dL]).shown), some (.ref a), some (.ref a2), none, none] ∧ But p H6 H' ∧ PenAt H' p c (m + 200 + 1) ∧ PoAt (poA mg) H' a (trim xs) ∧ PoAt (poA mg) H' a2 (trim xs) ∧ H' LL = some (.lst zs) ∧ ∀ v ∈ zs, ∃ t x y, v = .ref t ∧ t ≠ LL ∧ H6 t = none ∧ H' t = some (.lst [.int x, .int y]))
    ⟨_, rfl, b14, P14, pa, pa2, eL14, it14⟩ (fun i σ H' _ z => SqL.of z.choose_spec.2.2.2.2.2.1) (fun i x σ H' hx z => ?_) (fun σ H' z => ?_)
  · obtain ⟨z, rfl, b, P, pa, pa2, eL, it⟩ := z
    obtain ⟨t1, x1, y1, rfl, n1, n6, e1⟩ := it _ (List.mem_of_getElem? hx)
    refine g_name ((v_add (i := x1) (j := 1) (v_ixL (n := 0) (val_var rfl) val_c (SqL.of e1) rfl) val_c) _ ?_)
    refine (val_var (v := .ref t1) rfl) _ (val_c _ ⟨t1, _, 0, 0, rfl, rfl, e1, rfl, ?_⟩)
    refine ⟨_, rfl, but_updN b n6, P.updN P6 n6 e1, pa.updL e1, pa2.updL e1, by rw [upd_ne (Ne.symm n1)]; exact eL, fun v hv => ?_⟩
    obtain ⟨t2, x2, y2, rfl, m1, m6, e2⟩ := it v hv
    by_cases h : t2 = t1
    · subst h
      exact ⟨t2, x1 + 1, y1, rfl, m1, m6, upd_same⟩
    · exact ⟨t2, x2, y2, rfl, m1, m6, by rw [upd_ne h]; exact e2⟩
  obtain ⟨z0, rfl, b15, P15, pa, pa2, eL15, it⟩ := z
  clear it it14 rL14 P14 b14 eL14 ncT
  -- one more
  refine q_app0 (val_var rfl) eL15 (l_tup (va_cons val_c (va_cons val_c va_nil)) (by decide) fun z hz => ⟨LL, zs, _, rfl, rfl, (Same.new' hz) _ _ eL15, Nat.lt_of_le_of_lt (m := 10) (by omega) (by decide), ?_⟩)
  have sz := Same.new' (o := .tup [.int 5, .int 1]) hz
  have eL16 := sz _ _ eL15
  have b16 := but_updN (zs := zs ++ [V.ref z]) (b15.trans (But.of sz)) nL
  have P16 := (P15.same sz).updN (zs := zs ++ [V.ref z]) P6 nL eL16
  have pa := (pa.same sz).updL (zs := zs ++ [V.ref z]) eL16
  have pa2 := (pa2.same sz).updL (zs := zs ++ [V.ref z]) eL16
  revert b16 P16 pa pa2
  generalize upd (upd H' z (.tup [.int 5, .int 1])) LL (.lst (zs ++ [V.ref z])) = H16
  intro b16 P16 pa pa2
  clear eL16 sz hz eL15 P15 b15 nL lL
  have due16 := due.but P6 b16
  have smx := finx.sms
  have tl : (trim xs).length ≤ 9 := by rw [trim_len]; exact Nat.le_trans (tlen_le xs) lenx
  have nc := polyD_nc smx.trim (by decide) (show (trim xs).length ≤ 100 by omega)
  have PA' := pa
  have PB' := pa2
  obtain ⟨dxa, ua, ea, la, ta⟩ := pa
  obtain ⟨dxb, ub, eb, lb, tb⟩ := pa2
  -- what was made, against what is due
  refine q_ifOr (t_op ((v_showP TP rfl PA' nc) _ ((v_showL (val_var rfl) due16 nc) _ (ne_same ⟨false, rfl, iteF ?_⟩))))
  refine or_in' (t_op ((v_showP TP rfl PB' nc) _ ((v_showL (val_var rfl) due16 nc) _ (ne_same ⟨false, rfl, iteF ?_⟩))))
  refine not_in (t_op ((val_var rfl) _ ((val_var rfl) _ ⟨a, _, _, rfl, ea, .inl ⟨a2, _, _, rfl, eb⟩, a, .ref a2, trim xs, rfl, PA', .inl ⟨a2, trim xs, rfl, PB', ⟨_, rfl⟩, true, by rw [decide_eq_true rfl], ?_⟩⟩)))
  refine iteF ?_
  -- its degree, other polynomials
  refine q_ifOr (t_op ((val_var rfl) _ ⟨a, _, _, rfl, ea, no_degree, a, trim xs, rfl, PA', (v_sub (v_lenL (val_var rfl) due16) val_c) _ (ne_sameV (by rfl) ⟨false, rfl, iteF ?_⟩)⟩))
  obtain ⟨us, eU, alU⟩ := due16
  have lU := alU.len
  refine or_in' (t_op ((val_var rfl) _ (va_1 (op_l' (cb_one ((val_var rfl) _ ⟨t, us, rfl, .inr (SqT.of eU), fun l1 hl1 => l_lst (va_cons val_c va_nil) (by decide) fun l2 hl2 => ⟨l1, l2, us, [.int 1], rfl, rfl, (Same.new' hl2) _ _ upd_same, upd_same, Nat.le_trans (m := 10) (by show us.length + 1 ≤ 10; omega) (by decide), fun l3 hl3 => ?_⟩⟩))))))
  have s17 := ((Same.new' (o := .lst us) hl1).trans (Same.new' (o := .lst [.int 1]) hl2)).trans (Same.new' (o := .lst (us ++ [.int 1])) hl3)
  have eN17 := upd_same (H := upd (upd H16 l1 (.lst us)) l2 (.lst [.int 1])) (a := l3) (o := .lst (us ++ [.int 1]))
  revert s17 eN17
  generalize upd (upd (upd H16 l1 (.lst us)) l2 (.lst [.int 1])) l3 (.lst (us ++ [.int 1])) = H17
  intro s17 eN17
  clear hl1 hl2 hl3
  have al17 : All2 (Rq H17) (us ++ [.int 1]) (trim xs ++ [1]) := All2.snoc ((Los.rqs (t := t) alU smx.trim (by decide)).imp fun v q r => r.same s17) (int_rq (i := 1) (Nat.one_lt_two_pow (by decide)))
  refine fun x dx hx hdx ne => made_poly2 (.inl eN17) (by rw [List.length_append]; show us.length + 1 ≤ 1000; omega) al17 hx hdx ne fun H18 s18 po => ⟨rfl, ?_⟩
  have S18 := s17.trans s18
  obtain ⟨dxo, fso, eo⟩ := po.obj
  refine ⟨a, _, _, rfl, S18 _ _ ea, .inl ⟨x, _, _, rfl, eo⟩, a, .ref x, trim xs, rfl, PA'.same S18, .inl ⟨x, _, rfl, po, ⟨_, rfl⟩, false, by rw [decide_eq_false (snoc_ne _)], iteF ?_⟩⟩
  refine or_in' (t_op ((val_var rfl) _ ((val_var rfl) _ ⟨a, _, _, rfl, S18 _ _ ea, .inr ⟨"tuple", .tup (S18 _ _ eU)⟩, a, .ref t, trim xs, rfl, PA'.same S18, .inr ⟨"tuple", .tup (S18 _ _ eU), .inr rfl, ⟨_, rfl⟩, false, rfl, iteF ?_⟩⟩)))
  refine t_op (va_1 (l_tup (vs := [.int 3]) (va_cons val_c va_nil) (by decide) fun q3 hq3 => ?_))
  have s19 := Same.new' (o := .tup [.int 3]) hq3
  refine fun y dy hy hdy ney => made_poly2 (xs := [Rat.divInt 3 1]) (.inr upd_same) (by show 1 ≤ 1000; decide) (.cons (int_rq (i := 3) (Nat.lt_of_lt_of_le (show 3 < 2 ^ 2 by decide) (Nat.pow_le_pow_right (by decide) (by decide)))) .nil) hy hdy ney fun H20 s20 po3 => ⟨rfl, ?_⟩
  obtain ⟨dyo, fsy, ey⟩ := po3.obj
  refine val_c _ ⟨y, _, _, rfl, ey, .inr ⟨"int", .int _⟩, y, .int 3, _, rfl, po3, .inr ⟨"int", .int _, .inl rfl, ⟨_, rfl⟩, false, rfl, iteF ?_⟩⟩
  have S20 := (S18.trans s19).trans s20
  have b20 := b16.trans (But.of S20)
  have P20 := P16.same S20
  clear S20 s20 s19 po3 ey S18 s18 po eo al17 eN17 s17 eU alU ea eb la lb PA' PB' P16 b16
  -- one that is no ratio
  refine q_asg (c_call (va_cons (val_var rfl) va_nil) ⟨p, c, _, rfl, P20, by omega, fun odd H21 g21 fr b21 P21 => ?_⟩)
  have eG20 := b20 _ _ eG (ne_of eG P6.dk.choose_spec (by intro z; cases z))
  have nO : odd ≠ .ref G := fun z => by
    have := fr G z
    rw [eG20] at this
    cases this
  have b21' := b20.trans b21
  have eG21 := b21' _ _ eG (ne_of eG P6.dk.choose_spec (by intro z; cases z))
  have rG21 := Run.map (fun k v h => rqd_bu (co xs) G k v _ _ _ _ _ h P6 b21') rG
  have hT21 := Tabs.but hT6 P6 b21'
  clear b21' b20 P20 b21 fr eG20
  refine q_ifK (I := fun H' => PenAt H' p c (m + 210) ∧ LamX.Tabs Tb H') (fun H' ⟨P, hT'⟩ => ?_) (fun rest => ?_)
  · refine q_asg (call_1 ((val_var rfl) _ (va_1 (l_s (va_s val_c (va_s val_c (va_s val_c (va_x (em_dicF (P := fun v H2 => ∃ a, v = .ref a ∧ H' a = none ∧ H2 a = some (.dK [(aK, .int 1)])) (key := aK) (v := .int 1) (fun _ => val_c) (fun a H2 n e => ⟨a, rfl, n, e⟩) _ fun v H22 s22 ⟨da, ev, nda, ed⟩ => va_1 (val_c _ ⟨by show 5 ≤ sizeLine; decide, fun q hq => ?_⟩))))))))))
    subst ev
    have sq := Same.new' (o := .lst [.non, .int 5, .str "12", .ref da, .bl true]) hq
    have P23 := (P.same s22).same sq
    refine ⟨p, c, q, _, _, rfl, P23, by omega, SqL.of upd_same, by show 0 < 5; decide, by show 5 < 1000000000; decide, fun v H24 hv b24 P24 => ?_⟩
    have nd : da ≠ p := fun z => by
      obtain ⟨kvs, hd⟩ := P.dk
      rw [z, hd] at nda
      cases nda
    have ed24 := b24 _ _ (sq _ _ ed) nd
    have hT24 := Tabs.but (Tabs.same (Tabs.same hT' s22) sq) P23 b24
    obtain ⟨d, nr, f⟩ := strange_ok (K := K) hv (bare_at ed24 fun _ z => by cases z)
    exact st_ret' (row_eq rfl (bare_no H24) (bare_in H24) hT24 f nr fun H25 s25 T25 => k H25 ((PenAt.bare P24).same s25 |>.le (by omega)) T25)
  · refine t_op ((val_var rfl) _ (l_lst va_nil (by decide) fun e he => ?_))
    have s22 := Same.new' (o := .lst []) he
    have rG22 := Run.map (fun k v h => rqd_bu (co xs) G k v _ _ _ _ _ h P21 (But.of s22)) rG21
    have al22 := run_rq rG22 lG
    obtain ⟨ds, h1, h2, h3, h4⟩ := rqs_dp (K := K) al22
    refine ⟨_, .list [], .lst (SqL.of (s22 _ _ eG21)) h1, .lst (SqL.of upd_same) .nil, list_shaped h2 h3, by rfl, _, rfl, ?_⟩
    rw [eqv_nil]
    by_cases hy : ds = []
    · rw [decide_eq_true hy]
      exact iteF (rest _ ⟨(P21.same s22).le (by omega), Tabs.same hT21 s22⟩)
    · rw [decide_eq_false hy]
      refine iteT ?_
      have y0 : 0 < ys.length := by
        rw [← h4]
        exact List.length_pos_iff.mpr hy
      refine q_asgG ((val_var rfl) _ ((val_var (v := .ref G) rfl) _ (c_call (va_cons (val_var rfl) (va_cons (v_len (val_var rfl) (.inl (SqL.of (s22 _ _ eG21)))) va_nil)) ⟨p, c, (ys.length : Int), _, rfl, P21.same s22, by omega, by omega, by omega, fun r H23 r0 r1 b23 P23 => ?_⟩)))
      obtain ⟨j, rfl⟩ : ∃ j : Nat, r = j := ⟨r.toNat, by omega⟩
      have P22 := P21.same s22
      have eG23 := b23 _ _ (s22 _ _ eG21) (ne_of (s22 _ _ eG21) P22.dk.choose_spec (by intro z; cases z))
      refine ⟨G, ys, (j : Int), j, rfl, rfl, eG23, ixN_nat (by omega), ?_⟩
      have rG23 := Run.map (fun k v h => rqd_bu (co xs) G k v _ _ _ _ _ h P22 b23) rG22
      have rG24 := Run.map (fun k v h => rqd_off (co xs) G k v _ _ (ys.set j odd) h eG23) rG23
      have al24 := run_rq rG24 lG
      have g24 := ((g21.same s22).but P22 b23).updL (zs := ys.set j odd) eG23 nO
      have P24 : PenAt (upd H23 G (.lst (ys.set j odd))) p c (m + 210) := (P23.off (fun o h => by
        rw [upd_ne (ne_of P23.dk.choose_spec eG23 (by intro z; cases z))]
        exact h) (fun o h => by rw [upd_ne cG]; exact h)).le (by omega)
      have T24 := Tabs.updL (zs := ys.set j odd) (Tabs.but (Tabs.same hT21 s22) P22 b23) eG23
      have e24 := upd_same (H := H23) (a := G) (o := .lst (ys.set j odd))
      revert al24 g24 P24 T24 e24
      generalize upd H23 G (.lst (ys.set j odd)) = H24
      intro al24 g24 P24 T24 e24
      have eb := bare_at e24 (fun _ z => by cases z)
      have alb := al24.imp fun v q h => Rq.bare h
      obtain ⟨d, f⟩ := fine_row (K := K) eb (by omega) alb (Odd.fine g24.bare)
      exact t_unless1 (row_ne rfl (bare_no H24) (bare_in H24) T24 f (no_row eb (by omega) (by omega) alb g24.bare.rat) fun H25 s25 T25 => ⟨false, rfl, iteF (rest _ ⟨(PenAt.bare P24).same s25, T25⟩)⟩)
end
end LW

namespace LW
open PySem PySem.Spec PyProof.Rows L2 GL
theorem psum_comm (xs ys : List Rat) : psum xs ys = psum ys xs := eq_of_co tlen_ofN tlen_ofN fun i => by
  unfold psum
  rw [co_ofN, co_ofN, Nat.max_comm]
  split
  · exact Rat.add_comm _ _
  · rfl
theorem co_psum (xs ys : List Rat) (i : Nat) : co (psum xs ys) i = co xs i + co ys i := by
  unfold psum
  rw [co_ofN]
  split
  · rfl
  · rw [co_none (xs := xs) (by omega), co_none (xs := ys) (by omega)]
    exact (Rat.add_zero 0).symm
theorem rsum_shift (n : Nat) (f : Nat → Rat) : rsum (n + 1) f = f 0 + rsum n fun i => f (i + 1) := by
  induction n with
  | zero => simp only [rsum]; grind
  | succ n ih =>
    show rsum (n + 1) f + f (n + 1) = _
    rw [ih]
    simp only [rsum]
    grind
theorem rsum_rev (n : Nat) (f : Nat → Rat) : rsum (n + 1) f = rsum (n + 1) fun s => f (n - s) := by
  induction n generalizing f with
  | zero => rfl
  | succ n ih =>
    rw [rsum_shift (n + 1) f, ih fun i => f (i + 1)]
    show _ = rsum (n + 1) (fun s => f (n + 1 - s)) + f (n + 1 - (n + 1))
    have e : rsum (n + 1) (fun s => f (n - s + 1)) = rsum (n + 1) (fun s => f (n + 1 - s)) := rsum_congr fun i hi => by
      rw [show n + 1 - i = n - i + 1 by omega]
    rw [e, Nat.sub_self]
    grind
theorem conv_comm (xs ys : List Rat) (i : Nat) : conv xs ys i = conv ys xs i := by
  unfold conv
  rw [rsum_rev]
  exact rsum_congr fun s hs => by
    rw [show i - (i - s) = s by omega, Rat.mul_comm]
theorem pmul_comm (xs ys : List Rat) : pmul xs ys = pmul ys xs := eq_of_co tlen_ofN tlen_ofN fun i => by
  unfold pmul
  rw [co_ofN, co_ofN, Nat.add_comm, conv_comm]
theorem pneg_sub (xs ys : List Rat) : psum ys (pneg xs) = pneg (psum xs (pneg ys)) := eq_of_co tlen_ofN (tlen_trim _) fun i => by
  rw [co_psum, co_neg, co_neg, co_psum, co_neg]
  grind
section
variable {P : Program} {w : World} {K : PySem.W.Frag} {mg : Str → Option Value} {base : Heap}
/-! ### the operators' names -/
theorem dn_add : PySem.dunder (Operator.info .Add).2 = ("__add__" : Str) := by decide +kernel
theorem dn_sub : PySem.dunder (Operator.info .Sub).2 = ("__sub__" : Str) := by decide +kernel
theorem dn_mul : PySem.dunder (Operator.info .Mult).2 = ("__mul__" : Str) := by decide +kernel
theorem dr_add : dunderR (Operator.info .Add).2 = ("__radd__" : Str) := by decide +kernel
theorem dr_sub : dunderR (Operator.info .Sub).2 = ("__rsub__" : Str) := by decide +kernel
theorem dr_mul : dunderR (Operator.info .Mult).2 = ("__rmul__" : Str) := by decide +kernel
theorem PolyT.i_add (TP : PolyT K mg) : OpI K (poA mg) (mA K (poA mg) "__add__") .Add := ⟨TP.me, by rw [dn_add]; exact TP.m_add.at_, TP.m_add.fn⟩
theorem PolyT.i_sub (TP : PolyT K mg) : OpI K (poA mg) (mA K (poA mg) "__sub__") .Sub := ⟨TP.me, by rw [dn_sub]; exact TP.m_sub.at_, TP.m_sub.fn⟩
theorem PolyT.i_mul (TP : PolyT K mg) : OpI K (poA mg) (mA K (poA mg) "__mul__") .Mult := ⟨TP.me, by rw [dn_mul]; exact TP.m_mul.at_, TP.m_mul.fn⟩
theorem PolyT.l_of (TP : PolyT K mg) {op : Operator} {T : String} (ho : op = .Add ∨ op = .Sub ∨ op = .Mult) (hT : T = "int" ∨ T = "tuple") : (∃ fo, PySem.W.findIn K (.type T) (PySem.dunder op.info.2) = some fo) ∧ ∃ ro, PySem.W.findIn K (.type T) (dunderR op.info.2) = some ro := by
  obtain ⟨⟨fo, ro, h1, h2, _⟩, fo', ro', g1, g2, _⟩ := TP.lr op ho
  rcases hT with rfl | rfl
  · exact ⟨⟨fo, h1⟩, ro, h2⟩
  · exact ⟨⟨fo', g1⟩, ro', g2⟩
theorem PolyT.t_add (TP : PolyT K mg) {T : String} (hT : T = "int" ∨ T = "tuple") : OpT K (poA mg) (mA K (poA mg) "__add__") T .Add := ⟨TP.me, by rw [dn_add]; exact TP.m_add.at_, TP.m_add.fn, ⟨_, by rw [dr_add]; exact TP.m_radd.at_⟩, (TP.l_of (.inl rfl) hT).1, (TP.l_of (.inl rfl) hT).2, TP.subT T hT⟩
theorem PolyT.t_sub (TP : PolyT K mg) {T : String} (hT : T = "int" ∨ T = "tuple") : OpT K (poA mg) (mA K (poA mg) "__sub__") T .Sub := ⟨TP.me, by rw [dn_sub]; exact TP.m_sub.at_, TP.m_sub.fn, ⟨_, by rw [dr_sub]; exact TP.m_rsub.at_⟩, (TP.l_of (.inr (.inl rfl)) hT).1, (TP.l_of (.inr (.inl rfl)) hT).2, TP.subT T hT⟩
theorem PolyT.t_mul (TP : PolyT K mg) {T : String} (hT : T = "int" ∨ T = "tuple") : OpT K (poA mg) (mA K (poA mg) "__mul__") T .Mult := ⟨TP.me, by rw [dn_mul]; exact TP.m_mul.at_, TP.m_mul.fn, ⟨_, by rw [dr_mul]; exact TP.m_rmul.at_⟩, (TP.l_of (.inr (.inr rfl)) hT).1, (TP.l_of (.inr (.inr rfl)) hT).2, TP.subT T hT⟩
theorem PolyT.rI_add (TP : PolyT K mg) : OpR' K (poA mg) (mA K (poA mg) "__radd__") "int" .Add true := ⟨TP.me, ⟨_, by rw [dn_add]; exact TP.m_add.at_⟩, by rw [dr_add]; exact TP.m_radd.at_, TP.m_radd.fn, (TP.lr .Add (.inl rfl)).1, TP.subC _ (.inl rfl)⟩
theorem PolyT.rI_sub (TP : PolyT K mg) : OpR' K (poA mg) (mA K (poA mg) "__rsub__") "int" .Sub true := ⟨TP.me, ⟨_, by rw [dn_sub]; exact TP.m_sub.at_⟩, by rw [dr_sub]; exact TP.m_rsub.at_, TP.m_rsub.fn, (TP.lr .Sub (.inr (.inl rfl))).1, TP.subC _ (.inl rfl)⟩
theorem PolyT.rI_mul (TP : PolyT K mg) : OpR' K (poA mg) (mA K (poA mg) "__rmul__") "int" .Mult true := ⟨TP.me, ⟨_, by rw [dn_mul]; exact TP.m_mul.at_⟩, by rw [dr_mul]; exact TP.m_rmul.at_, TP.m_rmul.fn, (TP.lr .Mult (.inr (.inr rfl))).1, TP.subC _ (.inl rfl)⟩
theorem PolyT.rT_add (TP : PolyT K mg) : OpR' K (poA mg) (mA K (poA mg) "__radd__") "tuple" .Add false := ⟨TP.me, ⟨_, by rw [dn_add]; exact TP.m_add.at_⟩, by rw [dr_add]; exact TP.m_radd.at_, TP.m_radd.fn, (TP.lr .Add (.inl rfl)).2, TP.subC _ (.inr rfl)⟩
theorem PolyT.rT_sub (TP : PolyT K mg) : OpR' K (poA mg) (mA K (poA mg) "__rsub__") "tuple" .Sub false := ⟨TP.me, ⟨_, by rw [dn_sub]; exact TP.m_sub.at_⟩, by rw [dr_sub]; exact TP.m_rsub.at_, TP.m_rsub.fn, (TP.lr .Sub (.inr (.inl rfl))).2, TP.subC _ (.inr rfl)⟩
theorem PolyT.rT_mul (TP : PolyT K mg) : OpR' K (poA mg) (mA K (poA mg) "__rmul__") "tuple" .Mult false := ⟨TP.me, ⟨_, by rw [dn_mul]; exact TP.m_mul.at_⟩, by rw [dr_mul]; exact TP.m_rmul.at_, TP.m_rmul.fn, (TP.lr .Mult (.inr (.inr rfl))).2, TP.subC _ (.inr rfl)⟩
end
end LW

namespace LW
open PySem PySem.Spec PyProof.Rows L2 GL
section
variable {P : Program} {w : World} {K : PySem.W.Frag} {mg : Str → Option Value} {base : Heap}

def PGv (mg : Str → Option Value) (te : TE) (σ : L2.St) (H : Hp) (zs : List Rat) : Prop := ∀ Q : VK, (∀ c H', Same H H' → PoAt (poA mg) H' c zs → Q (.ref c) H') → te σ H Q
def LGv (te : TE) (σ : L2.St) (H : Hp) (zs : List Rat) : Prop := ∀ Q : VK, (∀ l H', Same H H' → Lst H' l zs → Q (.ref l) H') → te σ H Q
def UGv (te : TE) (σ : L2.St) (H : Hp) (zs : List Rat) : Prop := ∀ Q : VK, (∀ t H', Same H H' → Los H' t zs → Q (.ref t) H') → te σ H Q
structure Fi (n : Nat) (xs : List Rat) : Prop where
  s : Sms n xs
  a : n * xs.length + n ≤ 400
  l : xs.length ≤ 400
  o : 1 ≤ n
section
variable {σ : L2.St} {H : Hp} {t1 t2 te te' : TE} {a b : Addr} {xs ys zs : List Rat} {n m : Nat} {f : List Rat → List Rat → List Rat} {v : V} {q : Rat}
theorem pg_two (h1 : Val t1 σ H (.ref a)) (h2 : Val t2 σ H (.ref b)) (pa : PoAt (poA mg) H a xs) (pb : PoAt (poA mg) H b ys) (fx : Fi n xs) (fy : Fi m ys) :
    PGv mg (tOp (fun x y H Q => ∃ a dx fs b dy gs, x = .ref a ∧ y = .ref b ∧ H a = some (.ins (poA mg) dx fs) ∧ H b = some (.ins (poA mg) dy gs) ∧ spBin mg f [x, y] H (obQ Q) E0) t1 t2) σ H (f xs ys) := fun Q q => by
  obtain ⟨dx, fs, ea⟩ := pa.obj
  obtain ⟨dy, gs, eb⟩ := pb.obj
  exact h1 _ (h2 _ ⟨a, dx, fs, b, dy, gs, rfl, rfl, ea, eb, a, .ref b, xs, ys, n, m, rfl, pa, .inl ⟨b, rfl, pb⟩, fx.s, fy.s, fx.o, fy.o, fx.a, fy.a, fx.l, fy.l, fun c H' s po => ⟨⟨_, rfl⟩, q c H' s po⟩⟩)
theorem pg_left (h1 : Val t1 σ H (.ref a)) (h2 : Val t2 σ H v) (pa : PoAt (poA mg) H a xs) (pb : Bes H v q) (fx : Fi n xs) (fy : Fi m (trim [q])) :
    PGv mg (tOp (fun x y H Q => (∃ a dx fs, x = .ref a ∧ H a = some (.ins (poA mg) dx fs) ∧ OfT H y "int" ∧ spBin mg f [x, y] H (obQ Q) E0) ∨ (∃ a dx fs, x = .ref a ∧ H a = some (.ins (poA mg) dx fs) ∧ OfT H y "tuple" ∧ spBin mg f [x, y] H (obQ Q) E0)) t1 t2) σ H (f xs (trim [q])) := fun Q k => by
  obtain ⟨dx, fs, ea⟩ := pa.obj
  have sp : spBin mg f [.ref a, v] H (obQ Q) E0 := ⟨a, v, xs, _, n, m, rfl, pa, .inr ⟨q, pb, rfl⟩, fx.s, fy.s, fx.o, fy.o, fx.a, fy.a, fx.l, fy.l, fun c H' s po => ⟨⟨_, rfl⟩, k c H' s po⟩⟩
  refine h1 _ (h2 _ ?_)
  rcases pb.2 with ⟨i, rfl⟩ | ⟨t, us, rfl, e⟩
  · exact .inl ⟨a, dx, fs, rfl, ea, .int i, sp⟩
  · exact .inr ⟨a, dx, fs, rfl, ea, .tup e, sp⟩
theorem pg_right (h1 : Val t1 σ H v) (h2 : Val t2 σ H (.ref a)) (pa : PoAt (poA mg) H a xs) (pb : Bes H v q) (fx : Fi n xs) (fy : Fi m (trim [q])) :
    PGv mg (tOp (fun x y H Q => (∃ a dx fs i, y = .ref a ∧ H a = some (.ins (poA mg) dx fs) ∧ x = .int i ∧ spBin mg f [y, x] H (obQ Q) E0) ∨ (∃ a dx fs q xs, y = .ref a ∧ H a = some (.ins (poA mg) dx fs) ∧ x = .ref q ∧ H q = some (.tup xs) ∧ spBin mg f [y, x] H (obQ Q) E0)) t1 t2) σ H (f xs (trim [q])) := fun Q k => by
  obtain ⟨dx, fs, ea⟩ := pa.obj
  have sp : spBin mg f [.ref a, v] H (obQ Q) E0 := ⟨a, v, xs, _, n, m, rfl, pa, .inr ⟨q, pb, rfl⟩, fx.s, fy.s, fx.o, fy.o, fx.a, fy.a, fx.l, fy.l, fun c H' s po => ⟨⟨_, rfl⟩, k c H' s po⟩⟩
  refine h1 _ (h2 _ ?_)
  rcases pb.2 with ⟨i, rfl⟩ | ⟨t, us, rfl, e⟩
  · exact .inl ⟨a, dx, fs, i, rfl, ea, rfl, sp⟩
  · exact .inr ⟨a, dx, fs, t, us, rfl, ea, rfl, e, sp⟩
theorem pg_neg (h : PGv mg te σ H xs) (s : Sms n xs) (hn : n ≤ 900) (hl : xs.length ≤ 1000) : PGv mg (tUn (fun x H Q => ∃ a dx fs, x = .ref a ∧ H a = some (.ins (poA mg) dx fs) ∧ spNeg mg [x] H Q E0) te) σ H (pneg xs) := fun Q q => h _ fun c H1 s1 pc => by
  obtain ⟨dx, fs, e⟩ := pc.obj
  exact ⟨c, dx, fs, rfl, e, c, xs, n, rfl, pc, s, hn, hl, fun c' H' s' po => q c' H' (s1.trans s') po⟩
theorem pg_val (h : Val te σ H (.ref a)) (pa : PoAt (poA mg) H a xs) : PGv mg te σ H xs := fun Q q => h _ (q a H (Same.refl H) pa)
theorem ug_fld (TP : PolyT K mg) (h : PGv mg te σ H zs) : UGv (tFld K te "numbers") σ H zs := fun Q q => h _ fun c H1 s1 ⟨dx, t, e, l, _⟩ => ⟨c, poA mg, dx, _, .ref t, rfl, e, TP.cls, TP.no, rfl, q t H1 s1 l⟩
theorem ug_tup (h : LGv te σ H zs) : UGv (tCB (fun xs H Q => ∃ p ys, xs = [.ref p] ∧ ((SqL K H p ys ∧ ∀ l, H l = none → Q (.ref l) (upd H l (.tup ys))) ∨ (SqT K H p ys ∧ Q (.ref p) H))) (tCons te tNil)) σ H zs := fun Q q => cb_one (h _ fun l H1 s1 ⟨vs, e, al⟩ => ⟨l, vs, rfl, .inl ⟨SqL.of e, fun t ht => q t _ (s1.trans (Same.new' ht)) ⟨vs, upd_same, al.imp fun v q ⟨p, e, lo⟩ => ⟨p, e, lo.same (Same.new' ht)⟩⟩⟩⟩)
theorem ug_ne {K' : Bool → Hp → Prop} (h : UGv te σ H zs) (h' : ∀ H1, Same H H1 → UGv te' σ H1 zs) (k : ∀ H2, Same H H2 → K' false H2) : tTest (tOp (rNeD K) te te') σ H K' := t_op (h _ fun t H1 s1 l1 => h' H1 s1 _ fun t' H2 s2 l2 => ⟨_, _, los_dp (l1.same s2), los_dp l2, polyD_shaped _, polyD_shaped _, false, by
  have : PyData.eqv (polyD zs) (polyD zs) = true := by
    show PyData.eqvAll _ _ = true
    rw [polyD_eqv, decide_eq_true rfl]
  rw [this]
  rfl, k H2 (s1.trans s2)⟩)
theorem ug_sh {K' : Bool → Hp → Prop} (nc : Nc 64000 3 (polyD zs)) (h : UGv te σ H zs) (h' : ∀ H1, Same H H1 → UGv te' σ H1 zs) (k : ∀ H2, Same H H2 → K' false H2) : tTest (tOp rNe (tCB (rShow K) (tCons te tNil)) (tCB (rShow K) (tCons te' tNil))) σ H K' :=
  t_op (cb_one (h _ fun t H1 s1 l1 => ⟨_, _, rfl, los_dd l1, nc.1, Nat.le_trans nc.2.2.2 (by decide), Nat.le_trans nc.2.1 (by decide), cb_one (h' H1 s1 _ fun t' H2 s2 l2 => ⟨_, _, rfl, los_dd l2, nc.1, Nat.le_trans nc.2.2.2 (by decide), Nat.le_trans nc.2.1 (by decide), ne_same ⟨false, rfl, k H2 (s1.trans s2)⟩⟩)⟩))
theorem pg_eq {K' : Bool → Hp → Prop} (h : PGv mg te σ H zs) (h' : ∀ H1, Same H H1 → PGv mg te' σ H1 zs) (k : ∀ H2, Same H H2 → K' true H2) :
    tTest (tOp (fun x y H Q => ∃ a dx fs, x = .ref a ∧ H a = some (.ins (poA mg) dx fs) ∧ ((∃ b dy gs, y = .ref b ∧ H b = some (.ins (poA mg) dy gs)) ∨ ∃ T, OfT H y T) ∧ spEqP mg [x, y] H (fun v H' => (∃ b, v = .bl b) ∧ Q v H') E0) te te') σ H K' :=
  t_op (h _ fun c H1 s1 pc => h' H1 s1 _ fun d H2 s2 pd => by
    have pc := pc.same s2
    obtain ⟨dx, fs, ec⟩ := pc.obj
    obtain ⟨dy, gs, ed⟩ := pd.obj
    exact ⟨c, dx, fs, rfl, ec, .inl ⟨d, dy, gs, rfl, ed⟩, c, .ref d, zs, rfl, pc, .inl ⟨d, zs, rfl, pd, ⟨_, rfl⟩, true, by rw [decide_eq_true rfl], k H2 (s1.trans s2)⟩⟩)
theorem lg_two {ta : TA} {E : XK} {l k : Addr} (h : VA ta σ H [.ref l, .ref k]) (Lx : Lst H l xs) (Ly : Lst H k ys) (fx : Fi n xs) (fy : Fi m ys) : LGv (tCall (spLPlus2 f) [] E ta) σ H (f xs ys) := fun Q q => by
  have := fx.a
  have := fy.a
  exact c_call h ⟨l, k, xs, ys, n, m, rfl, Lx, Ly, fx.s, fy.s, fx.o, fy.o, by omega, by omega, Nat.le_trans fx.l (by decide), Nat.le_trans fy.l (by decide), q⟩
theorem lg_times {ta : TA} {E : XK} {l k : Addr} (h : VA ta σ H [.ref l, .ref k]) (Lx : Lst H l xs) (Ly : Lst H k ys) (fx : Fi n xs) (fy : Fi m ys) (z : (n + m + 1) * xs.length + n + m + 1 ≤ 900) : LGv (tCall spLTimes [] E ta) σ H (pmul xs ys) := fun Q q =>
  c_call h ⟨l, k, xs, ys, n, m, rfl, Lx, Ly, fx.s, fy.s, fx.o, fy.o, z, fx.l, fy.l, q⟩
theorem lg_neg {E : XK} {i : Nat} {l : Addr} (h : Val (tVar i) σ H (.ref l)) (Lx : Lst H l xs) (fx : Fi n xs) : LGv (tCall spLScaled [] E (tCons (tVar i) (tCons (tTup (tCons (tUn (rU fun i => .int (-i)) (tC (.int 1))) (tCons (tC (.int 1)) tNil))) tNil))) σ H (pneg xs) := fun Q q => by
  have fa := fx.a
  refine call_1 (h _ (va_1 (l_tup (va_cons (v_neg val_c) (va_cons val_c va_nil)) (by decide) fun t ht => ⟨l, t, xs, -1, n, 1, rfl, Lx.same (Same.new' ht), m1_lo upd_same, fx.s, m1_sm, fx.o, by omega, by decide, Nat.le_trans fx.l (by decide), fun l1 H1 s1 L1 => ?_⟩)))
  rw [pscale_neg] at L1
  exact q l1 H1 ((Same.new' ht).trans s1) L1
theorem lg_slope {ta : TA} {E : XK} {l : Addr} (h : VA ta σ H [.ref l]) (Lx : Lst H l xs) (fx : Fi n xs) : LGv (tCall spLSlope [] E ta) σ H (pslope xs) := fun Q q => by
  have := fx.a
  exact c_call h ⟨l, xs, n, rfl, Lx, fx.s, by omega, fx.l, q⟩
theorem lg_val (h : Val te σ H (.ref a)) (L : Lst H a xs) : LGv te σ H xs := fun Q q => h _ (q a H (Same.refl H) L)
theorem q_unT {t : TT} {t1 tz : TS} {D : Ends} (h : t σ H fun b H1 => if b = true then t1 { D with nx := tz D } σ H1 else tz D σ H1) : tSeq (tIfS t t1 tNext) tz D σ H := h
end
theorem ofN_len (n : Nat) (f : Nat → Rat) : (ofN n f).length ≤ n := by
  unfold ofN
  rw [trim_len]
  exact Nat.le_trans (tlen_le _) (by rw [List.length_map, List.length_range]; exact Nat.le_refl _)
theorem trim_self {xs : List Rat} (h : tlen xs = xs.length) : trim xs = xs := by
  unfold trim
  rw [h, List.take_length]
theorem psum_sms {n m : Nat} {xs ys : List Rat} (sx : Sms n xs) (sy : Sms m ys) (n1 : 1 ≤ n) (m1 : 1 ≤ m) : Sms (n + m + 1) (psum xs ys) := Sms.trim (Sms.of fun i _ => (sx.co n1 i).add (sy.co m1 i))
theorem psum_len (xs ys : List Rat) : (psum xs ys).length ≤ max xs.length ys.length := ofN_len _ _
theorem pmul_sms {n m : Nat} {xs ys : List Rat} (sx : Sms n xs) (sy : Sms m ys) (n1 : 1 ≤ n) (m1 : 1 ≤ m) : Sms ((n + m + 1) * xs.length + 1) (pmul xs ys) := Sms.trim (Sms.of fun i _ => by
  rw [conv_trm]
  exact rsum_sm (trm_sm sx sy n1 m1 i) _)
theorem pmul_len (xs ys : List Rat) : (pmul xs ys).length ≤ xs.length + ys.length := ofN_len _ _
theorem no_slope {v : V} : ([("numbers", v)] : List (Str × V)).lookup ("slope" : Str) = none := by
  have ne : (("slope" : Str) == ("numbers" : Str)) = false := by decide +kernel
  rw [List.lookup_cons, ne]
  rfl
theorem no_at {v : V} : ([("numbers", v)] : List (Str × V)).lookup ("at" : Str) = none := by
  have ne : (("at" : Str) == ("numbers" : Str)) = false := by decide +kernel
  rw [List.lookup_cons, ne]
  rfl
theorem pg_slope {σ : L2.St} {H : Hp} {te : TE} {a : Addr} {xs : List Rat} {n : Nat} (h : Val te σ H (.ref a)) (pa : PoAt (poA mg) H a xs) (fx : Fi n xs) : PGv mg (tMeth (poA mg) "slope" (spSlope mg) [] E0 te tNil) σ H (pslope xs) := fun Q q => by
  have pa' := pa
  have := fx.a
  obtain ⟨dx, t, e, l, z⟩ := pa
  exact h _ ⟨a, dx, _, rfl, e, no_slope, a, xs, n, rfl, pa', fx.s, fx.o, by omega, fx.l, q⟩
theorem peval_sm {n m : Nat} {q : Rat} (sq : Sm m q) : ∀ {xs : List Rat}, Sms n xs → Sm ((n + m + 1) * xs.length + 1) (peval xs q)
  | [], _ => Sm.zero (by omega)
  | x :: r, s => by
    have h := peval_sm sq (xs := r) fun y hy => s y (by simp [hy])
    have e : x + q * peval r q = x + peval r q * q := by rw [Rat.mul_comm]
    rw [peval, e]
    refine ((s x (by simp)).add (h.mul sq)).mono ?_
    rw [List.length_cons, Nat.mul_succ]
    omega
theorem va_two {σ : L2.St} {H : Hp} {i j : Nat} {x y : Addr} (h1 : σ[i]? = some (some (.ref x))) (h2 : σ[j]? = some (some (.ref y))) : VA (tCons (tVar i) (tCons (tVar j) tNil)) σ H [.ref x, .ref y] := va_cons (val_var h1) (va_cons (val_var h2) va_nil)
theorem if_num {σ : L2.St} {H : Hp} {t : Addr} {q : Rat} (h : σ[7]? = some (some (.ref t))) (lo : Lo H t q) : EM (tIf (tTest (tOp rEq (tOp (rIxT K) (tVar 7) (tC (.int 1))) (tC (.int 1)))) (tLst (tCons (tOp (rIxT K) (tVar 7) (tC (.int 0))) tNil)) (tLst tNil)) σ H (fun v H' => ∃ z us, v = .ref z ∧ H' z = some (.lst us) ∧ (us = [] ∨ (q.den = 1 ∧ us = [.int q.num]))) := fun Q k => by
  refine (ans_eq (x := .int (q.den : Int)) (y := .int 1) (b := decide (q.den = 1)) (v_ixT (n := 1) (val_var h) val_c (SqT.of lo) rfl) val_c rfl (by
    by_cases e : q.den = 1
    · rw [e]; rfl
    · rw [decide_eq_false e, decide_eq_false (fun z => e (by injection z; omega))])) _ ?_
  by_cases e : q.den = 1
  · rw [decide_eq_true e]
    exact iteT (l_lst (va_cons (v_ixT (n := 0) (val_var h) val_c (SqT.of lo) rfl) va_nil) (by show 1 ≤ 100000; decide) fun z hz => k _ _ (Same.new' hz) ⟨z, _, rfl, upd_same, .inr ⟨e, rfl⟩⟩)
  · rw [decide_eq_false e]
    exact iteF (l_lst va_nil (by decide) fun z hz => k _ _ (Same.new' hz) ⟨z, _, rfl, upd_same, .inl rfl⟩)
theorem Bes.same {H H' : Hp} {v : V} {q : Rat} (h : Bes H v q) (s : Same H H') : Bes H' v q := ⟨h.1.same s, h.2.imp id fun ⟨t, xs, e, z⟩ => ⟨t, xs, e, s _ _ z⟩⟩
theorem PoAt.bare {C : Addr} {H : Hp} {a : Addr} {xs : List Rat} (h : PoAt C H a xs) : PoAt C (bareH H) a xs := by
  obtain ⟨dx, t, e, ⟨vs, ev, al⟩, z⟩ := h
  exact ⟨dx, t, bare_at e (fun _ z => by cases z), ⟨vs, bare_at ev (fun _ z => by cases z), al.imp fun v q ⟨p, e, lo⟩ => ⟨p, e, bare_at lo (fun _ z => by cases z)⟩⟩, z⟩
theorem st_ifOr {σ : L2.St} {H : Hp} {t u : TT} {t1 : TS} {D : Ends} (h : t σ H fun c H1 => if c = true then (if true = true then t1 D σ H1 else D.nx σ H1) else u σ H1 fun b H2 => if b = true then t1 D σ H2 else D.nx σ H2) : tIfS (tOr t u) t1 tNext D σ H := h
theorem three_sm {q : Rat} (s : Sm 10 q) : Fit (3 * q.num) (3 * (q.den : Int)) := by
  have h1 := s.1
  have h2 := s.2
  have b : (3 * 2 ^ 10 : Nat) < 2 ^ 1000 := Nat.lt_of_lt_of_le (show 3 * 2 ^ 10 < 2 ^ 12 by decide) (Nat.pow_le_pow_right (by decide) (by decide))
  exact ⟨by omega, by omega⟩
theorem pr_nc {q : Rat} {n : Nat} (s : Sm n q) (h : n ≤ 1000) : Nc 630 2 (pr q.num (q.den : Int)) := (nc_tuple (nc_two (s.fit h).1 (s.fit h).2)).mono (by show 2 * (310 + 2) + 3 ≤ 630; decide) (by decide)

def spLaw (Tb : List (Addr × Str)) : Sp := fun vs H Q _ => ∃ (a : Addr) (ns : List Int), vs = [.ref a] ∧ SqL K H a (ns.map V.int) ∧ ns.length ≤ 63 ∧ LamX.Tabs Tb H ∧ ∀ H', Q (.bl true) H'
theorem ok_law (T : Txt K mg) (TP : PolyT K mg) {cC cP dC dP : Addr} {Tb : List (Addr × Str)} (TB : LamX.TabB base mg cC cP) (hcC : (fDat K (fA mg "law")).code = .ref cC) (hTm : (cP, (("law" : Str) ++ (".<locals>." : Str)) ++ ("<lambda>" : Str)) ∈ Tb) (hTo : ∀ p ∈ Tb, p.1 = cP → p.2 = (("law" : Str) ++ (".<locals>." : Str)) ++ ("<lambda>" : Str))
    (G_law_made_right : OkG P w K mg base CX0 15 (fA mg "_law_made_right") (fDat K (fA mg "_law_made_right")) ["_law_pen_here"] (spMadeR Tb)) :
    OkG P w K mg base CX0 17 (fA mg "law") (fDat K (fA mg "law")) ["_law_script"] (spLaw (K := K) Tb) := by
  have G_law_pen := ok_pen (P := P) (w := w) (base := base) T._law_pen.F T
  have G_law_draw := ok_draw (P := P) (w := w) (base := base) T._law_draw.F T
  have G_law_pick := ok_pick (P := P) (w := w) (base := base) T
  have G_law_any := ok_any (P := P) (w := w) (base := base) T
  have G_law_ratio := ok_law_ratio (P := P) (w := w) (base := base) T
  have G_law_passed := ok_passed (P := P) (w := w) (base := base) T
  have G_law_poly := ok_law_poly (P := P) (w := w) (base := base) T
  have G_law_drawn := ok_law_drawn (P := P) (w := w) (base := base) T
  have G_law_made_poly := ok_made_poly (P := P) (w := w) (base := base) T TP
  have G_law_p_scaled := ok_law_p_scaled (P := P) (w := w) (base := base) T
  have G_law_p_plus := ok_law_p_plus (P := P) (w := w) (base := base) T
  have G_law_p_minus := ok_law_p_minus (P := P) (w := w) (base := base) T
  have G_law_p_times := ok_law_p_times (P := P) (w := w) (base := base) T
  have G_law_p_at := ok_law_p_at (P := P) (w := w) (base := base) T
  have G_law_p_slope := ok_law_p_slope (P := P) (w := w) (base := base) T
  have GPoly_eq := ok_Poly_eq (P := P) (w := w) (base := base) T TP
  have GPoly_add := ok_Poly_add (P := P) (w := w) (base := base) T TP
  have GPoly_radd := ok_Poly_radd (P := P) (w := w) (base := base) T TP
  have GPoly_sub := ok_Poly_sub (P := P) (w := w) (base := base) T TP
  have GPoly_rsub := ok_Poly_rsub (P := P) (w := w) (base := base) T TP
  have GPoly_mul := ok_Poly_mul (P := P) (w := w) (base := base) T TP
  have GPoly_rmul := ok_Poly_rmul (P := P) (w := w) (base := base) T TP
  have GPoly_neg := ok_Poly_neg (P := P) (w := w) (base := base) T TP
  have GPoly_at := ok_Poly_at (P := P) (w := w) (base := base) T TP
  have GPoly_slope := ok_Poly_slope (P := P) (w := w) (base := base) T TP
  obtain ⟨oc, od, kV, doc, pm, an, cdw, ct, osl, efd, lk, hcg⟩ := T._law_why.F.ex
  have lk' := efd ▸ lk
  have b' := efd ▸ T._law_why.b
  refine okGc T.law.F hcC sclaw (fun vs H Q E h => ?_) (fun A outer s H vs Q E hr hq h => ?_)
  · obtain ⟨a, ns, rfl, _⟩ := h
    rfl
  obtain ⟨a, ns, rfl, hS, hn, hT, k⟩ := h
  refine ⟨_, (pss_cons (ps_set (i := 1) sclaw.nd rfl (Or.inl rfl) (pe_c T._law_pen G_law_pen (hr.mono (by decide)) (pa_cons (pv 0) pa_nil)))
  (pss_cons (ps_for PassesOwn.never rfl (pi_range1 (by rfl) T.range (pa_cons pe_int pa_nil)) (pg_name (i := 2) sclaw.nd rfl (Or.inl rfl))
  (pss_cons (ps_par (i := 3) (j := 4) (by rfl) sclaw.nd rfl rfl (by decide) rfl rfl (pa_cons (pe_c T._law_drawn G_law_drawn (hr.mono (by decide)) (pa_cons (pv 1) (pa_cons pe_int (pa_cons pe_int pa_nil)))) (pa_cons (pe_c T._law_drawn G_law_drawn (hr.mono (by decide)) (pa_cons (pv 1) (pa_cons pe_int (pa_cons pe_int pa_nil)))) pa_nil)) (by rfl))
  (pss_cons (ps_set (i := 4) sclaw.nd rfl (Or.inl rfl) (pe_c T._law_pick G_law_pick (hr.mono (by decide)) (pa_cons (pv 1) (pa_cons (pe_lst (pa_cons (pv 4) (pa_cons (pv 4) (pa_cons (pe_c T._law_p_scaled G_law_p_scaled (hr.mono (by decide)) (pa_cons (pv 3) (pa_cons (pe_tup (pa_cons (pe_un un_neg pe_int) (pa_cons pe_int pa_nil))) pa_nil))) (pa_cons (pe_c T._law_p_plus G_law_p_plus (hr.mono (by decide)) (pa_cons (pv 3) (pa_cons (pe_lst (pa_cons (pe_tup (pa_cons pe_int (pa_cons pe_int pa_nil))) pa_nil)) pa_nil))) pa_nil))))) pa_nil))))
  (pss_cons (ps_asg (pe_tup (pa_cons (pe_c T._law_made_poly G_law_made_poly (hr.mono (by decide)) (pa_cons (pv 1) (pa_cons (pv 3) pa_nil))) (pa_cons (pe_c T._law_made_poly G_law_made_poly (hr.mono (by decide)) (pa_cons (pv 1) (pa_cons (pv 4) pa_nil))) pa_nil))) (pg_tup rfl (pgs_cons (pg_name (i := 5) sclaw.nd rfl (Or.inr rfl)) (pgs_cons (pg_name (i := 6) sclaw.nd rfl (Or.inl rfl)) pgs_nil))))
  (pss_cons (ps_if (pt_cmpR op_ne (pe_callB (id := "repr") (call_show hq (hu64 hr)) (by rfl) T.repr (by decide +kernel) (pa_cons (pe_fld (pe_op (op_two TP.i_add GPoly_add (hr.mono (by decide)) TP.m_add.b) (pv 5) (pv 6)) (by rfl)) pa_nil)) (pe_callB (id := "repr") (call_show hq (hu64 hr)) (by rfl) T.repr (by decide +kernel) (pa_cons (pe_callTy call_tuple_of (by rfl) T.tuple (by decide +kernel) (pa_cons (pe_c T._law_p_plus G_law_p_plus (hr.mono (by decide)) (pa_cons (pv 3) (pa_cons (pv 4) pa_nil))) pa_nil)) pa_nil)) (nomark _)) (pss_one (ps_ret pe_bl)) pss_nil)
  (pss_cons (ps_if (pt_cmpR op_ne (pe_callB (id := "repr") (call_show hq (hu64 hr)) (by rfl) T.repr (by decide +kernel) (pa_cons (pe_fld (pe_op (op_two TP.i_sub GPoly_sub (hr.mono (by decide)) TP.m_sub.b) (pv 5) (pv 6)) (by rfl)) pa_nil)) (pe_callB (id := "repr") (call_show hq (hu64 hr)) (by rfl) T.repr (by decide +kernel) (pa_cons (pe_callTy call_tuple_of (by rfl) T.tuple (by decide +kernel) (pa_cons (pe_c T._law_p_minus G_law_p_minus (hr.mono (by decide)) (pa_cons (pv 3) (pa_cons (pv 4) pa_nil))) pa_nil)) pa_nil)) (nomark _)) (pss_one (ps_ret pe_bl)) pss_nil)
  (pss_cons (ps_if (pt_cmpR op_ne (pe_callB (id := "repr") (call_show hq (hu64 hr)) (by rfl) T.repr (by decide +kernel) (pa_cons (pe_fld (pe_op (op_two TP.i_mul GPoly_mul (hr.mono (by decide)) TP.m_mul.b) (pv 5) (pv 6)) (by rfl)) pa_nil)) (pe_callB (id := "repr") (call_show hq (hu64 hr)) (by rfl) T.repr (by decide +kernel) (pa_cons (pe_callTy call_tuple_of (by rfl) T.tuple (by decide +kernel) (pa_cons (pe_c T._law_p_times G_law_p_times (hr.mono (by decide)) (pa_cons (pv 3) (pa_cons (pv 4) pa_nil))) pa_nil)) pa_nil)) (nomark _)) (pss_one (ps_ret pe_bl)) pss_nil)
  (pss_cons (ps_if (PW.pt (pw_or (pt_cmpR (op_neD (hu64 hr)) (pe_fld (pe_un (un_own TP.m_neg.at_ TP.m_neg.fn GPoly_neg (hr.mono (by decide)) TP.m_neg.b) (pv 5)) (by rfl)) (pe_callTy call_tuple_of (by rfl) T.tuple (by decide +kernel) (pa_cons (pe_c T._law_p_scaled G_law_p_scaled (hr.mono (by decide)) (pa_cons (pv 3) (pa_cons (pe_tup (pa_cons (pe_un un_neg pe_int) (pa_cons pe_int pa_nil))) pa_nil))) pa_nil)) (nomark _)) (pw_or1 (pt_cmpR (op_neD (hu64 hr)) (pe_fld (pe_meth0 (pv 5) TP.cls TP.m_slope.meth GPoly_slope (hr.mono (by decide)) TP.m_slope.b .nil pass0) (by rfl)) (pe_callTy call_tuple_of (by rfl) T.tuple (by decide +kernel) (pa_cons (pe_c T._law_p_slope G_law_p_slope (hr.mono (by decide)) (pa_cons (pv 3) pa_nil)) pa_nil)) (nomark _))))) (pss_one (ps_ret pe_bl)) pss_nil)
  (pss_cons (ps_set (i := 7) sclaw.nd rfl (Or.inl rfl) (pe_c T._law_ratio G_law_ratio (hr.mono (by decide)) (pa_cons (pv 1) (pa_cons pe_int pa_nil))))
  (pss_cons (ps_par (i := 8) (j := 9) (by rfl) sclaw.nd rfl rfl (by decide) rfl rfl (pa_cons (pe_c T._law_pick G_law_pick (hr.mono (by decide)) (pa_cons (pv 1) (pa_cons (pe_op op_cat (pe_lst (pa_cons (pv 7) (pa_cons (pe_tup (pa_cons (pe_op op_mulW pe_int (pe_ix ix_tup (pv 7) pe_int (fun _ _ => rfl))) (pa_cons (pe_op op_mulW pe_int (pe_ix ix_tup (pv 7) pe_int (fun _ _ => rfl))) pa_nil))) pa_nil))) (pe_ifExp (pt_cmpR op_eq (pe_ix ix_tup (pv 7) pe_int (fun _ _ => rfl)) pe_int (nomark _)) (pe_lst (pa_cons (pe_ix ix_tup (pv 7) pe_int (fun _ _ => rfl)) pa_nil)) (pe_lst pa_nil))) pa_nil))) (pa_cons (pe_c T._law_poly G_law_poly (hr.mono (by decide)) (pa_cons (pe_lst (pa_cons (pv 7) pa_nil)) pa_nil)) pa_nil)) (by rfl))
  (pss_cons (ps_if (PW.pt (pw_or (pt_not (pt_cmpR (op_eqO rfl TP.m_eq.at_ TP.m_eq.fn TP.subT GPoly_eq (hr.mono (by decide)) TP.m_eq.b) (pe_op ((op_left (TP.t_add (.inl rfl)) GPoly_add (hr.mono (by decide)) TP.m_add.b).or (op_left (TP.t_add (.inr rfl)) GPoly_add (hr.mono (by decide)) TP.m_add.b)) (pv 5) (pv 8)) (pe_op ((op_rightI (.inl rfl) TP.rI_add GPoly_radd (hr.mono (by decide)) TP.m_radd.b).or (op_rightT TP.rT_add GPoly_radd (hr.mono (by decide)) TP.m_radd.b)) (pv 8) (pv 5)) (nomark _))) (pw_or1 (pt_cmpR (op_neD (hu64 hr)) (pe_fld (pe_op ((op_left (TP.t_add (.inl rfl)) GPoly_add (hr.mono (by decide)) TP.m_add.b).or (op_left (TP.t_add (.inr rfl)) GPoly_add (hr.mono (by decide)) TP.m_add.b)) (pv 5) (pv 8)) (by rfl)) (pe_callTy call_tuple_of (by rfl) T.tuple (by decide +kernel) (pa_cons (pe_c T._law_p_plus G_law_p_plus (hr.mono (by decide)) (pa_cons (pv 3) (pa_cons (pv 9) pa_nil))) pa_nil)) (nomark _))))) (pss_one (ps_ret pe_bl)) pss_nil)
  (pss_cons (ps_if (PW.pt (pw_or (pt_not (pt_cmpR (op_eqO rfl TP.m_eq.at_ TP.m_eq.fn TP.subT GPoly_eq (hr.mono (by decide)) TP.m_eq.b) (pe_op ((op_left (TP.t_mul (.inl rfl)) GPoly_mul (hr.mono (by decide)) TP.m_mul.b).or (op_left (TP.t_mul (.inr rfl)) GPoly_mul (hr.mono (by decide)) TP.m_mul.b)) (pv 5) (pv 8)) (pe_op ((op_rightI (.inr (.inr rfl)) TP.rI_mul GPoly_rmul (hr.mono (by decide)) TP.m_rmul.b).or (op_rightT TP.rT_mul GPoly_rmul (hr.mono (by decide)) TP.m_rmul.b)) (pv 8) (pv 5)) (nomark _))) (pw_or1 (pt_cmpR (op_neD (hu64 hr)) (pe_fld (pe_op ((op_rightI (.inr (.inr rfl)) TP.rI_mul GPoly_rmul (hr.mono (by decide)) TP.m_rmul.b).or (op_rightT TP.rT_mul GPoly_rmul (hr.mono (by decide)) TP.m_rmul.b)) (pv 8) (pv 5)) (by rfl)) (pe_callTy call_tuple_of (by rfl) T.tuple (by decide +kernel) (pa_cons (pe_c T._law_p_times G_law_p_times (hr.mono (by decide)) (pa_cons (pv 3) (pa_cons (pv 9) pa_nil))) pa_nil)) (nomark _))))) (pss_one (ps_ret pe_bl)) pss_nil)
  (pss_cons (ps_if (PW.pt (pw_or (pt_cmpR (op_neD (hu64 hr)) (pe_fld (pe_op ((op_rightI (.inr (.inl rfl)) TP.rI_sub GPoly_rsub (hr.mono (by decide)) TP.m_rsub.b).or (op_rightT TP.rT_sub GPoly_rsub (hr.mono (by decide)) TP.m_rsub.b)) (pv 8) (pv 5)) (by rfl)) (pe_callTy call_tuple_of (by rfl) T.tuple (by decide +kernel) (pa_cons (pe_c T._law_p_minus G_law_p_minus (hr.mono (by decide)) (pa_cons (pv 9) (pa_cons (pv 3) pa_nil))) pa_nil)) (nomark _)) (pw_or1 (pt_not (pt_cmpR (op_eqO rfl TP.m_eq.at_ TP.m_eq.fn TP.subT GPoly_eq (hr.mono (by decide)) TP.m_eq.b) (pe_op ((op_rightI (.inr (.inl rfl)) TP.rI_sub GPoly_rsub (hr.mono (by decide)) TP.m_rsub.b).or (op_rightT TP.rT_sub GPoly_rsub (hr.mono (by decide)) TP.m_rsub.b)) (pv 8) (pv 5)) (pe_un (un_own TP.m_neg.at_ TP.m_neg.fn GPoly_neg (hr.mono (by decide)) TP.m_neg.b) (pe_op ((op_left (TP.t_sub (.inl rfl)) GPoly_sub (hr.mono (by decide)) TP.m_sub.b).or (op_left (TP.t_sub (.inr rfl)) GPoly_sub (hr.mono (by decide)) TP.m_sub.b)) (pv 5) (pv 8))) (nomark _)))))) (pss_one (ps_ret pe_bl)) pss_nil)
  (pss_cons (ps_asg (pe_tup (pa_cons (pe_c T._law_ratio G_law_ratio (hr.mono (by decide)) (pa_cons (pv 1) (pa_cons pe_int pa_nil))) (pa_cons (pe_c T._law_any G_law_any (hr.mono (by decide)) (pa_cons (pv 1) pa_nil)) pa_nil))) (pg_tup rfl (pgs_cons (pg_name (i := 10) sclaw.nd rfl (Or.inl rfl)) (pgs_cons (pg_name (i := 11) sclaw.nd rfl (Or.inr rfl)) pgs_nil))))
  (pss_cons (ps_if (PW.pt (pw_or (pt_cmpR op_ne (pe_callB (id := "repr") (call_show hq (hu64 hr)) (by rfl) T.repr (by decide +kernel) (pa_cons (pe_meth (pv 5) TP.cls TP.m_at.meth GPoly_at (hr.mono (by decide)) TP.m_at.b .nil passL (pa_cons (pe_c T._law_passed G_law_passed (hr.mono (by decide)) (pa_cons (pv 1) (pa_cons (pv 10) pa_nil))) pa_nil)) pa_nil)) (pe_callB (id := "repr") (call_show hq (hu64 hr)) (by rfl) T.repr (by decide +kernel) (pa_cons (pe_c T._law_p_at G_law_p_at (hr.mono (by decide)) (pa_cons (pv 3) (pa_cons (pv 10) pa_nil))) pa_nil)) (nomark _)) (pw_or1 (pt_cmpR (op_neD (hu64 hr)) (pe_fld (pv 5) (by rfl)) (pe_callTy call_tuple_of (by rfl) T.tuple (by decide +kernel) (pa_cons (pv 3) pa_nil)) (nomark _))))) (pss_one (ps_ret pe_bl)) pss_nil)
  (pss_one (ps_if (PW.pt (pw_or (pt_cmpR (op_neD (hu64 hr)) (LamX.pe_lamcall (T := Tb) (TT := TTwhy K mg) (x := "_law_why") (a := "_law_call") (g := fA mg "_law_why") (c := cC) (P := cP) (k := 9) (Ng := ["_law_call", "e"]) (t := fun E => tMeth (poA mg) "at" (spAt mg) [] E (tVar 5) (tCons (tVar 11) tNil))
     (by rfl) T._law_why.g T._law_why.F.kp lk' hcg b' sc_law_why rfl (.inl rfl) (why_gives T hq fun e => (hr.mono (by decide) : Room 2 _).deeper e) TB rfl (lam_memT hTm (by rfl)) (lam_onlyT hTo (by rfl)) (hr.mono (by decide)) (LamX.lamS_by (show LamX.lamSB (defScope slaw) _ = true from by decide +kernel)) rfl (fun _ _ _ _ _ => rfl)
     (fun A outer s H E f c' hr => pe_meth (pv 5) TP.cls TP.m_at.meth GPoly_at (hr.mono (by decide)) TP.m_at.b .nil (passes_call (takes_of rfl rfl rfl rfl) (fun _ _ _ _ h => h)) (pa_cons (pv 11) pa_nil))) (pe_tup (pa_cons pe_str (pa_cons pe_str (pa_cons (pe_callB (id := "repr") (call_show hq (hu64 hr)) (by rfl) T.repr (by decide +kernel) (pa_cons (pv 11) pa_nil)) pa_nil)))) (nomark _)) (pw_or1 (pt_not (pt_val (pe_cG T._law_made_right G_law_made_right (hr.mono (by decide)) hq (pa_cons (pv 1) pa_nil))))))) (pss_one (ps_ret pe_bl)) pss_nil)))))))))))))))))
  (pss_one (ps_ret pe_bl)))), ?_⟩
  refine q_asg (c_call (va_cons (val_var rfl) va_nil) ⟨a, ns, rfl, hS, hn, fun p c H0 s0 P0 => ?_⟩)
  have T0 := Tabs.same hT s0
  refine q_forR1 (n := 3) (va_cons val_c va_nil) (by decide) (fun n σ H => (∃ z2 z3 z4 z5 z6 z7 z8 z9 z10 z11, σ = [some (.ref a), some (.ref p), z2, z3, z4, z5, z6, z7, z8, z9, z10, z11]) ∧ PenAt H p c (1000 * n) ∧ LamX.Tabs Tb H) ⟨⟨_, _, _, _, _, _, _, _, _, _, rfl⟩, P0, T0⟩ (fun n σ H hn z => ?_) (fun σ H z => ?_)
  case refine_2 => exact st_ret val_c (k H)
  obtain ⟨⟨z2, z3, z4, z5, z6, z7, z8, z9, z10, z11, rfl⟩, P1, T1⟩ := z
  clear P0 T0 s0 hT hS
  have hm : 1000 * n + 1000 < most := by
    have : most = 1000000000 := rfl
    omega
  -- two polynomials as lists
  refine g_name (q_par (ta_two (c_call (va_cons (val_var rfl) (va_cons val_c (va_cons val_c va_nil))) ⟨p, c, _, 5, 5, rfl, P1, by decide, by omega, by decide, by decide, fun l1 H1 xs L1 sx lx tx b1 P2 => ?_⟩)))
  refine c_call (va_cons (val_var rfl) (va_cons val_c (va_cons val_c va_nil))) ⟨p, c, _, 5, 5, rfl, P2, by decide, by omega, by decide, by decide, fun l2 H2 ys0 L2 sy0 ly0 ty0 b2 P3 => ⟨_, _, rfl, ?_⟩⟩
  have L1 := L1.but b2 P2
  have T3 := Tabs.but (Tabs.but T1 P1 b1) P2 b2
  have P3 := P3.le (show 1000 * n + 20 + 20 ≤ 1000 * n + 40 by omega)
  have fx : Fi 10 xs := ⟨sx, by omega, by omega, by decide⟩
  clear T1 P1 P2 b1 b2 sx
  refine q_asg (call_1 ((val_var rfl) _ (va_1 (l_s (va_s (val_var rfl) (va_s (val_var rfl) (va_x (lg_neg (val_var rfl) L1 fx _ fun l3 H4 s4 L3 => va_1 (call_1 ((val_var rfl) _ (va_1 (l_s (va_1 (l_tup (va_cons val_c (va_cons val_c va_nil)) (by decide) fun t ht => ⟨by show 1 ≤ sizeLine; decide, fun q hq => ?_⟩))))))))))))))
  have s5 := Same.new' (o := .tup [.int 1, .int 3]) ht
  have s6 := Same.new' (o := .lst [.ref t]) hq
  let third : Rat := ⟨1, 3, by decide, by decide⟩
  have f3 : Sms 2 [third] := fun q hq => by
    rw [List.mem_singleton.mp hq]
    exact ⟨by decide, by decide⟩
  have L5 : Lst _ q [third] := ⟨[.ref t], upd_same, .cons ⟨t, rfl, s6 _ _ (upd_same (H := H4) (a := t) (o := .tup [.int 1, .int 3]))⟩ .nil⟩
  refine ⟨l1, q, xs, [third], 10, 2, rfl, ((L1.same s4).same s5).same s6, L5, fx.s, f3, by decide, by decide, by decide, by decide, by omega, by show 1 ≤ 500; decide, fun l4 H7 s7 L4 => ⟨by show 4 ≤ sizeLine; decide, fun q2 hq2 => ?_⟩⟩
  have s8 := Same.new' (o := .lst [.ref l2, .ref l2, .ref l3, .ref l4]) hq2
  have S8 := (((s4.trans s5).trans s6).trans s7).trans s8
  have P8 := P3.same S8
  refine ⟨p, c, q2, _, _, rfl, P8, by omega, SqL.of upd_same, by show 0 < 4; decide, by show 4 < 1000000000; decide, fun v H9 hv b9 P9 => ?_⟩
  obtain ⟨l5, ys, rfl, L2', fy, ty⟩ : ∃ l ys, v = .ref l ∧ Lst H9 l ys ∧ Fi 13 ys ∧ tlen ys = ys.length ∧ ys.length ≤ 6 := by
    simp only [List.mem_cons, List.not_mem_nil, or_false] at hv
    have y0 : Fi 13 ys0 := ⟨fun q hq => (sy0 q hq).mono (by decide), by omega, by omega, by decide⟩
    rcases hv with rfl | rfl | rfl | rfl
    · exact ⟨l2, ys0, rfl, (L2.same S8).but b9 P8, y0, ty0, ly0⟩
    · exact ⟨l2, ys0, rfl, (L2.same S8).but b9 P8, y0, ty0, ly0⟩
    · have ln := pneg_len xs
      exact ⟨l3, pneg xs, rfl, ((((L3.same s5).same s6).same s7).same s8).but b9 P8, ⟨fun q hq => (fx.s.neg q hq).mono (by decide), by omega, by omega, by decide⟩, tlen_trim _, by omega⟩
    · have ln : (psum xs [third]).length ≤ 6 := Nat.le_trans (ofN_len _ _) (by
        show max xs.length 1 ≤ 6
        omega)
      refine ⟨l4, psum xs [third], rfl, (L4.same s8).but b9 P8, ⟨?_, by omega, by omega, by decide⟩, tlen_ofN, ln⟩
      exact Sms.trim (Sms.of fun i _ => ((fx.s.co fx.o i).add (f3.co (by decide) i)).mono (by decide))
  have L1 := (L1.same S8).but b9 P8
  have T9 := Tabs.but (Tabs.same T3 S8) P8 b9
  have P9 := P9.le (show 1000 * n + 40 + 1 ≤ 1000 * n + 50 by omega)
  clear T3 S8 s8 s7 s6 s5 s4 P8 b9 L4 L5 L3 L2 hv hq2 hq ht P3
  obtain ⟨ty, ly⟩ := ty
  -- the two polynomials
  have lx : xs.length ≤ 6 := by omega
  refine q_two (tup_two (c_call (va_cons (val_var rfl) (va_cons (val_var rfl) va_nil)) ⟨p, c, l1, _, xs, rfl, P9, by omega, L1, fun q hq => ((fx.s q hq).mono (by decide : 10 ≤ 59)).fin, by omega, fun A H10 pa b10 P10 => ?_⟩))
  refine c_call (va_cons (val_var rfl) (va_cons (val_var rfl) va_nil)) ⟨p, c, l5, _, ys, rfl, P10, by omega, L2'.but b10 P9, fun q hq => ((fy.s q hq).mono (by decide : 13 ≤ 59)).fin, by omega, fun B H11 pb b11 P11 => ⟨by show 2 ≤ sizeLine; decide, fun z hz => g_two (SqT.of upd_same) ?_⟩⟩
  have sz := Same.new' (o := .tup [.ref A, .ref B]) hz
  rw [trim_self tx] at pa
  rw [trim_self ty] at pb
  have pa := (pa.but P10 b11).same sz
  have pb := pb.same sz
  have L1 := ((L1.but b10 P9).but b11 P10).same sz
  have L2 := ((L2'.but b10 P9).but b11 P10).same sz
  have T11 := Tabs.same (Tabs.but (Tabs.but T9 P9 b10) P10 b11) sz
  have P11 := (P11.same sz).le (show 1000 * n + 50 + 60 + 60 ≤ 1000 * n + 170 by omega)
  revert pa pb L1 L2 T11 P11
  generalize upd H11 z (.tup [.ref A, .ref B]) = H12
  intro pa pb L1 L2 T11 P11
  clear sz hz b11 P10 b10 P9 T9 L2'
  have mx := Nat.max_le.mpr ⟨lx, ly⟩
  -- sums, differences, products
  refine q_unT (ug_sh (polyD_nc (psum_sms fx.s fy.s fx.o fy.o) (by decide) (Nat.le_trans (psum_len xs ys) (by omega))) (ug_fld TP (pg_two (val_var rfl) (val_var rfl) pa pb fx fy)) (fun H1 s1 => ug_tup (lg_two (va_two rfl rfl) (L1.same s1) (L2.same s1) fx fy)) fun H13 s13 => iteF ?_)
  have pn := pneg_len ys
  refine q_unT (ug_sh (polyD_nc (psum_sms fx.s fy.s.neg fx.o fy.o) (by decide) (Nat.le_trans (psum_len xs (pneg ys)) (by omega))) (ug_fld TP (pg_two (val_var rfl) (val_var rfl) (pa.same s13) (pb.same s13) fx fy)) (fun H1 s1 => ug_tup (lg_two (va_two rfl rfl) ((L1.same s13).same s1) ((L2.same s13).same s1) fx fy)) fun H14 s14 => iteF ?_)
  have S14 := s13.trans s14
  refine q_unT (ug_sh (polyD_nc (pmul_sms fx.s fy.s fx.o fy.o) (by omega) (Nat.le_trans (pmul_len xs ys) (by omega))) (ug_fld TP (pg_two (val_var rfl) (val_var rfl) (pa.same S14) (pb.same S14) fx fy)) (fun H1 s1 => ug_tup (lg_times (va_two rfl rfl) ((L1.same S14).same s1) ((L2.same S14).same s1) fx fy (by omega))) fun H15 s15 => iteF ?_)
  have S15 := S14.trans s15
  refine q_ifOr (ug_ne (ug_fld TP (pg_neg (pg_val (val_var rfl) (pa.same S15)) fx.s (by decide) (by omega))) (fun H1 s1 => ug_tup (lg_neg (val_var rfl) ((L1.same S15).same s1) fx)) fun H16 s16 => iteF ?_)
  have S16 := S15.trans s16
  refine ug_ne (ug_fld TP (pg_slope (val_var rfl) (pa.same S16) fx)) (fun H1 s1 => ug_tup (lg_slope (va_cons (val_var rfl) va_nil) ((L1.same S16).same s1) fx)) fun H17 s17 => iteF ?_
  have S17 := S16.trans s17
  have P17 := P11.same S17
  have T17 := Tabs.same T11 S17
  have pa := pa.same S17
  have L1 := L1.same S17
  clear S17 s17 S16 s16 S15 s15 S14 s14 s13 L2 pb P11 T11 ty ly fy pn mx
  -- a ratio beside a polynomial
  refine q_asg (c_call (va_cons (val_var rfl) (va_cons val_c va_nil)) ⟨p, c, _, 7, rfl, P17, by omega, by decide, by decide, fun t H18 q lo sq b18 P18 => ?_⟩)
  have T18 := Tabs.but T17 P17 b18
  have pa := pa.but P17 b18
  have L1 := L1.but b18 P17
  have h3 := three_sm sq
  refine q_par (ta_two (call_1 ((val_var rfl) _ (va_1 (op_l' (l_s (va_s (val_var rfl) (va_1 (l_tup (va_cons (v_mul (i := 3) (j := q.num) val_c (v_ixT (n := 0) (val_var rfl) val_c (SqT.of lo) rfl) (fit_mul (Nat.lt_of_lt_of_le (show 3 < 2 ^ 2 by decide) (Nat.pow_le_pow_right (by decide) (by decide))) (sq.fit (by decide)).1)) (va_cons (v_mul (i := 3) (j := (q.den : Int)) val_c (v_ixT (n := 1) (val_var rfl) val_c (SqT.of lo) rfl) (fit_mul (Nat.lt_of_lt_of_le (show 3 < 2 ^ 2 by decide) (Nat.pow_le_pow_right (by decide) (by decide))) (sq.fit (by decide)).2)) va_nil)) (by show 2 ≤ 100000; decide) fun t3 ht3 => ⟨by show 2 ≤ sizeLine; decide, fun m1 hm1 => ?_⟩)))))))))
  have s19 := (Same.new' (o := .tup [.int (3 * q.num), .int (3 * (q.den : Int))]) ht3).trans (Same.new' (o := .lst [.ref t, .ref t3]) hm1)
  have e3 := (Same.new' (o := .lst [.ref t, .ref t3]) hm1) _ _ (upd_same (H := H18) (a := t3) (o := .tup [.int (3 * q.num), .int (3 * (q.den : Int))]))
  have em := upd_same (H := upd H18 t3 (.tup [.int (3 * q.num), .int (3 * (q.den : Int))])) (a := m1) (o := .lst [.ref t, .ref t3])
  refine (if_num rfl (lo.same s19)) _ fun v20 H20 s20 ⟨z20, us, ev, ez, eus⟩ => ?_
  subst ev
  have lus : us.length ≤ 1 := by rcases eus with rfl | ⟨_, rfl⟩ <;> simp
  refine ⟨m1, z20, [.ref t, .ref t3], us, rfl, rfl, s20 _ _ em, ez, Nat.le_trans (m := 10) (by show 2 + us.length ≤ 10; omega) (by decide), fun m3 hm3 => ?_⟩
  have s21 := Same.new' (o := .lst ([.ref t, .ref t3] ++ us)) hm3
  have S21 := (s19.trans s20).trans s21
  have P21 := P18.same S21
  refine ⟨p, c, m3, _, _, rfl, P21, by omega, SqL.of upd_same, by rw [List.length_append]; show 0 < 2 + us.length; omega, by rw [List.length_append]; show 2 + us.length < 1000000000; omega, fun ph H22 hv b22 P22 => ?_⟩
  have lo := b22.lo P21 (lo.same S21)
  have be : Bes H22 ph q := by
    rcases List.mem_append.mp hv with hv | hv
    · simp only [List.mem_cons, List.not_mem_nil, or_false] at hv
      rcases hv with rfl | rfl
      · exact ⟨lo.rq sq (by decide), .inr ⟨t, _, rfl, lo⟩⟩
      · have e := s21 _ _ (s20 _ _ e3)
        have e22 := b22 _ _ e (ne_of e P21.dk.choose_spec (by intro z; cases z))
        have d := q.den_pos
        exact ⟨⟨_, _, .pair (.inr e22) (by omega), h3, by rw [Rat.divInt_mul_left (by decide), Rat.divInt_ofNat, Rat.mkRat_self]⟩, .inr ⟨t3, _, rfl, e22⟩⟩
    · rcases eus with rfl | ⟨e1, rfl⟩
      · cases hv
      · simp only [List.mem_cons, List.not_mem_nil, or_false] at hv
        subst hv
        refine ⟨⟨q.num, 1, .int _, ⟨(sq.fit (by decide)).1, Nat.one_lt_two_pow (by decide)⟩, ?_⟩, .inl ⟨_, rfl⟩⟩
        have : Rat.divInt q.num ((q.den : Nat) : Int) = q := by rw [Rat.divInt_ofNat, Rat.mkRat_self]
        rw [e1] at this
        exact this.symm
  have B22 := (But.of (p := p) S21).trans b22
  have pa := pa.but P18 B22
  have L1 := L1.but B22 P18
  have T22 := Tabs.but T18 P18 B22
  refine va_1 (l_lst (va_cons (val_var rfl) va_nil) (by show 1 ≤ 100000; decide) fun m4 hm4 => ?_)
  have s23 := Same.new' (o := .lst [.ref t]) hm4
  refine ⟨m4, [q], rfl, ⟨[.ref t], upd_same, .cons ⟨t, rfl, lo.same s23⟩ .nil⟩, by show 1 ≤ 1000; decide, fun fl H24 s24 L24 => ⟨_, _, rfl, ?_⟩⟩
  have S24 := s23.trans s24
  have fl1 : (trim [q]).length ≤ 1 := by rw [trim_len]; exact tlen_le [q]
  have fq : Fi 10 (trim [q]) := ⟨Sms.trim (fun x hx => by rw [List.mem_singleton.mp hx]; exact sq), by omega, by omega, by decide⟩
  have be := be.same S24
  have pa := pa.same S24
  have L1 := L1.same S24
  have T24 := Tabs.same T22 S24
  have P24 := P22.same S24
  clear S24 s24 s23 hm4 T22 B22 b22 P22 P21 S21 s21 hm3 ez s20 em e3 s19 hm1 ht3 T18 P18 b18 lo hv T17 P17
  -- beside each other
  refine q_ifOr (not_in (pg_eq (pg_left (val_var rfl) (val_var rfl) pa be fx fq) (fun H1 s1 => by
    show PGv mg _ _ _ (psum xs (trim [q]))
    rw [psum_comm]
    exact pg_right (val_var rfl) (val_var rfl) (pa.same s1) (be.same s1) fx fq) fun H25 s25 => iteF ?_))
  refine ug_ne (ug_fld TP (pg_left (val_var rfl) (val_var rfl) (pa.same s25) (be.same s25) fx fq)) (fun H1 s1 => ug_tup (lg_two (va_two rfl rfl) ((L1.same s25).same s1) ((L24.same s25).same s1) fx fq)) fun H26 s26 => iteF ?_
  have S26 := s25.trans s26
  refine q_ifOr (not_in (pg_eq (pg_left (val_var rfl) (val_var rfl) (pa.same S26) (be.same S26) fx fq) (fun H1 s1 => by
    show PGv mg _ _ _ (pmul xs (trim [q]))
    rw [pmul_comm]
    exact pg_right (val_var rfl) (val_var rfl) ((pa.same S26).same s1) ((be.same S26).same s1) fx fq) fun H27 s27 => iteF ?_))
  have S27 := S26.trans s27
  refine ug_ne (zs := pmul xs (trim [q])) (ug_fld TP (by
    rw [pmul_comm]
    exact pg_right (val_var rfl) (val_var rfl) (pa.same S27) (be.same S27) fx fq)) (fun H1 s1 => ug_tup (lg_times (va_two rfl rfl) ((L1.same S27).same s1) ((L24.same S27).same s1) fx fq (by omega))) fun H28 s28 => iteF ?_
  have S28 := S27.trans s28
  refine q_ifOr (ug_ne (zs := psum (trim [q]) (pneg xs)) (ug_fld TP (pg_right (val_var rfl) (val_var rfl) (pa.same S28) (be.same S28) fx fq)) (fun H1 s1 => ug_tup (lg_two (va_two rfl rfl) ((L24.same S28).same s1) ((L1.same S28).same s1) fq fx)) fun H29 s29 => iteF ?_)
  have S29 := S28.trans s29
  have pln := psum_len xs (pneg (trim [q]))
  have pnn := pneg_len (trim [q])
  refine not_in (pg_eq (zs := psum (trim [q]) (pneg xs)) (pg_right (val_var rfl) (val_var rfl) (pa.same S29) (be.same S29) fx fq) (fun H1 s1 => by
    rw [pneg_sub]
    exact pg_neg (pg_left (val_var rfl) (val_var rfl) ((pa.same S29).same s1) ((be.same S29).same s1) fx fq) (psum_sms fx.s fq.s.neg fx.o fq.o) (by decide) (by omega)) fun H30 s30 => iteF ?_)
  have S30 := S29.trans s30
  have P30 := P24.same S30
  have T30 := Tabs.same T24 S30
  have pa := pa.same S30
  have L1 := L1.same S30
  clear S30 s30 S29 s29 S28 s28 S27 s27 S26 s26 s25 L24 be P24 T24 fq fl1 pln pnn eus lus
  -- a point, a value that is none
  refine q_two (tup_two (c_call (va_cons (val_var rfl) (va_cons val_c va_nil)) ⟨p, c, _, 3, rfl, P30, by omega, by decide, by decide, fun t2 H31 q2 lo2 sq2 b31 P31 => ?_⟩))
  refine c_call (va_cons (val_var rfl) va_nil) ⟨p, c, _, rfl, P31, by omega, fun odd H32 g32 _ b32 P32 => ⟨by show 2 ≤ sizeLine; decide, fun z hz => g_two (SqT.of upd_same) ?_⟩⟩
  have sz := Same.new' (o := .tup [.ref t2, odd]) hz
  have pa := ((pa.but P30 b31).but P31 b32).same sz
  have L1 := ((L1.but b31 P30).but b32 P31).same sz
  have T32 := Tabs.same (Tabs.but (Tabs.but T30 P30 b31) P31 b32) sz
  have P32 := P32.same sz
  have g32 := g32.same sz
  have lo2 := (b32.lo P31 lo2).same sz
  revert pa L1 T32 P32 g32 lo2
  generalize upd H32 z (.tup [.ref t2, odd]) = H33
  intro pa L1 T32 P32 g32 lo2
  clear sz hz b32 P31 b31 P30 T30
  have epa := pa
  obtain ⟨dxa, ua, ea, _, _⟩ := epa
  have ps := peval_sm sq2 fx.s
  have pnc := pr_nc ps (by omega)
  refine q_ifOr (t_op (cb_one ((val_var rfl) _ ⟨A, dxa, _, rfl, ea, no_at, va_1 (c_passed (va_two rfl rfl) P32 (by omega) lo2 ((sq2.mono (by decide : 10 ≤ 59)).fin) fun v H34 b34 P34 rq _ => ?_)⟩)))
  refine ⟨A, v, xs, rfl, pa.but P32 b34, .inl ⟨q2, 10, 10, rq, fx.s, sq2, by omega, by omega, by omega, fun p1 H35 s35 lo3 => ⟨_, _, rfl, lo_dd lo3, pnc.1, Nat.le_trans pnc.2.2.2 (by decide), Nat.le_trans pnc.2.1 (by decide), ?_⟩⟩⟩
  have L35 := (L1.but b34 P32).same s35
  have lo35 := (b34.lo P32 lo2).same s35
  refine cb_one (c_call (va_two rfl rfl) ⟨l1, t2, xs, q2, 10, 10, rfl, L35, lo35, fx.s, sq2, by omega, fun p2 H36 s36 lo4 => ⟨_, _, rfl, lo_dd lo4, pnc.1, Nat.le_trans pnc.2.2.2 (by decide), Nat.le_trans pnc.2.1 (by decide), ne_same ⟨false, rfl, iteF ?_⟩⟩⟩)
  have B36 := (b34.trans (But.of s35)).trans (But.of s36)
  have P36 := (P34.same s35).same s36
  have pa := pa.but P32 B36
  have L1 := L1.but B36 P32
  have T36 := Tabs.but T32 P32 B36
  have g36 := g32.but P32 B36
  clear L35 lo35 s36 s35 b34 P34 B36 lo3 lo4 ea lo2 T32
  refine ug_ne (ug_fld TP (pg_val (val_var rfl) pa)) (fun H1 s1 => ug_tup (lg_val (val_var rfl) (L1.same s1))) fun H37 s37 => iteF ?_
  have pa := pa.same s37
  have T37 := Tabs.same T36 s37
  have P37 := P36.same s37
  have g37 := g36.same s37
  clear s37 L1 T36 P36 g36 g32 P32
  -- its error, and what is made
  obtain ⟨d, f⟩ := Odd.fine (K := K) g37.bare
  have pb := pa.bare
  refine st_ifOr (t_op (why_ne (by decide +kernel) rfl (bare_no H37) (bare_in H37) T37 f (fun H1 E1 Q1 s1 bd => ?_) fun H38 s38 T38 => ⟨false, rfl, iteF ?_⟩))
  · have pc := pb.same s1
    obtain ⟨dx, t, e, l, z⟩ := pb.same s1
    exact (val_var rfl) _ ⟨A, dx, _, rfl, e, no_at, (va_cons (val_var rfl) va_nil) _ ⟨A, odd, xs, rfl, pc, .inr ⟨(g37.bare.same s1).rat, bd⟩⟩⟩
  · refine not_in (tb_in (c_call (va_cons (val_var rfl) va_nil) ⟨p, c, _, rfl, (PenAt.bare P37).same s38, by omega, T38, fun H39 P39 T39 => ⟨true, rfl, iteF ?_⟩⟩))
    exact ⟨⟨_, _, _, _, _, _, _, _, _, _, rfl⟩, P39.le (by omega), T39⟩
end
end LW

/-! The law's end where several defs of the text make lambdas, and nothing is being shown. -/
namespace GL
open PySem PySem.Spec PyProof.Rows L2
section
variable {P : Program} {w : World} {K : PySem.W.Frag} {mg mb : Str → Option Value} {k : Nat} {fa a : Addr} {ts : List (Addr × Addr)} {fd : FuncData} {x : Str} {sp : Sp} {s₁ : Shared} {vs : List Value} {ns : List Int}
/-- from one abstract heap that knows the table, and the script at most -/
theorem law_fromT (KX : K.In s₁.heap) (hns : s₁.heap.Ns mainGlobals mg) (hb : s₁.heap.Ns builtinsNs mb) (hbb : ∀ x : Str, x ≠ "__name__" → mb x = bootBuiltins x) (hlim : s₁.heap.NoLimit) (hg : s₁.gens = #[])
    (hTs : ∀ p ∈ ts, s₁.heap.get? p.2 = some { cls := .none, data := .fields #[] } ∧ K.lookup p.2 = none ∧ PySem.W.codeHdIn K p.1 p.2 = true)
    (hbm : ∃ (bm : Addr) (ob : Obj), mg "__builtins__" = some (.ref bm) ∧ bm ≠ builtinsNs ∧ s₁.heap.get? bm = some ob ∧ ob.cls = .type "module" ∧ ob.dict = some builtinsNs ∧ ob.data = .plain)
    (ha : s₁.heap.get? a = some { cls := .type "list", data := .seq vs.toArray }) (hr : Room k callerA)
    (F : ∀ base : Heap, K.In base → base.Ns mainGlobals mg → (∀ p ∈ ts, LamX.TabB base mg p.1 p.2) → OkG P w K mg base CX0 k fa fd [x] sp) (hbind : ∀ (s : Shared) (u : Value), BindsTo s fd ⟨[u], []⟩ [(x, u)])
    {H : Hp} (hH : ∀ p ∈ ts, H p.2 = some (.tbl #[])) (hO : ∀ b, b ∉ ts.map Prod.snd → H b = none ∨ ∃ o xs, H b = some (.frz o (.lst xs))) (hsp : sp [.ref a] H (fun v _ => v = .bl true) fun _ _ _ => False) (hok : HOk P w H s₁.heap) (hA : ∀ b, b ∉ ts.map Prod.snd → H b ≠ none → b = a)
    (hK : H a ≠ none → K.lookup a = none) : Law P w fa a s₁ := by
  have free : ∀ {b : Addr} {o : Obj}, s₁.heap.get? b = some o → (∀ xs m, o.data ≠ .seq xs m) → o.data ≠ .fields #[] → H b = none := fun {b o} e d1 d2 => by
    by_cases q : b ∈ ts.map Prod.snd
    · obtain ⟨p, hp, rfl⟩ := List.mem_map.mp q
      rw [(hTs p hp).1] at e
      cases e
      exact (d2 rfl).elim
    · refine Decidable.byContradiction fun z => ?_
      have q2 := hA b q z
      rw [q2, ha] at e
      cases e
      exact d1 _ _ rfl
  have kFree : ∀ {b : Addr} {o : Obj}, K.lookup b = some o → H b = none := fun {b o} e => Decidable.byContradiction fun z => by
    by_cases q : b ∈ ts.map Prod.snd
    · obtain ⟨p, hp, rfl⟩ := List.mem_map.mp q
      rw [(hTs p hp).2.1] at e
      cases e
    · have q2 := hA b q z
      subst q2
      rw [hK z] at e
      cases e
  have dict : ∀ {b : Addr} {o : Obj} {es : Array DictEntry} {ep : Nat}, s₁.heap.get? b = some o → o.data = .dict es ep → H b = none := fun {b o es ep} e d =>
    free e (fun xs m z => by rw [d] at z; cases z) (fun z => by rw [d] at z; cases z)
  have names : ∀ {b : Addr} {m : Str → Option Value}, s₁.heap.Ns b m → (hidT s₁.heap H).Ns b m := fun {b m} z => by
    obtain ⟨o, es, ep, e, d, r⟩ := z
    exact ⟨o, es, ep, hidT_get e (dict e d), d, r⟩
  have kIn' : K.In (hidT s₁.heap H) := fun b o e => hidT_get (KX b o e) (kFree e)
  have TB : ∀ p ∈ ts, LamX.TabB (hidT s₁.heap H) mg p.1 p.2 := fun p hp => by
    obtain ⟨hTab, nTab, hCd⟩ := hTs p hp
    have gP : mainGlobals ≠ p.2 := fun z => by
      obtain ⟨o, es, ep, e, d, _⟩ := hns
      rw [z, hTab] at e
      cases e
      cases d
    refine ⟨PySem.W.codeHd_of_K kIn' hCd, ?_, gP⟩
    obtain ⟨bm, ob, q1, q2, q3, q4, q5, q6⟩ := hbm
    have nG : bm ≠ mainGlobals := fun z => by
      obtain ⟨o, es, ep, e, d, _⟩ := hns
      rw [z, e] at q3
      cases q3
      rw [d] at q6
      cases q6
    have nP : bm ≠ p.2 := fun z => by
      rw [z, hTab] at q3
      cases q3
      cases q6
    exact ⟨bm, ob, q1, q2, nG, nP, hidT_get q3 (free q3 (fun xs m z => by rw [q6] at z; cases z) (fun z => by rw [q6] at z; cases z)), q4, q5, q6⟩
  obtain ⟨mc, l1, l2⟩ := hlim
  have e0 : Env0 P w K mg (hidT s₁.heap H) callerA [] s₁ H := ⟨rfl, ⟨kIn', names hns, ⟨mb, names hb, hbb⟩, ⟨mc, names l1, l2⟩⟩, fun b o e => of_hidT e, Nat.le_of_eq (hidT_size _ _), trivial, (fun b z => nomatch z), hok, .of_eq hg⟩
  have run := (F _ kIn' (names hns) TB).run callerA [] s₁ H ⟨[.ref a], []⟩ [.ref a] [.ref a] _ _ hr rfl e0 (hbind s₁ (.ref a)) (.cons rfl .nil) hsp
  refine codeAny_mono run fun r s' z => ?_
  cases r with
  | error e => exact z.elim
  | ok fl => cases fl with
    | next => exact z.elim
    | brk => exact z.elim
    | cont => exact z.elim
    | ret u =>
      obtain ⟨v, H', os, bare, un, hok', rv, ev⟩ := z
      have ev' : v = .bl true := ev
      subst ev'
      cases (show u = Value.bool true from rv)
      have stay : ∀ b o, b ∉ ts.map Prod.snd → s₁.heap.get? b = some o → s'.heap.get? b = some o := fun b o n e => by
        rcases hO b n with q | ⟨ob, xs, q⟩
        · exact un.keep b o e q (fun z => nomatch z) (fun z => nomatch z)
        · obtain ⟨e1, _⟩ := hok b _ q
          obtain ⟨e2, _⟩ := hok' b _ (un.frzs b ob _ q)
          rw [e] at e1
          cases e1
          exact e2
      refine ⟨rfl, ⟨fun b o e => ?_, fun b o e => ?_⟩, os, bare⟩
      · by_cases n : b ∈ ts.map Prod.snd
        · obtain ⟨p, hp, rfl⟩ := List.mem_map.mp n
          obtain ⟨hTab, nTab, hCd⟩ := hTs p hp
          obtain ⟨more, hm⟩ := un.tbls p.2 #[] (hH p hp)
          have now := hok' p.2 _ hm
          rw [hTab] at e
          cases e
          exact .inr (.inl ⟨((PySem.W.codeHd_of_K KX hCd).tab hTab).isCodeTable, rfl, #[], more, rfl, now⟩)
        · exact .inl (stay b o n e)
      · by_cases n : b ∈ ts.map Prod.snd
        · obtain ⟨p, hp, rfl⟩ := List.mem_map.mp n
          obtain ⟨more, hm⟩ := un.tbls p.2 #[] (hH p hp)
          exact ⟨_, hok' p.2 _ hm⟩
        · exact ⟨o, stay b o n e⟩
theorem law_callGT (KX : K.In s₁.heap) (hns : s₁.heap.Ns mainGlobals mg) (hb : s₁.heap.Ns builtinsNs mb) (hbb : ∀ x : Str, x ≠ "__name__" → mb x = bootBuiltins x) (hlim : s₁.heap.NoLimit) (hg : s₁.gens = #[])
    (hTs : ∀ p ∈ ts, s₁.heap.get? p.2 = some { cls := .none, data := .fields #[] } ∧ K.lookup p.2 = none ∧ PySem.W.codeHdIn K p.1 p.2 = true)
    (hbm : ∃ (bm : Addr) (ob : Obj), mg "__builtins__" = some (.ref bm) ∧ bm ≠ builtinsNs ∧ s₁.heap.get? bm = some ob ∧ ob.cls = .type "module" ∧ ob.dict = some builtinsNs ∧ ob.data = .plain)
    (ha : s₁.heap.get? a = some { cls := .type "list", data := .seq vs.toArray }) (hi : IntsAre vs ns) (hl : ns.length ≤ sizeLine) (hr : Room k callerA)
    (F : ∀ base : Heap, K.In base → base.Ns mainGlobals mg → (∀ p ∈ ts, LamX.TabB base mg p.1 p.2) → OkG P w K mg base CX0 k fa fd [x] sp) (hbind : ∀ (s : Shared) (u : Value), BindsTo s fd ⟨[u], []⟩ [(x, u)])
    (hsp : ∀ H : Hp, (∀ p ∈ ts, H p.2 = some (.tbl #[])) → SqL K H a (ns.map V.int) → sp [.ref a] H (fun v _ => v = .bl true) fun _ _ _ => False) : Law P w fa a s₁ := by
  have rv := vals_ints hi
  have na : a ∉ ts.map Prod.snd := fun z => by
    obtain ⟨p, hp, e⟩ := List.mem_map.mp z
    rw [← e, (hTs p hp).1] at ha
    cases ha
  let H0 : Hp := fun b => if b ∈ ts.map Prod.snd then some (.tbl #[]) else none
  have t0' : ∀ b, b ∈ ts.map Prod.snd → H0 b = some (.tbl #[]) := fun b z => if_pos z
  have t0 : ∀ p ∈ ts, H0 p.2 = some (.tbl #[]) := fun p hp => t0' _ (List.mem_map.mpr ⟨p, hp, rfl⟩)
  have o0 : ∀ b, b ∉ ts.map Prod.snd → H0 b = none := fun b z => if_neg z
  cases hk : K.lookup a with
  | some o =>
    have e := KX a o hk
    rw [ha] at e
    cases e
    have hS : SqL K H0 a (ns.map V.int) := .inr ⟨_, vs.toArray, _, hk, rfl, rfl, rfl, by rw [List.size_toArray, hi.length]; exact hl, by simpa using rv⟩
    refine law_fromT KX hns hb hbb hlim hg hTs hbm ha hr F hbind t0 (fun b n => .inl (o0 b n)) (hsp H0 t0 hS) (fun b u z => ?_) (fun b n z => (z (o0 b n)).elim) (fun z => (z (o0 a na)).elim)
    by_cases q : b ∈ ts.map Prod.snd
    · rw [t0' b q] at z
      cases z
      obtain ⟨p, hp, rfl⟩ := List.mem_map.mp q
      exact (hTs p hp).1
    · rw [o0 b q] at z
      cases z
  | none =>
    let H1 : Hp := upd H0 a (.frz { cls := .type "list", data := .seq vs.toArray } (.lst (ns.map V.int)))
    have a1 : H1 a = some (.frz { cls := .type "list", data := .seq vs.toArray } (.lst (ns.map V.int))) := upd_same
    have t1' : ∀ b, b ∈ ts.map Prod.snd → H1 b = some (.tbl #[]) := fun b z => (upd_ne (fun e => na (by rw [← e]; exact z))).trans (t0' b z)
    have t1 : ∀ p ∈ ts, H1 p.2 = some (.tbl #[]) := fun p hp => t1' _ (List.mem_map.mpr ⟨p, hp, rfl⟩)
    have o1 : ∀ b, b ∉ ts.map Prod.snd → b ≠ a → H1 b = none := fun b z y => (upd_ne y).trans (o0 b z)
    refine law_fromT KX hns hb hbb hlim hg hTs hbm ha hr F hbind t1 (fun b n => ?_) (hsp H1 t1 (.inl (.inr ⟨_, a1⟩))) (fun b u z => ?_) (fun b n z => Decidable.byContradiction fun q => z (o1 b n q)) (fun _ => hk)
    · by_cases q : b = a
      · rw [q]
        exact .inr ⟨_, _, a1⟩
      · exact .inl (o1 b n q)
    · by_cases q : b = a
      · subst q
        rw [a1] at z
        cases z
        exact ⟨ha, by rw [List.length_map]; exact hl, vs, _, rv, ha⟩
      · by_cases q2 : b ∈ ts.map Prod.snd
        · rw [t1' b q2] at z
          cases z
          obtain ⟨p, hp, rfl⟩ := List.mem_map.mp q2
          exact (hTs p hp).1
        · rw [o1 b q2 q] at z
          cases z
end
/-- what is known of the law's def -/
def LawT (P : Program) (w : World) (K : PySem.W.Frag) (k n : Nat) (x : Str) (mg : Str → Option Value) (fa : Addr) (h : Heap) : Prop :=
  ∃ (fd : FuncData) (ts : List (Addr × Addr)) (sp : Sp), (∀ p ∈ ts, h.get? p.2 = some { cls := .none, data := .fields #[] } ∧ K.lookup p.2 = none ∧ PySem.W.codeHdIn K p.1 p.2 = true) ∧ (∀ (s : Shared) (u : Value), BindsTo s fd ⟨[u], []⟩ [(x, u)]) ∧
    (∀ (H : Hp) (a : Addr) (ns : List Int), ns.length ≤ n → (∀ p ∈ ts, H p.2 = some (.tbl #[])) → SqL K H a (ns.map V.int) → sp [.ref a] H (fun v _ => v = .bl true) fun _ _ _ => False) ∧
    ∀ base : Heap, K.In base → base.Ns mainGlobals mg → (∀ p ∈ ts, LamX.TabB base mg p.1 p.2) → OkG P w K mg base CX0 k fa fd [x] sp
theorem walk_GT {l : PySem.W.OpenLaw} {n k : Nat} {q : Program} {loose : List Str} {XP : (Str → Option Value) → Heap → Prop} {YP : World → Heap → Prop} {d : DefRec} {K : Params → PySem.W.Frag} {x : Str}
    (hn : l.most = some n) (hn2 : n ≤ sizeLine) (hdf : d.params.defaults = []) (hr : Room k callerA) (hY : ∀ (w : World) (h : Heap), YP w h → (K w.params).In h)
    (F : ∀ (w : World) (mg : Str → Option Value) (fa : Addr) (h : Heap), YP w h → (K w.params).In h → h.Ns mainGlobals mg → mg d.name = some (.ref fa) → LawT l.prog w (K w.params) k n x mg fa h) :
    PySem.W.WalkO q loose XP YP l.row.toRowW d [] (fun f vs => PySem.call f vs) := by
  refine Att.attach_call hn hdf fun w s₀ s₁ mg mb fa o pm cd doc a vs ns G Y ho hd hcd hmg hobj hints hlen hg => ?_
  have KX := hY w _ Y
  obtain ⟨fd, ts, sp, hT, hbi, hsp, hF⟩ := F w mg fa _ Y KX G.T.g hmg
  exact law_callGT KX G.T.g G.T.b G.T.builtins G.T.nolimit hg hT G.T.bmain hobj hints (Nat.le_trans hlen hn2) hr hF hbi fun H hH hS => hsp H a ns hlen hH hS
end GL

namespace LW
open PySem PySem.Spec PyProof.Rows L2 GL
theorem fin_law {P : Program} {w : World} {K : PySem.W.Frag} {mg : Str → Option Value} {h : Heap} {cC cP dC dP : Addr} (T : Txt K mg) (TP : PolyT K mg) (h1 : (fDat K (fA mg "law")).code = .ref cC) (h2 : (fDat K (fA mg "_law_made_right")).code = .ref dC)
    (tc : h.get? cP = some { cls := .none, data := .fields #[] }) (td : h.get? dP = some { cls := .none, data := .fields #[] }) (nc : K.lookup cP = none) (nd : K.lookup dP = none) (kc : PySem.W.codeHdIn K cC cP = true) (kd : PySem.W.codeHdIn K dC dP = true) (ne : cP ≠ dP) :
    GL.LawT P w K 17 63 "_law_script" mg (fA mg "law") h := by
  let Tb : List (Addr × Str) := [(cP, (("law" : Str) ++ (".<locals>." : Str)) ++ ("<lambda>" : Str)), (dP, (("_law_made_right" : Str) ++ (".<locals>." : Str)) ++ ("<lambda>" : Str))]
  refine ⟨_, [(cC, cP), (dC, dP)], spLaw (K := K) Tb, fun p hp => ?_, T.lb, fun H a ns hl hH hS => ⟨a, ns, rfl, hS, hl, fun p hp => ?_, fun _ => rfl⟩, fun base _ _ TB => ?_⟩
  · rcases List.mem_cons.mp hp with rfl | hp
    · exact ⟨tc, nc, kc⟩
    · rw [List.mem_singleton.mp hp]
      exact ⟨td, nd, kd⟩
  · rcases List.mem_cons.mp hp with rfl | hp
    · exact LamX.TabS.nil (hH (cC, cP) (List.mem_cons_self ..))
    · rw [List.mem_singleton.mp hp]
      exact LamX.TabS.nil (hH (dC, dP) (List.mem_cons_of_mem _ (List.mem_singleton.mpr rfl)))
  · refine ok_law (dC := dC) (dP := dP) (Tb := Tb) T TP (TB (cC, cP) (List.mem_cons_self ..)) h1 (List.mem_cons_self ..) (fun p hp e => ?_) (ok_made_right (Tb := Tb) T TP (TB (dC, dP) (List.mem_cons_of_mem _ (List.mem_singleton.mpr rfl))) h2 (List.mem_cons_of_mem _ (List.mem_singleton.mpr rfl)) (fun p hp e => ?_))
    · rcases List.mem_cons.mp hp with rfl | hp
      · rfl
      · rw [List.mem_singleton.mp hp] at e
        exact (ne e.symm).elim
    · rcases List.mem_cons.mp hp with rfl | hp
      · exact (ne e).elim
      · rw [List.mem_singleton.mp hp]
end LW

namespace LW
open PySem PySem.Spec PyProof.Rows L2 GL
theorem Me.mk' {K : PySem.W.Frag} {C f : Addr} {m q : Str} {st : Stmt} {ps : List Str} {oc : Value} {od an : Option Addr} {osl : Array (Option Value)} {kV doc pm cdv ct : Value} (i : PySem.W.findIn K (.ref C) m = some (some (.ref f))) (n : PySem.W.isFn K (.ref f) = true)
    (l : K.lookup f = some ⟨oc, od, .func (PySem.W.fnOf m q (defArgs st) (defBody st) (defScope st) .none kV doc pm an cdv ct), osl⟩) (c : PySem.W.codeIn K cdv q = true) (k : PySem.W.keepIn K (.ref f) = true)
    (bi : ∀ (kV doc pm : Value) (an : Option Addr) (cdv ct : Value) (us : List Value), us.length = ps.length → bindArgs (PySem.W.fnOf m q (defArgs st) (defBody st) (defScope st) .none kV doc pm an cdv ct) ⟨us, []⟩ = pure (ps.zip us)) : Me K C m q st ps := by
  have c2 : mA K C m = f := mA_of i
  have c3 := fDat_of l
  have F := fun_mk (st := st) l c k
  exact ⟨by rw [c2]; exact i, by rw [c2]; exact n, by rw [c2, c3]; exact F, by rw [c2, c3]; exact F.binds bi⟩
theorem polyT_of {K : PySem.W.Frag} {mg : Str → Option Value} {C f : Addr} (g : mg "Poly" = some (.ref C)) (cls : Cls K C) (mk : Mk K C f) (no : NoAttr K C "numbers") (me : PySem.W.selfFirst K C = true)
    (m0 : Me K C "__init__" "Poly.__init__" (inClass (top 23) 0) ["self", "numbers"]) (m1 : Me K C "__eq__" "Poly.__eq__" (inClass (top 23) 1) ["self", "other"]) (m2 : Me K C "__add__" "Poly.__add__" (inClass (top 23) 2) ["self", "other"]) (m3 : Me K C "__radd__" "Poly.__radd__" (inClass (top 23) 3) ["self", "other"])
    (m4 : Me K C "__sub__" "Poly.__sub__" (inClass (top 23) 4) ["self", "other"]) (m5 : Me K C "__rsub__" "Poly.__rsub__" (inClass (top 23) 5) ["self", "other"]) (m6 : Me K C "__mul__" "Poly.__mul__" (inClass (top 23) 6) ["self", "other"]) (m7 : Me K C "__rmul__" "Poly.__rmul__" (inClass (top 23) 7) ["self", "other"])
    (m8 : Me K C "__neg__" "Poly.__neg__" (inClass (top 23) 8) ["self"]) (m9 : Me K C "degree" "Poly.degree" (inClass (top 23) 9) ["self"]) (m10 : Me K C "at" "Poly.at" (inClass (top 23) 10) ["self", "point"]) (m11 : Me K C "slope" "Poly.slope" (inClass (top 23) 11) ["self"])
    (hc : PySem.W.findIn K (.ref C) "__class__" = some (some (.builtin "object.__class__"))) (hn : PySem.W.specialIn K (.builtin "object.__class__") "__get__" = some (some (.builtin "getset_descriptor.__get__"))) (ht : PySem.W.takesIn K (.builtin "object.__class__") = some true) (hm : PySem.W.mroIn K C (.type "object") = some true)
    (kf : ∀ T : String, T = "int" ∨ T = "tuple" → PySem.W.kitOne K (.type T) (.ref C) = some false) (s1 : ∀ T : String, T = "int" ∨ T = "tuple" → PySem.W.subIn K (.type T) (.ref C) = some false) (s2 : ∀ T : String, T = "int" ∨ T = "tuple" → PySem.W.subIn K (.ref C) (.type T) = some false)
    (lr : ∀ op : Operator, op = .Add ∨ op = .Sub ∨ op = .Mult → (∃ fo ro, PySem.W.findIn K (.type "int") (PySem.dunder op.info.2) = some fo ∧ PySem.W.findIn K (.type "int") (dunderR op.info.2) = some ro ∧ ((fo.isSome && !isSeqSlot fo) || (ro.isSome && !isSeqSlot ro)) = true) ∧
      ∃ fo ro, PySem.W.findIn K (.type "tuple") (PySem.dunder op.info.2) = some fo ∧ PySem.W.findIn K (.type "tuple") (dunderR op.info.2) = some ro ∧ ((fo.isSome && !isSeqSlot fo) || (ro.isSome && !isSeqSlot ro)) = false) : PolyT K mg := by
  obtain rfl : C = poA mg := (fA_of g).symm
  have e : f = mA K (poA mg) "__init__" := (mA_of mk.init).symm
  subst e
  exact ⟨g, cls, mk, no, me, m0, m1, m2, m3, m4, m5, m6, m7, m8, m9, m10, m11, hc, hn, ht, hm, kf, s1, s2, lr⟩
theorem facts {K : PySem.W.Frag} {h : Heap} {mg : Str → Option Value} {Z : Prop} (X : K.In h) (G : h.Ns mainGlobals mg)
    {f_is_ratio : Addr} {od_is_ratio an_is_ratio : Option Addr} {sl_is_ratio : Array (Option Value)} {oc_is_ratio kV_is_ratio dc_is_ratio pm_is_ratio cd_is_ratio ct_is_ratio : Value} {f_told : Addr} {od_told an_told : Option Addr} {sl_told : Array (Option Value)} {oc_told kV_told dc_told pm_told cd_told ct_told : Value} {f_plus : Addr} {od_plus an_plus : Option Addr} {sl_plus : Array (Option Value)} {oc_plus kV_plus dc_plus pm_plus cd_plus ct_plus : Value} {f_times : Addr} {od_times an_times : Option Addr} {sl_times : Array (Option Value)} {oc_times kV_times dc_times pm_times cd_times ct_times : Value} {f_is_integer : Addr} {od_is_integer an_is_integer : Option Addr} {sl_is_integer : Array (Option Value)} {oc_is_integer kV_is_integer dc_is_integer pm_is_integer cd_is_integer ct_is_integer : Value} {f_parts : Addr} {od_parts an_parts : Option Addr} {sl_parts : Array (Option Value)} {oc_parts kV_parts dc_parts pm_parts cd_parts ct_parts : Value} {f_lowest : Addr} {od_lowest an_lowest : Option Addr} {sl_lowest : Array (Option Value)} {oc_lowest kV_lowest dc_lowest pm_lowest cd_lowest ct_lowest : Value} {f_is_row : Addr} {od_is_row an_is_row : Option Addr} {sl_is_row : Array (Option Value)} {oc_is_row kV_is_row dc_is_row pm_is_row cd_is_row ct_is_row : Value} {f_is_strict_ratio : Addr} {od_is_strict_ratio an_is_strict_ratio : Option Addr} {sl_is_strict_ratio : Array (Option Value)} {oc_is_strict_ratio kV_is_strict_ratio dc_is_strict_ratio pm_is_strict_ratio cd_is_strict_ratio ct_is_strict_ratio : Value} {f_bottom_of : Addr} {od_bottom_of an_bottom_of : Option Addr} {sl_bottom_of : Array (Option Value)} {oc_bottom_of kV_bottom_of dc_bottom_of pm_bottom_of cd_bottom_of ct_bottom_of : Value} {f_whole_row : Addr} {od_whole_row an_whole_row : Option Addr} {sl_whole_row : Array (Option Value)} {oc_whole_row kV_whole_row dc_whole_row pm_whole_row cd_whole_row ct_whole_row : Value} {f_top_power : Addr} {od_top_power an_top_power : Option Addr} {sl_top_power : Array (Option Value)} {oc_top_power kV_top_power dc_top_power pm_top_power cd_top_power ct_top_power : Value} {f_row_product : Addr} {od_row_product an_row_product : Option Addr} {sl_row_product : Array (Option Value)} {oc_row_product kV_row_product dc_row_product pm_row_product cd_row_product ct_row_product : Value} {f_beside : Addr} {od_beside an_beside : Option Addr} {sl_beside : Array (Option Value)} {oc_beside kV_beside dc_beside pm_beside cd_beside ct_beside : Value} {f_number : Addr} {od_number an_number : Option Addr} {sl_number : Array (Option Value)} {oc_number kV_number dc_number pm_number cd_number ct_number : Value} {f_sum : Addr} {od_sum an_sum : Option Addr} {sl_sum : Array (Option Value)} {oc_sum kV_sum dc_sum pm_sum cd_sum ct_sum : Value} {f_product : Addr} {od_product an_product : Option Addr} {sl_product : Array (Option Value)} {oc_product kV_product dc_product pm_product cd_product ct_product : Value} {f_law_pen : Addr} {od_law_pen an_law_pen : Option Addr} {sl_law_pen : Array (Option Value)} {oc_law_pen kV_law_pen dc_law_pen pm_law_pen cd_law_pen ct_law_pen : Value} {f_law_draw : Addr} {od_law_draw an_law_draw : Option Addr} {sl_law_draw : Array (Option Value)} {oc_law_draw kV_law_draw dc_law_draw pm_law_draw cd_law_draw ct_law_draw : Value} {f_law_pick : Addr} {od_law_pick an_law_pick : Option Addr} {sl_law_pick : Array (Option Value)} {oc_law_pick kV_law_pick dc_law_pick pm_law_pick cd_law_pick ct_law_pick : Value} {f_law_gcd : Addr} {od_law_gcd an_law_gcd : Option Addr} {sl_law_gcd : Array (Option Value)} {oc_law_gcd kV_law_gcd dc_law_gcd pm_law_gcd cd_law_gcd ct_law_gcd : Value} {f_law_q : Addr} {od_law_q an_law_q : Option Addr} {sl_law_q : Array (Option Value)} {oc_law_q kV_law_q dc_law_q pm_law_q cd_law_q ct_law_q : Value} {f_law_plus : Addr} {od_law_plus an_law_plus : Option Addr} {sl_law_plus : Array (Option Value)} {oc_law_plus kV_law_plus dc_law_plus pm_law_plus cd_law_plus ct_law_plus : Value} {f_law_times : Addr} {od_law_times an_law_times : Option Addr} {sl_law_times : Array (Option Value)} {oc_law_times kV_law_times dc_law_times pm_law_times cd_law_times ct_law_times : Value} {f_law_passed : Addr} {od_law_passed an_law_passed : Option Addr} {sl_law_passed : Array (Option Value)} {oc_law_passed kV_law_passed dc_law_passed pm_law_passed cd_law_passed ct_law_passed : Value} {f_law_ratio : Addr} {od_law_ratio an_law_ratio : Option Addr} {sl_law_ratio : Array (Option Value)} {oc_law_ratio kV_law_ratio dc_law_ratio pm_law_ratio cd_law_ratio ct_law_ratio : Value} {f_law_poly : Addr} {od_law_poly an_law_poly : Option Addr} {sl_law_poly : Array (Option Value)} {oc_law_poly kV_law_poly dc_law_poly pm_law_poly cd_law_poly ct_law_poly : Value} {f_law_p_plus : Addr} {od_law_p_plus an_law_p_plus : Option Addr} {sl_law_p_plus : Array (Option Value)} {oc_law_p_plus kV_law_p_plus dc_law_p_plus pm_law_p_plus cd_law_p_plus ct_law_p_plus : Value} {f_law_p_scaled : Addr} {od_law_p_scaled an_law_p_scaled : Option Addr} {sl_law_p_scaled : Array (Option Value)} {oc_law_p_scaled kV_law_p_scaled dc_law_p_scaled pm_law_p_scaled cd_law_p_scaled ct_law_p_scaled : Value} {f_law_p_minus : Addr} {od_law_p_minus an_law_p_minus : Option Addr} {sl_law_p_minus : Array (Option Value)} {oc_law_p_minus kV_law_p_minus dc_law_p_minus pm_law_p_minus cd_law_p_minus ct_law_p_minus : Value} {f_law_p_times : Addr} {od_law_p_times an_law_p_times : Option Addr} {sl_law_p_times : Array (Option Value)} {oc_law_p_times kV_law_p_times dc_law_p_times pm_law_p_times cd_law_p_times ct_law_p_times : Value} {f_law_p_at : Addr} {od_law_p_at an_law_p_at : Option Addr} {sl_law_p_at : Array (Option Value)} {oc_law_p_at kV_law_p_at dc_law_p_at pm_law_p_at cd_law_p_at ct_law_p_at : Value} {f_law_p_slope : Addr} {od_law_p_slope an_law_p_slope : Option Addr} {sl_law_p_slope : Array (Option Value)} {oc_law_p_slope kV_law_p_slope dc_law_p_slope pm_law_p_slope cd_law_p_slope ct_law_p_slope : Value} {f_law_made_poly : Addr} {od_law_made_poly an_law_made_poly : Option Addr} {sl_law_made_poly : Array (Option Value)} {oc_law_made_poly kV_law_made_poly dc_law_made_poly pm_law_made_poly cd_law_made_poly ct_law_made_poly : Value} {f_law_drawn : Addr} {od_law_drawn an_law_drawn : Option Addr} {sl_law_drawn : Array (Option Value)} {oc_law_drawn kV_law_drawn dc_law_drawn pm_law_drawn cd_law_drawn ct_law_drawn : Value} {f_law_why : Addr} {od_law_why an_law_why : Option Addr} {sl_law_why : Array (Option Value)} {oc_law_why kV_law_why dc_law_why pm_law_why cd_law_why ct_law_why : Value} {f_law_any : Addr} {od_law_any an_law_any : Option Addr} {sl_law_any : Array (Option Value)} {oc_law_any kV_law_any dc_law_any pm_law_any cd_law_any ct_law_any : Value} {f_law_far : Addr} {od_law_far an_law_far : Option Addr} {sl_law_far : Array (Option Value)} {oc_law_far kV_law_far dc_law_far pm_law_far cd_law_far ct_law_far : Value} {f_law_some_ratio : Addr} {od_law_some_ratio an_law_some_ratio : Option Addr} {sl_law_some_ratio : Array (Option Value)} {oc_law_some_ratio kV_law_some_ratio dc_law_some_ratio pm_law_some_ratio cd_law_some_ratio ct_law_some_ratio : Value} {f_law_made_right : Addr} {od_law_made_right an_law_made_right : Option Addr} {sl_law_made_right : Array (Option Value)} {oc_law_made_right kV_law_made_right dc_law_made_right pm_law_made_right ct_law_made_right : Value} {cC_law_made_right : Addr} {f_law : Addr} {od_law an_law : Option Addr} {sl_law : Array (Option Value)} {oc_law kV_law dc_law pm_law ct_law : Value} {cC_law : Addr} {C_BadText : Addr} {fI_BadText : Addr} {odI_BadText anI_BadText : Option Addr} {slI_BadText : Array (Option Value)} {ocI_BadText kVI_BadText dcI_BadText pmI_BadText cdI_BadText ctI_BadText : Value} {nmI_BadText qI_BadText : Str} {NI_BadText : Addr} {bsI_BadText bmI_BadText : List Value} {snI_BadText : List Str} {subI_BadText : List Value} {abI_BadText : Bool} {colI_BadText : Option Bool} {ddI_BadText : Option Addr} {m0I_BadText m1I_BadText m2I_BadText m3I_BadText m5I_BadText : Option Value} {C_BadNumber : Addr} {fI_BadNumber : Addr} {odI_BadNumber anI_BadNumber : Option Addr} {slI_BadNumber : Array (Option Value)} {ocI_BadNumber kVI_BadNumber dcI_BadNumber pmI_BadNumber cdI_BadNumber ctI_BadNumber : Value} {nmI_BadNumber qI_BadNumber : Str} {NI_BadNumber : Addr} {bsI_BadNumber bmI_BadNumber : List Value} {snI_BadNumber : List Str} {subI_BadNumber : List Value} {abI_BadNumber : Bool} {colI_BadNumber : Option Bool} {ddI_BadNumber : Option Addr} {m0I_BadNumber m1I_BadNumber m2I_BadNumber m3I_BadNumber m5I_BadNumber : Option Value} {C_BadRow : Addr} {fI_BadRow : Addr} {odI_BadRow anI_BadRow : Option Addr} {slI_BadRow : Array (Option Value)} {ocI_BadRow kVI_BadRow dcI_BadRow pmI_BadRow cdI_BadRow ctI_BadRow : Value} {nmI_BadRow qI_BadRow : Str} {NI_BadRow : Addr} {bsI_BadRow bmI_BadRow : List Value} {snI_BadRow : List Str} {subI_BadRow : List Value} {abI_BadRow : Bool} {colI_BadRow : Option Bool} {ddI_BadRow : Option Addr} {m0I_BadRow m1I_BadRow m2I_BadRow m3I_BadRow m5I_BadRow : Option Value} {C_Poly : Addr} {fPm_init : Addr} {odPm_init anPm_init : Option Addr} {slPm_init : Array (Option Value)} {ocPm_init kVPm_init dcPm_init pmPm_init cdPm_init ctPm_init : Value} {fPm_eq : Addr} {odPm_eq anPm_eq : Option Addr} {slPm_eq : Array (Option Value)} {ocPm_eq kVPm_eq dcPm_eq pmPm_eq cdPm_eq ctPm_eq : Value} {fPm_add : Addr} {odPm_add anPm_add : Option Addr} {slPm_add : Array (Option Value)} {ocPm_add kVPm_add dcPm_add pmPm_add cdPm_add ctPm_add : Value} {fPm_radd : Addr} {odPm_radd anPm_radd : Option Addr} {slPm_radd : Array (Option Value)} {ocPm_radd kVPm_radd dcPm_radd pmPm_radd cdPm_radd ctPm_radd : Value} {fPm_sub : Addr} {odPm_sub anPm_sub : Option Addr} {slPm_sub : Array (Option Value)} {ocPm_sub kVPm_sub dcPm_sub pmPm_sub cdPm_sub ctPm_sub : Value} {fPm_rsub : Addr} {odPm_rsub anPm_rsub : Option Addr} {slPm_rsub : Array (Option Value)} {ocPm_rsub kVPm_rsub dcPm_rsub pmPm_rsub cdPm_rsub ctPm_rsub : Value} {fPm_mul : Addr} {odPm_mul anPm_mul : Option Addr} {slPm_mul : Array (Option Value)} {ocPm_mul kVPm_mul dcPm_mul pmPm_mul cdPm_mul ctPm_mul : Value} {fPm_rmul : Addr} {odPm_rmul anPm_rmul : Option Addr} {slPm_rmul : Array (Option Value)} {ocPm_rmul kVPm_rmul dcPm_rmul pmPm_rmul cdPm_rmul ctPm_rmul : Value} {fPm_neg : Addr} {odPm_neg anPm_neg : Option Addr} {slPm_neg : Array (Option Value)} {ocPm_neg kVPm_neg dcPm_neg pmPm_neg cdPm_neg ctPm_neg : Value} {fPm_degree : Addr} {odPm_degree anPm_degree : Option Addr} {slPm_degree : Array (Option Value)} {ocPm_degree kVPm_degree dcPm_degree pmPm_degree cdPm_degree ctPm_degree : Value} {fPm_at : Addr} {odPm_at anPm_at : Option Addr} {slPm_at : Array (Option Value)} {ocPm_at kVPm_at dcPm_at pmPm_at cdPm_at ctPm_at : Value} {fPm_slope : Addr} {odPm_slope anPm_slope : Option Addr} {slPm_slope : Array (Option Value)} {ocPm_slope kVPm_slope dcPm_slope pmPm_slope cdPm_slope ctPm_slope : Value} {fointAdd rointAdd : Option Value} {fointSub rointSub : Option Value} {fointMult rointMult : Option Value} {fotupleAdd rotupleAdd : Option Value} {fotupleSub rotupleSub : Option Value} {fotupleMult rotupleMult : Option Value}
    (z_int : PySem.W.nsIn K mainGlobals "int" = some none)
    (z_bool : PySem.W.nsIn K mainGlobals "bool" = some none)
    (z_list : PySem.W.nsIn K mainGlobals "list" = some none)
    (z_tuple : PySem.W.nsIn K mainGlobals "tuple" = some none)
    (z_len : PySem.W.nsIn K mainGlobals "len" = some none)
    (z_range : PySem.W.nsIn K mainGlobals "range" = some none)
    (z_isinstance : PySem.W.nsIn K mainGlobals "isinstance" = some none)
    (z_repr : PySem.W.nsIn K mainGlobals "repr" = some none)
    (z_abs : PySem.W.nsIn K mainGlobals "abs" = some none)
    (z_all : PySem.W.nsIn K mainGlobals "all" = some none)
    (z_reversed : PySem.W.nsIn K mainGlobals "reversed" = some none)
    (z_max : PySem.W.nsIn K mainGlobals "max" = some none)
    (z_min : PySem.W.nsIn K mainGlobals "min" = some none)
    (z_sum : PySem.W.nsIn K mainGlobals "sum" = some none)
    (z_enumerate : PySem.W.nsIn K mainGlobals "enumerate" = some none)
    (z_zip : PySem.W.nsIn K mainGlobals "zip" = some none)
    (z_NotImplemented : PySem.W.nsIn K mainGlobals "NotImplemented" = some none)
    (g_gcd : PySem.W.nsIn K mainGlobals "gcd" = some (some (.builtin "math.gcd")))
    (g_lcm : PySem.W.nsIn K mainGlobals "lcm" = some (some (.builtin "math.lcm")))
    (a_is_ratio : PySem.W.nsIn K mainGlobals "is_ratio" = some (some (.ref f_is_ratio)))
    (l_is_ratio : K.lookup f_is_ratio = some ⟨oc_is_ratio, od_is_ratio, .func (PySem.W.fnOf "is_ratio" "is_ratio" (defArgs sis_ratio) (defBody sis_ratio) (defScope sis_ratio) .none kV_is_ratio dc_is_ratio pm_is_ratio an_is_ratio cd_is_ratio ct_is_ratio), sl_is_ratio⟩)
    (c_is_ratio : PySem.W.codeIn K cd_is_ratio "is_ratio" = true)
    (k_is_ratio : PySem.W.keepIn K (.ref f_is_ratio) = true)
    (a_told : PySem.W.nsIn K mainGlobals "told" = some (some (.ref f_told)))
    (l_told : K.lookup f_told = some ⟨oc_told, od_told, .func (PySem.W.fnOf "told" "told" (defArgs stold) (defBody stold) (defScope stold) .none kV_told dc_told pm_told an_told cd_told ct_told), sl_told⟩)
    (c_told : PySem.W.codeIn K cd_told "told" = true)
    (k_told : PySem.W.keepIn K (.ref f_told) = true)
    (a_plus : PySem.W.nsIn K mainGlobals "plus" = some (some (.ref f_plus)))
    (l_plus : K.lookup f_plus = some ⟨oc_plus, od_plus, .func (PySem.W.fnOf "plus" "plus" (defArgs splus) (defBody splus) (defScope splus) .none kV_plus dc_plus pm_plus an_plus cd_plus ct_plus), sl_plus⟩)
    (c_plus : PySem.W.codeIn K cd_plus "plus" = true)
    (k_plus : PySem.W.keepIn K (.ref f_plus) = true)
    (a_times : PySem.W.nsIn K mainGlobals "times" = some (some (.ref f_times)))
    (l_times : K.lookup f_times = some ⟨oc_times, od_times, .func (PySem.W.fnOf "times" "times" (defArgs stimes) (defBody stimes) (defScope stimes) .none kV_times dc_times pm_times an_times cd_times ct_times), sl_times⟩)
    (c_times : PySem.W.codeIn K cd_times "times" = true)
    (k_times : PySem.W.keepIn K (.ref f_times) = true)
    (a_is_integer : PySem.W.nsIn K mainGlobals "is_integer" = some (some (.ref f_is_integer)))
    (l_is_integer : K.lookup f_is_integer = some ⟨oc_is_integer, od_is_integer, .func (PySem.W.fnOf "is_integer" "is_integer" (defArgs sis_integer) (defBody sis_integer) (defScope sis_integer) .none kV_is_integer dc_is_integer pm_is_integer an_is_integer cd_is_integer ct_is_integer), sl_is_integer⟩)
    (c_is_integer : PySem.W.codeIn K cd_is_integer "is_integer" = true)
    (k_is_integer : PySem.W.keepIn K (.ref f_is_integer) = true)
    (a_parts : PySem.W.nsIn K mainGlobals "_parts" = some (some (.ref f_parts)))
    (l_parts : K.lookup f_parts = some ⟨oc_parts, od_parts, .func (PySem.W.fnOf "_parts" "_parts" (defArgs s_parts) (defBody s_parts) (defScope s_parts) .none kV_parts dc_parts pm_parts an_parts cd_parts ct_parts), sl_parts⟩)
    (c_parts : PySem.W.codeIn K cd_parts "_parts" = true)
    (k_parts : PySem.W.keepIn K (.ref f_parts) = true)
    (a_lowest : PySem.W.nsIn K mainGlobals "_lowest" = some (some (.ref f_lowest)))
    (l_lowest : K.lookup f_lowest = some ⟨oc_lowest, od_lowest, .func (PySem.W.fnOf "_lowest" "_lowest" (defArgs s_lowest) (defBody s_lowest) (defScope s_lowest) .none kV_lowest dc_lowest pm_lowest an_lowest cd_lowest ct_lowest), sl_lowest⟩)
    (c_lowest : PySem.W.codeIn K cd_lowest "_lowest" = true)
    (k_lowest : PySem.W.keepIn K (.ref f_lowest) = true)
    (a_is_row : PySem.W.nsIn K mainGlobals "is_row" = some (some (.ref f_is_row)))
    (l_is_row : K.lookup f_is_row = some ⟨oc_is_row, od_is_row, .func (PySem.W.fnOf "is_row" "is_row" (defArgs sis_row) (defBody sis_row) (defScope sis_row) .none kV_is_row dc_is_row pm_is_row an_is_row cd_is_row ct_is_row), sl_is_row⟩)
    (c_is_row : PySem.W.codeIn K cd_is_row "is_row" = true)
    (k_is_row : PySem.W.keepIn K (.ref f_is_row) = true)
    (a_is_strict_ratio : PySem.W.nsIn K mainGlobals "is_strict_ratio" = some (some (.ref f_is_strict_ratio)))
    (l_is_strict_ratio : K.lookup f_is_strict_ratio = some ⟨oc_is_strict_ratio, od_is_strict_ratio, .func (PySem.W.fnOf "is_strict_ratio" "is_strict_ratio" (defArgs sis_strict_ratio) (defBody sis_strict_ratio) (defScope sis_strict_ratio) .none kV_is_strict_ratio dc_is_strict_ratio pm_is_strict_ratio an_is_strict_ratio cd_is_strict_ratio ct_is_strict_ratio), sl_is_strict_ratio⟩)
    (c_is_strict_ratio : PySem.W.codeIn K cd_is_strict_ratio "is_strict_ratio" = true)
    (k_is_strict_ratio : PySem.W.keepIn K (.ref f_is_strict_ratio) = true)
    (a_bottom_of : PySem.W.nsIn K mainGlobals "bottom_of" = some (some (.ref f_bottom_of)))
    (l_bottom_of : K.lookup f_bottom_of = some ⟨oc_bottom_of, od_bottom_of, .func (PySem.W.fnOf "bottom_of" "bottom_of" (defArgs sbottom_of) (defBody sbottom_of) (defScope sbottom_of) .none kV_bottom_of dc_bottom_of pm_bottom_of an_bottom_of cd_bottom_of ct_bottom_of), sl_bottom_of⟩)
    (c_bottom_of : PySem.W.codeIn K cd_bottom_of "bottom_of" = true)
    (k_bottom_of : PySem.W.keepIn K (.ref f_bottom_of) = true)
    (a_whole_row : PySem.W.nsIn K mainGlobals "whole_row" = some (some (.ref f_whole_row)))
    (l_whole_row : K.lookup f_whole_row = some ⟨oc_whole_row, od_whole_row, .func (PySem.W.fnOf "whole_row" "whole_row" (defArgs swhole_row) (defBody swhole_row) (defScope swhole_row) .none kV_whole_row dc_whole_row pm_whole_row an_whole_row cd_whole_row ct_whole_row), sl_whole_row⟩)
    (c_whole_row : PySem.W.codeIn K cd_whole_row "whole_row" = true)
    (k_whole_row : PySem.W.keepIn K (.ref f_whole_row) = true)
    (a_top_power : PySem.W.nsIn K mainGlobals "top_power" = some (some (.ref f_top_power)))
    (l_top_power : K.lookup f_top_power = some ⟨oc_top_power, od_top_power, .func (PySem.W.fnOf "top_power" "top_power" (defArgs stop_power) (defBody stop_power) (defScope stop_power) .none kV_top_power dc_top_power pm_top_power an_top_power cd_top_power ct_top_power), sl_top_power⟩)
    (c_top_power : PySem.W.codeIn K cd_top_power "top_power" = true)
    (k_top_power : PySem.W.keepIn K (.ref f_top_power) = true)
    (a_row_product : PySem.W.nsIn K mainGlobals "row_product" = some (some (.ref f_row_product)))
    (l_row_product : K.lookup f_row_product = some ⟨oc_row_product, od_row_product, .func (PySem.W.fnOf "row_product" "row_product" (defArgs srow_product) (defBody srow_product) (defScope srow_product) .none kV_row_product dc_row_product pm_row_product an_row_product cd_row_product ct_row_product), sl_row_product⟩)
    (c_row_product : PySem.W.codeIn K cd_row_product "row_product" = true)
    (k_row_product : PySem.W.keepIn K (.ref f_row_product) = true)
    (a_beside : PySem.W.nsIn K mainGlobals "_beside" = some (some (.ref f_beside)))
    (l_beside : K.lookup f_beside = some ⟨oc_beside, od_beside, .func (PySem.W.fnOf "_beside" "_beside" (defArgs s_beside) (defBody s_beside) (defScope s_beside) .none kV_beside dc_beside pm_beside an_beside cd_beside ct_beside), sl_beside⟩)
    (c_beside : PySem.W.codeIn K cd_beside "_beside" = true)
    (k_beside : PySem.W.keepIn K (.ref f_beside) = true)
    (a_number : PySem.W.nsIn K mainGlobals "_number" = some (some (.ref f_number)))
    (l_number : K.lookup f_number = some ⟨oc_number, od_number, .func (PySem.W.fnOf "_number" "_number" (defArgs s_number) (defBody s_number) (defScope s_number) .none kV_number dc_number pm_number an_number cd_number ct_number), sl_number⟩)
    (c_number : PySem.W.codeIn K cd_number "_number" = true)
    (k_number : PySem.W.keepIn K (.ref f_number) = true)
    (a_sum : PySem.W.nsIn K mainGlobals "_sum" = some (some (.ref f_sum)))
    (l_sum : K.lookup f_sum = some ⟨oc_sum, od_sum, .func (PySem.W.fnOf "_sum" "_sum" (defArgs s_sum) (defBody s_sum) (defScope s_sum) .none kV_sum dc_sum pm_sum an_sum cd_sum ct_sum), sl_sum⟩)
    (c_sum : PySem.W.codeIn K cd_sum "_sum" = true)
    (k_sum : PySem.W.keepIn K (.ref f_sum) = true)
    (a_product : PySem.W.nsIn K mainGlobals "_product" = some (some (.ref f_product)))
    (l_product : K.lookup f_product = some ⟨oc_product, od_product, .func (PySem.W.fnOf "_product" "_product" (defArgs s_product) (defBody s_product) (defScope s_product) .none kV_product dc_product pm_product an_product cd_product ct_product), sl_product⟩)
    (c_product : PySem.W.codeIn K cd_product "_product" = true)
    (k_product : PySem.W.keepIn K (.ref f_product) = true)
    (a_law_pen : PySem.W.nsIn K mainGlobals "_law_pen" = some (some (.ref f_law_pen)))
    (l_law_pen : K.lookup f_law_pen = some ⟨oc_law_pen, od_law_pen, .func (PySem.W.fnOf "_law_pen" "_law_pen" (defArgs s_law_pen) (defBody s_law_pen) (defScope s_law_pen) .none kV_law_pen dc_law_pen pm_law_pen an_law_pen cd_law_pen ct_law_pen), sl_law_pen⟩)
    (c_law_pen : PySem.W.codeIn K cd_law_pen "_law_pen" = true)
    (k_law_pen : PySem.W.keepIn K (.ref f_law_pen) = true)
    (a_law_draw : PySem.W.nsIn K mainGlobals "_law_draw" = some (some (.ref f_law_draw)))
    (l_law_draw : K.lookup f_law_draw = some ⟨oc_law_draw, od_law_draw, .func (PySem.W.fnOf "_law_draw" "_law_draw" (defArgs s_law_draw) (defBody s_law_draw) (defScope s_law_draw) .none kV_law_draw dc_law_draw pm_law_draw an_law_draw cd_law_draw ct_law_draw), sl_law_draw⟩)
    (c_law_draw : PySem.W.codeIn K cd_law_draw "_law_draw" = true)
    (k_law_draw : PySem.W.keepIn K (.ref f_law_draw) = true)
    (a_law_pick : PySem.W.nsIn K mainGlobals "_law_pick" = some (some (.ref f_law_pick)))
    (l_law_pick : K.lookup f_law_pick = some ⟨oc_law_pick, od_law_pick, .func (PySem.W.fnOf "_law_pick" "_law_pick" (defArgs s_law_pick) (defBody s_law_pick) (defScope s_law_pick) .none kV_law_pick dc_law_pick pm_law_pick an_law_pick cd_law_pick ct_law_pick), sl_law_pick⟩)
    (c_law_pick : PySem.W.codeIn K cd_law_pick "_law_pick" = true)
    (k_law_pick : PySem.W.keepIn K (.ref f_law_pick) = true)
    (a_law_gcd : PySem.W.nsIn K mainGlobals "_law_gcd" = some (some (.ref f_law_gcd)))
    (l_law_gcd : K.lookup f_law_gcd = some ⟨oc_law_gcd, od_law_gcd, .func (PySem.W.fnOf "_law_gcd" "_law_gcd" (defArgs s_law_gcd) (defBody s_law_gcd) (defScope s_law_gcd) .none kV_law_gcd dc_law_gcd pm_law_gcd an_law_gcd cd_law_gcd ct_law_gcd), sl_law_gcd⟩)
    (c_law_gcd : PySem.W.codeIn K cd_law_gcd "_law_gcd" = true)
    (k_law_gcd : PySem.W.keepIn K (.ref f_law_gcd) = true)
    (a_law_q : PySem.W.nsIn K mainGlobals "_law_q" = some (some (.ref f_law_q)))
    (l_law_q : K.lookup f_law_q = some ⟨oc_law_q, od_law_q, .func (PySem.W.fnOf "_law_q" "_law_q" (defArgs s_law_q) (defBody s_law_q) (defScope s_law_q) .none kV_law_q dc_law_q pm_law_q an_law_q cd_law_q ct_law_q), sl_law_q⟩)
    (c_law_q : PySem.W.codeIn K cd_law_q "_law_q" = true)
    (k_law_q : PySem.W.keepIn K (.ref f_law_q) = true)
    (a_law_plus : PySem.W.nsIn K mainGlobals "_law_plus" = some (some (.ref f_law_plus)))
    (l_law_plus : K.lookup f_law_plus = some ⟨oc_law_plus, od_law_plus, .func (PySem.W.fnOf "_law_plus" "_law_plus" (defArgs s_law_plus) (defBody s_law_plus) (defScope s_law_plus) .none kV_law_plus dc_law_plus pm_law_plus an_law_plus cd_law_plus ct_law_plus), sl_law_plus⟩)
    (c_law_plus : PySem.W.codeIn K cd_law_plus "_law_plus" = true)
    (k_law_plus : PySem.W.keepIn K (.ref f_law_plus) = true)
    (a_law_times : PySem.W.nsIn K mainGlobals "_law_times" = some (some (.ref f_law_times)))
    (l_law_times : K.lookup f_law_times = some ⟨oc_law_times, od_law_times, .func (PySem.W.fnOf "_law_times" "_law_times" (defArgs s_law_times) (defBody s_law_times) (defScope s_law_times) .none kV_law_times dc_law_times pm_law_times an_law_times cd_law_times ct_law_times), sl_law_times⟩)
    (c_law_times : PySem.W.codeIn K cd_law_times "_law_times" = true)
    (k_law_times : PySem.W.keepIn K (.ref f_law_times) = true)
    (a_law_passed : PySem.W.nsIn K mainGlobals "_law_passed" = some (some (.ref f_law_passed)))
    (l_law_passed : K.lookup f_law_passed = some ⟨oc_law_passed, od_law_passed, .func (PySem.W.fnOf "_law_passed" "_law_passed" (defArgs s_law_passed) (defBody s_law_passed) (defScope s_law_passed) .none kV_law_passed dc_law_passed pm_law_passed an_law_passed cd_law_passed ct_law_passed), sl_law_passed⟩)
    (c_law_passed : PySem.W.codeIn K cd_law_passed "_law_passed" = true)
    (k_law_passed : PySem.W.keepIn K (.ref f_law_passed) = true)
    (a_law_ratio : PySem.W.nsIn K mainGlobals "_law_ratio" = some (some (.ref f_law_ratio)))
    (l_law_ratio : K.lookup f_law_ratio = some ⟨oc_law_ratio, od_law_ratio, .func (PySem.W.fnOf "_law_ratio" "_law_ratio" (defArgs s_law_ratio) (defBody s_law_ratio) (defScope s_law_ratio) .none kV_law_ratio dc_law_ratio pm_law_ratio an_law_ratio cd_law_ratio ct_law_ratio), sl_law_ratio⟩)
    (c_law_ratio : PySem.W.codeIn K cd_law_ratio "_law_ratio" = true)
    (k_law_ratio : PySem.W.keepIn K (.ref f_law_ratio) = true)
    (a_law_poly : PySem.W.nsIn K mainGlobals "_law_poly" = some (some (.ref f_law_poly)))
    (l_law_poly : K.lookup f_law_poly = some ⟨oc_law_poly, od_law_poly, .func (PySem.W.fnOf "_law_poly" "_law_poly" (defArgs s_law_poly) (defBody s_law_poly) (defScope s_law_poly) .none kV_law_poly dc_law_poly pm_law_poly an_law_poly cd_law_poly ct_law_poly), sl_law_poly⟩)
    (c_law_poly : PySem.W.codeIn K cd_law_poly "_law_poly" = true)
    (k_law_poly : PySem.W.keepIn K (.ref f_law_poly) = true)
    (a_law_p_plus : PySem.W.nsIn K mainGlobals "_law_p_plus" = some (some (.ref f_law_p_plus)))
    (l_law_p_plus : K.lookup f_law_p_plus = some ⟨oc_law_p_plus, od_law_p_plus, .func (PySem.W.fnOf "_law_p_plus" "_law_p_plus" (defArgs s_law_p_plus) (defBody s_law_p_plus) (defScope s_law_p_plus) .none kV_law_p_plus dc_law_p_plus pm_law_p_plus an_law_p_plus cd_law_p_plus ct_law_p_plus), sl_law_p_plus⟩)
    (c_law_p_plus : PySem.W.codeIn K cd_law_p_plus "_law_p_plus" = true)
    (k_law_p_plus : PySem.W.keepIn K (.ref f_law_p_plus) = true)
    (a_law_p_scaled : PySem.W.nsIn K mainGlobals "_law_p_scaled" = some (some (.ref f_law_p_scaled)))
    (l_law_p_scaled : K.lookup f_law_p_scaled = some ⟨oc_law_p_scaled, od_law_p_scaled, .func (PySem.W.fnOf "_law_p_scaled" "_law_p_scaled" (defArgs s_law_p_scaled) (defBody s_law_p_scaled) (defScope s_law_p_scaled) .none kV_law_p_scaled dc_law_p_scaled pm_law_p_scaled an_law_p_scaled cd_law_p_scaled ct_law_p_scaled), sl_law_p_scaled⟩)
    (c_law_p_scaled : PySem.W.codeIn K cd_law_p_scaled "_law_p_scaled" = true)
    (k_law_p_scaled : PySem.W.keepIn K (.ref f_law_p_scaled) = true)
    (a_law_p_minus : PySem.W.nsIn K mainGlobals "_law_p_minus" = some (some (.ref f_law_p_minus)))
    (l_law_p_minus : K.lookup f_law_p_minus = some ⟨oc_law_p_minus, od_law_p_minus, .func (PySem.W.fnOf "_law_p_minus" "_law_p_minus" (defArgs s_law_p_minus) (defBody s_law_p_minus) (defScope s_law_p_minus) .none kV_law_p_minus dc_law_p_minus pm_law_p_minus an_law_p_minus cd_law_p_minus ct_law_p_minus), sl_law_p_minus⟩)
    (c_law_p_minus : PySem.W.codeIn K cd_law_p_minus "_law_p_minus" = true)
    (k_law_p_minus : PySem.W.keepIn K (.ref f_law_p_minus) = true)
    (a_law_p_times : PySem.W.nsIn K mainGlobals "_law_p_times" = some (some (.ref f_law_p_times)))
    (l_law_p_times : K.lookup f_law_p_times = some ⟨oc_law_p_times, od_law_p_times, .func (PySem.W.fnOf "_law_p_times" "_law_p_times" (defArgs s_law_p_times) (defBody s_law_p_times) (defScope s_law_p_times) .none kV_law_p_times dc_law_p_times pm_law_p_times an_law_p_times cd_law_p_times ct_law_p_times), sl_law_p_times⟩)
    (c_law_p_times : PySem.W.codeIn K cd_law_p_times "_law_p_times" = true)
    (k_law_p_times : PySem.W.keepIn K (.ref f_law_p_times) = true)
    (a_law_p_at : PySem.W.nsIn K mainGlobals "_law_p_at" = some (some (.ref f_law_p_at)))
    (l_law_p_at : K.lookup f_law_p_at = some ⟨oc_law_p_at, od_law_p_at, .func (PySem.W.fnOf "_law_p_at" "_law_p_at" (defArgs s_law_p_at) (defBody s_law_p_at) (defScope s_law_p_at) .none kV_law_p_at dc_law_p_at pm_law_p_at an_law_p_at cd_law_p_at ct_law_p_at), sl_law_p_at⟩)
    (c_law_p_at : PySem.W.codeIn K cd_law_p_at "_law_p_at" = true)
    (k_law_p_at : PySem.W.keepIn K (.ref f_law_p_at) = true)
    (a_law_p_slope : PySem.W.nsIn K mainGlobals "_law_p_slope" = some (some (.ref f_law_p_slope)))
    (l_law_p_slope : K.lookup f_law_p_slope = some ⟨oc_law_p_slope, od_law_p_slope, .func (PySem.W.fnOf "_law_p_slope" "_law_p_slope" (defArgs s_law_p_slope) (defBody s_law_p_slope) (defScope s_law_p_slope) .none kV_law_p_slope dc_law_p_slope pm_law_p_slope an_law_p_slope cd_law_p_slope ct_law_p_slope), sl_law_p_slope⟩)
    (c_law_p_slope : PySem.W.codeIn K cd_law_p_slope "_law_p_slope" = true)
    (k_law_p_slope : PySem.W.keepIn K (.ref f_law_p_slope) = true)
    (a_law_made_poly : PySem.W.nsIn K mainGlobals "_law_made_poly" = some (some (.ref f_law_made_poly)))
    (l_law_made_poly : K.lookup f_law_made_poly = some ⟨oc_law_made_poly, od_law_made_poly, .func (PySem.W.fnOf "_law_made_poly" "_law_made_poly" (defArgs s_law_made_poly) (defBody s_law_made_poly) (defScope s_law_made_poly) .none kV_law_made_poly dc_law_made_poly pm_law_made_poly an_law_made_poly cd_law_made_poly ct_law_made_poly), sl_law_made_poly⟩)
    (c_law_made_poly : PySem.W.codeIn K cd_law_made_poly "_law_made_poly" = true)
    (k_law_made_poly : PySem.W.keepIn K (.ref f_law_made_poly) = true)
    (a_law_drawn : PySem.W.nsIn K mainGlobals "_law_drawn" = some (some (.ref f_law_drawn)))
    (l_law_drawn : K.lookup f_law_drawn = some ⟨oc_law_drawn, od_law_drawn, .func (PySem.W.fnOf "_law_drawn" "_law_drawn" (defArgs s_law_drawn) (defBody s_law_drawn) (defScope s_law_drawn) .none kV_law_drawn dc_law_drawn pm_law_drawn an_law_drawn cd_law_drawn ct_law_drawn), sl_law_drawn⟩)
    (c_law_drawn : PySem.W.codeIn K cd_law_drawn "_law_drawn" = true)
    (k_law_drawn : PySem.W.keepIn K (.ref f_law_drawn) = true)
    (a_law_why : PySem.W.nsIn K mainGlobals "_law_why" = some (some (.ref f_law_why)))
    (l_law_why : K.lookup f_law_why = some ⟨oc_law_why, od_law_why, .func (PySem.W.fnOf "_law_why" "_law_why" (defArgs s_law_why) (defBody s_law_why) (defScope s_law_why) .none kV_law_why dc_law_why pm_law_why an_law_why cd_law_why ct_law_why), sl_law_why⟩)
    (c_law_why : PySem.W.codeIn K cd_law_why "_law_why" = true)
    (k_law_why : PySem.W.keepIn K (.ref f_law_why) = true)
    (a_law_any : PySem.W.nsIn K mainGlobals "_law_any" = some (some (.ref f_law_any)))
    (l_law_any : K.lookup f_law_any = some ⟨oc_law_any, od_law_any, .func (PySem.W.fnOf "_law_any" "_law_any" (defArgs s_law_any) (defBody s_law_any) (defScope s_law_any) .none kV_law_any dc_law_any pm_law_any an_law_any cd_law_any ct_law_any), sl_law_any⟩)
    (c_law_any : PySem.W.codeIn K cd_law_any "_law_any" = true)
    (k_law_any : PySem.W.keepIn K (.ref f_law_any) = true)
    (a_law_far : PySem.W.nsIn K mainGlobals "_law_far" = some (some (.ref f_law_far)))
    (l_law_far : K.lookup f_law_far = some ⟨oc_law_far, od_law_far, .func (PySem.W.fnOf "_law_far" "_law_far" (defArgs s_law_far) (defBody s_law_far) (defScope s_law_far) .none kV_law_far dc_law_far pm_law_far an_law_far cd_law_far ct_law_far), sl_law_far⟩)
    (c_law_far : PySem.W.codeIn K cd_law_far "_law_far" = true)
    (k_law_far : PySem.W.keepIn K (.ref f_law_far) = true)
    (a_law_some_ratio : PySem.W.nsIn K mainGlobals "_law_some_ratio" = some (some (.ref f_law_some_ratio)))
    (l_law_some_ratio : K.lookup f_law_some_ratio = some ⟨oc_law_some_ratio, od_law_some_ratio, .func (PySem.W.fnOf "_law_some_ratio" "_law_some_ratio" (defArgs s_law_some_ratio) (defBody s_law_some_ratio) (defScope s_law_some_ratio) .none kV_law_some_ratio dc_law_some_ratio pm_law_some_ratio an_law_some_ratio cd_law_some_ratio ct_law_some_ratio), sl_law_some_ratio⟩)
    (c_law_some_ratio : PySem.W.codeIn K cd_law_some_ratio "_law_some_ratio" = true)
    (k_law_some_ratio : PySem.W.keepIn K (.ref f_law_some_ratio) = true)
    (a_law_made_right : PySem.W.nsIn K mainGlobals "_law_made_right" = some (some (.ref f_law_made_right)))
    (l_law_made_right : K.lookup f_law_made_right = some ⟨oc_law_made_right, od_law_made_right, .func (PySem.W.fnOf "_law_made_right" "_law_made_right" (defArgs s_law_made_right) (defBody s_law_made_right) (defScope s_law_made_right) .none kV_law_made_right dc_law_made_right pm_law_made_right an_law_made_right (.ref cC_law_made_right) ct_law_made_right), sl_law_made_right⟩)
    (c_law_made_right : PySem.W.codeIn K (.ref cC_law_made_right) "_law_made_right" = true)
    (k_law_made_right : PySem.W.keepIn K (.ref f_law_made_right) = true)
    (a_law : PySem.W.nsIn K mainGlobals "law" = some (some (.ref f_law)))
    (l_law : K.lookup f_law = some ⟨oc_law, od_law, .func (PySem.W.fnOf "law" "law" (defArgs slaw) (defBody slaw) (defScope slaw) .none kV_law dc_law pm_law an_law (.ref cC_law) ct_law), sl_law⟩)
    (c_law : PySem.W.codeIn K (.ref cC_law) "law" = true)
    (k_law : PySem.W.keepIn K (.ref f_law) = true)
    (hn_ : PySem.W.specialIn K (.builtin "object.__class__") "__get__" = some (some (.builtin "getset_descriptor.__get__")))
    (ht_ : PySem.W.takesIn K (.builtin "object.__class__") = some true)
    (a_BadText : PySem.W.nsIn K mainGlobals "BadText" = some (some (.ref C_BadText)))
    (ga_BadText : PySem.W.findIn K (.ref C_BadText) "__getattribute__" = some (some (.builtin "BaseException.__getattribute__")))
    (gg_BadText : PySem.W.findIn K (.ref C_BadText) "__getattr__" = some none)
    (sb_BadText : PySem.W.subIn K (.ref C_BadText) (.type "BaseException") = some true)
    (hd_BadText : PySem.W.hasDictIn K C_BadText = true)
    (ca_BadText : PySem.W.findIn K (.ref C_BadText) "__class__" = some (some (.builtin "object.__class__")))
    (mo_BadText : PySem.W.mroIn K C_BadText (.type "object") = some true)
    (kp_BadText : PySem.W.keepIn K (.ref C_BadText) = true)
    (xL_BadText : K.lookup C_BadText = some (excClassObj nmI_BadText qI_BadText C_BadText NI_BadText bsI_BadText bmI_BadText true snI_BadText subI_BadText abI_BadText colI_BadText ddI_BadText m0I_BadText m1I_BadText m2I_BadText m3I_BadText m5I_BadText "ValueError.__new__"))
    (rb_BadText : PySem.HandSPX.refsVE bmI_BadText = true)
    (sa_BadText : PySem.W.findIn K (.ref C_BadText) "__setattr__" = some (some (.builtin "object.__setattr__")))
    (ty_BadText : PySem.W.typeIn K (.ref C_BadText) = some (.type "type"))
    (i_BadText : PySem.W.findIn K (.ref C_BadText) "__init__" = some (some (.ref fI_BadText)))
    (t_BadText : PySem.W.typeIn K (.ref fI_BadText) = some (.type "function"))
    (lI_BadText : K.lookup fI_BadText = some ⟨ocI_BadText, odI_BadText, .func (PySem.W.fnOf "__init__" "BadText.__init__" (defArgs (inClass (top 3) 0)) (defBody (inClass (top 3) 0)) (defScope (inClass (top 3) 0)) .none kVI_BadText dcI_BadText pmI_BadText anI_BadText cdI_BadText ctI_BadText), slI_BadText⟩)
    (cI_BadText : PySem.W.codeIn K cdI_BadText "BadText.__init__" = true)
    (kI_BadText : PySem.W.keepIn K (.ref fI_BadText) = true)
    (n_BadText_column : PySem.W.findIn K (.ref C_BadText) "column" = some none)
    (a_BadNumber : PySem.W.nsIn K mainGlobals "BadNumber" = some (some (.ref C_BadNumber)))
    (ga_BadNumber : PySem.W.findIn K (.ref C_BadNumber) "__getattribute__" = some (some (.builtin "BaseException.__getattribute__")))
    (gg_BadNumber : PySem.W.findIn K (.ref C_BadNumber) "__getattr__" = some none)
    (sb_BadNumber : PySem.W.subIn K (.ref C_BadNumber) (.type "BaseException") = some true)
    (hd_BadNumber : PySem.W.hasDictIn K C_BadNumber = true)
    (ca_BadNumber : PySem.W.findIn K (.ref C_BadNumber) "__class__" = some (some (.builtin "object.__class__")))
    (mo_BadNumber : PySem.W.mroIn K C_BadNumber (.type "object") = some true)
    (kp_BadNumber : PySem.W.keepIn K (.ref C_BadNumber) = true)
    (xL_BadNumber : K.lookup C_BadNumber = some (excClassObj nmI_BadNumber qI_BadNumber C_BadNumber NI_BadNumber bsI_BadNumber bmI_BadNumber true snI_BadNumber subI_BadNumber abI_BadNumber colI_BadNumber ddI_BadNumber m0I_BadNumber m1I_BadNumber m2I_BadNumber m3I_BadNumber m5I_BadNumber "ValueError.__new__"))
    (rb_BadNumber : PySem.HandSPX.refsVE bmI_BadNumber = true)
    (sa_BadNumber : PySem.W.findIn K (.ref C_BadNumber) "__setattr__" = some (some (.builtin "object.__setattr__")))
    (ty_BadNumber : PySem.W.typeIn K (.ref C_BadNumber) = some (.type "type"))
    (i_BadNumber : PySem.W.findIn K (.ref C_BadNumber) "__init__" = some (some (.ref fI_BadNumber)))
    (t_BadNumber : PySem.W.typeIn K (.ref fI_BadNumber) = some (.type "function"))
    (lI_BadNumber : K.lookup fI_BadNumber = some ⟨ocI_BadNumber, odI_BadNumber, .func (PySem.W.fnOf "__init__" "BadNumber.__init__" (defArgs (inClass (top 4) 0)) (defBody (inClass (top 4) 0)) (defScope (inClass (top 4) 0)) .none kVI_BadNumber dcI_BadNumber pmI_BadNumber anI_BadNumber cdI_BadNumber ctI_BadNumber), slI_BadNumber⟩)
    (cI_BadNumber : PySem.W.codeIn K cdI_BadNumber "BadNumber.__init__" = true)
    (kI_BadNumber : PySem.W.keepIn K (.ref fI_BadNumber) = true)
    (n_BadNumber_what : PySem.W.findIn K (.ref C_BadNumber) "what" = some none)
    (n_BadNumber_number : PySem.W.findIn K (.ref C_BadNumber) "number" = some none)
    (a_BadRow : PySem.W.nsIn K mainGlobals "BadRow" = some (some (.ref C_BadRow)))
    (ga_BadRow : PySem.W.findIn K (.ref C_BadRow) "__getattribute__" = some (some (.builtin "BaseException.__getattribute__")))
    (gg_BadRow : PySem.W.findIn K (.ref C_BadRow) "__getattr__" = some none)
    (sb_BadRow : PySem.W.subIn K (.ref C_BadRow) (.type "BaseException") = some true)
    (hd_BadRow : PySem.W.hasDictIn K C_BadRow = true)
    (ca_BadRow : PySem.W.findIn K (.ref C_BadRow) "__class__" = some (some (.builtin "object.__class__")))
    (mo_BadRow : PySem.W.mroIn K C_BadRow (.type "object") = some true)
    (kp_BadRow : PySem.W.keepIn K (.ref C_BadRow) = true)
    (xL_BadRow : K.lookup C_BadRow = some (excClassObj nmI_BadRow qI_BadRow C_BadRow NI_BadRow bsI_BadRow bmI_BadRow true snI_BadRow subI_BadRow abI_BadRow colI_BadRow ddI_BadRow m0I_BadRow m1I_BadRow m2I_BadRow m3I_BadRow m5I_BadRow "ValueError.__new__"))
    (rb_BadRow : PySem.HandSPX.refsVE bmI_BadRow = true)
    (sa_BadRow : PySem.W.findIn K (.ref C_BadRow) "__setattr__" = some (some (.builtin "object.__setattr__")))
    (ty_BadRow : PySem.W.typeIn K (.ref C_BadRow) = some (.type "type"))
    (i_BadRow : PySem.W.findIn K (.ref C_BadRow) "__init__" = some (some (.ref fI_BadRow)))
    (t_BadRow : PySem.W.typeIn K (.ref fI_BadRow) = some (.type "function"))
    (lI_BadRow : K.lookup fI_BadRow = some ⟨ocI_BadRow, odI_BadRow, .func (PySem.W.fnOf "__init__" "BadRow.__init__" (defArgs (inClass (top 5) 0)) (defBody (inClass (top 5) 0)) (defScope (inClass (top 5) 0)) .none kVI_BadRow dcI_BadRow pmI_BadRow anI_BadRow cdI_BadRow ctI_BadRow), slI_BadRow⟩)
    (cI_BadRow : PySem.W.codeIn K cdI_BadRow "BadRow.__init__" = true)
    (kI_BadRow : PySem.W.keepIn K (.ref fI_BadRow) = true)
    (n_BadRow_row : PySem.W.findIn K (.ref C_BadRow) "row" = some none)
    (e_xBadNumberBadText : PySem.W.exmOne K (.ref C_BadNumber) (.ref C_BadText) = some false)
    (e_xBadNumberBadNumber : PySem.W.exmOne K (.ref C_BadNumber) (.ref C_BadNumber) = some true)
    (e_xBadRowBadText : PySem.W.exmOne K (.ref C_BadRow) (.ref C_BadText) = some false)
    (e_xBadRowBadNumber : PySem.W.exmOne K (.ref C_BadRow) (.ref C_BadNumber) = some false)
    (e_xBadRowBadRow : PySem.W.exmOne K (.ref C_BadRow) (.ref C_BadRow) = some true)
    (a_Poly : PySem.W.nsIn K mainGlobals "Poly" = some (some (.ref C_Poly)))
    (p_pg : PySem.W.plainGet K C_Poly Str.empty = true)
    (p_hd : PySem.W.hasDictIn K C_Poly = true)
    (p_po : PySem.W.plainOver K C_Poly = true)
    (p_sa : PySem.W.findIn K (.ref C_Poly) "__setattr__" = some (some (.builtin "object.__setattr__")))
    (p_mk : PySem.W.makesIn K C_Poly = true)
    (p_kp : PySem.W.keepIn K (.ref C_Poly) = true)
    (p_no : PySem.W.findIn K (.ref C_Poly) "numbers" = some none)
    (p_me : PySem.W.selfFirst K C_Poly = true)
    (iPm_init : PySem.W.findIn K (.ref C_Poly) "__init__" = some (some (.ref fPm_init)))
    (nPm_init : PySem.W.isFn K (.ref fPm_init) = true)
    (lPm_init : K.lookup fPm_init = some ⟨ocPm_init, odPm_init, .func (PySem.W.fnOf "__init__" "Poly.__init__" (defArgs (inClass (top 23) 0)) (defBody (inClass (top 23) 0)) (defScope (inClass (top 23) 0)) .none kVPm_init dcPm_init pmPm_init anPm_init cdPm_init ctPm_init), slPm_init⟩)
    (cPm_init : PySem.W.codeIn K cdPm_init "Poly.__init__" = true)
    (kPm_init : PySem.W.keepIn K (.ref fPm_init) = true)
    (iPm_eq : PySem.W.findIn K (.ref C_Poly) "__eq__" = some (some (.ref fPm_eq)))
    (nPm_eq : PySem.W.isFn K (.ref fPm_eq) = true)
    (lPm_eq : K.lookup fPm_eq = some ⟨ocPm_eq, odPm_eq, .func (PySem.W.fnOf "__eq__" "Poly.__eq__" (defArgs (inClass (top 23) 1)) (defBody (inClass (top 23) 1)) (defScope (inClass (top 23) 1)) .none kVPm_eq dcPm_eq pmPm_eq anPm_eq cdPm_eq ctPm_eq), slPm_eq⟩)
    (cPm_eq : PySem.W.codeIn K cdPm_eq "Poly.__eq__" = true)
    (kPm_eq : PySem.W.keepIn K (.ref fPm_eq) = true)
    (iPm_add : PySem.W.findIn K (.ref C_Poly) "__add__" = some (some (.ref fPm_add)))
    (nPm_add : PySem.W.isFn K (.ref fPm_add) = true)
    (lPm_add : K.lookup fPm_add = some ⟨ocPm_add, odPm_add, .func (PySem.W.fnOf "__add__" "Poly.__add__" (defArgs (inClass (top 23) 2)) (defBody (inClass (top 23) 2)) (defScope (inClass (top 23) 2)) .none kVPm_add dcPm_add pmPm_add anPm_add cdPm_add ctPm_add), slPm_add⟩)
    (cPm_add : PySem.W.codeIn K cdPm_add "Poly.__add__" = true)
    (kPm_add : PySem.W.keepIn K (.ref fPm_add) = true)
    (iPm_radd : PySem.W.findIn K (.ref C_Poly) "__radd__" = some (some (.ref fPm_radd)))
    (nPm_radd : PySem.W.isFn K (.ref fPm_radd) = true)
    (lPm_radd : K.lookup fPm_radd = some ⟨ocPm_radd, odPm_radd, .func (PySem.W.fnOf "__radd__" "Poly.__radd__" (defArgs (inClass (top 23) 3)) (defBody (inClass (top 23) 3)) (defScope (inClass (top 23) 3)) .none kVPm_radd dcPm_radd pmPm_radd anPm_radd cdPm_radd ctPm_radd), slPm_radd⟩)
    (cPm_radd : PySem.W.codeIn K cdPm_radd "Poly.__radd__" = true)
    (kPm_radd : PySem.W.keepIn K (.ref fPm_radd) = true)
    (iPm_sub : PySem.W.findIn K (.ref C_Poly) "__sub__" = some (some (.ref fPm_sub)))
    (nPm_sub : PySem.W.isFn K (.ref fPm_sub) = true)
    (lPm_sub : K.lookup fPm_sub = some ⟨ocPm_sub, odPm_sub, .func (PySem.W.fnOf "__sub__" "Poly.__sub__" (defArgs (inClass (top 23) 4)) (defBody (inClass (top 23) 4)) (defScope (inClass (top 23) 4)) .none kVPm_sub dcPm_sub pmPm_sub anPm_sub cdPm_sub ctPm_sub), slPm_sub⟩)
    (cPm_sub : PySem.W.codeIn K cdPm_sub "Poly.__sub__" = true)
    (kPm_sub : PySem.W.keepIn K (.ref fPm_sub) = true)
    (iPm_rsub : PySem.W.findIn K (.ref C_Poly) "__rsub__" = some (some (.ref fPm_rsub)))
    (nPm_rsub : PySem.W.isFn K (.ref fPm_rsub) = true)
    (lPm_rsub : K.lookup fPm_rsub = some ⟨ocPm_rsub, odPm_rsub, .func (PySem.W.fnOf "__rsub__" "Poly.__rsub__" (defArgs (inClass (top 23) 5)) (defBody (inClass (top 23) 5)) (defScope (inClass (top 23) 5)) .none kVPm_rsub dcPm_rsub pmPm_rsub anPm_rsub cdPm_rsub ctPm_rsub), slPm_rsub⟩)
    (cPm_rsub : PySem.W.codeIn K cdPm_rsub "Poly.__rsub__" = true)
    (kPm_rsub : PySem.W.keepIn K (.ref fPm_rsub) = true)
    (iPm_mul : PySem.W.findIn K (.ref C_Poly) "__mul__" = some (some (.ref fPm_mul)))
    (nPm_mul : PySem.W.isFn K (.ref fPm_mul) = true)
    (lPm_mul : K.lookup fPm_mul = some ⟨ocPm_mul, odPm_mul, .func (PySem.W.fnOf "__mul__" "Poly.__mul__" (defArgs (inClass (top 23) 6)) (defBody (inClass (top 23) 6)) (defScope (inClass (top 23) 6)) .none kVPm_mul dcPm_mul pmPm_mul anPm_mul cdPm_mul ctPm_mul), slPm_mul⟩)
    (cPm_mul : PySem.W.codeIn K cdPm_mul "Poly.__mul__" = true)
    (kPm_mul : PySem.W.keepIn K (.ref fPm_mul) = true)
    (iPm_rmul : PySem.W.findIn K (.ref C_Poly) "__rmul__" = some (some (.ref fPm_rmul)))
    (nPm_rmul : PySem.W.isFn K (.ref fPm_rmul) = true)
    (lPm_rmul : K.lookup fPm_rmul = some ⟨ocPm_rmul, odPm_rmul, .func (PySem.W.fnOf "__rmul__" "Poly.__rmul__" (defArgs (inClass (top 23) 7)) (defBody (inClass (top 23) 7)) (defScope (inClass (top 23) 7)) .none kVPm_rmul dcPm_rmul pmPm_rmul anPm_rmul cdPm_rmul ctPm_rmul), slPm_rmul⟩)
    (cPm_rmul : PySem.W.codeIn K cdPm_rmul "Poly.__rmul__" = true)
    (kPm_rmul : PySem.W.keepIn K (.ref fPm_rmul) = true)
    (iPm_neg : PySem.W.findIn K (.ref C_Poly) "__neg__" = some (some (.ref fPm_neg)))
    (nPm_neg : PySem.W.isFn K (.ref fPm_neg) = true)
    (lPm_neg : K.lookup fPm_neg = some ⟨ocPm_neg, odPm_neg, .func (PySem.W.fnOf "__neg__" "Poly.__neg__" (defArgs (inClass (top 23) 8)) (defBody (inClass (top 23) 8)) (defScope (inClass (top 23) 8)) .none kVPm_neg dcPm_neg pmPm_neg anPm_neg cdPm_neg ctPm_neg), slPm_neg⟩)
    (cPm_neg : PySem.W.codeIn K cdPm_neg "Poly.__neg__" = true)
    (kPm_neg : PySem.W.keepIn K (.ref fPm_neg) = true)
    (iPm_degree : PySem.W.findIn K (.ref C_Poly) "degree" = some (some (.ref fPm_degree)))
    (nPm_degree : PySem.W.isFn K (.ref fPm_degree) = true)
    (lPm_degree : K.lookup fPm_degree = some ⟨ocPm_degree, odPm_degree, .func (PySem.W.fnOf "degree" "Poly.degree" (defArgs (inClass (top 23) 9)) (defBody (inClass (top 23) 9)) (defScope (inClass (top 23) 9)) .none kVPm_degree dcPm_degree pmPm_degree anPm_degree cdPm_degree ctPm_degree), slPm_degree⟩)
    (cPm_degree : PySem.W.codeIn K cdPm_degree "Poly.degree" = true)
    (kPm_degree : PySem.W.keepIn K (.ref fPm_degree) = true)
    (iPm_at : PySem.W.findIn K (.ref C_Poly) "at" = some (some (.ref fPm_at)))
    (nPm_at : PySem.W.isFn K (.ref fPm_at) = true)
    (lPm_at : K.lookup fPm_at = some ⟨ocPm_at, odPm_at, .func (PySem.W.fnOf "at" "Poly.at" (defArgs (inClass (top 23) 10)) (defBody (inClass (top 23) 10)) (defScope (inClass (top 23) 10)) .none kVPm_at dcPm_at pmPm_at anPm_at cdPm_at ctPm_at), slPm_at⟩)
    (cPm_at : PySem.W.codeIn K cdPm_at "Poly.at" = true)
    (kPm_at : PySem.W.keepIn K (.ref fPm_at) = true)
    (iPm_slope : PySem.W.findIn K (.ref C_Poly) "slope" = some (some (.ref fPm_slope)))
    (nPm_slope : PySem.W.isFn K (.ref fPm_slope) = true)
    (lPm_slope : K.lookup fPm_slope = some ⟨ocPm_slope, odPm_slope, .func (PySem.W.fnOf "slope" "Poly.slope" (defArgs (inClass (top 23) 11)) (defBody (inClass (top 23) 11)) (defScope (inClass (top 23) 11)) .none kVPm_slope dcPm_slope pmPm_slope anPm_slope cdPm_slope ctPm_slope), slPm_slope⟩)
    (cPm_slope : PySem.W.codeIn K cdPm_slope "Poly.slope" = true)
    (kPm_slope : PySem.W.keepIn K (.ref fPm_slope) = true)
    (p_hc : PySem.W.findIn K (.ref C_Poly) "__class__" = some (some (.builtin "object.__class__")))
    (p_hm : PySem.W.mroIn K C_Poly (.type "object") = some true)
    (p_kfint : PySem.W.kitOne K (.type "int") (.ref C_Poly) = some false)
    (p_stint : PySem.W.subIn K (.type "int") (.ref C_Poly) = some false)
    (p_scint : PySem.W.subIn K (.ref C_Poly) (.type "int") = some false)
    (q_fointAdd : PySem.W.findIn K (.type "int") "__add__" = some fointAdd)
    (q_rointAdd : PySem.W.findIn K (.type "int") "__radd__" = some rointAdd)
    (q_xintAdd : ((fointAdd.isSome && !isSeqSlot fointAdd) || (rointAdd.isSome && !isSeqSlot rointAdd)) = true)
    (q_fointSub : PySem.W.findIn K (.type "int") "__sub__" = some fointSub)
    (q_rointSub : PySem.W.findIn K (.type "int") "__rsub__" = some rointSub)
    (q_xintSub : ((fointSub.isSome && !isSeqSlot fointSub) || (rointSub.isSome && !isSeqSlot rointSub)) = true)
    (q_fointMult : PySem.W.findIn K (.type "int") "__mul__" = some fointMult)
    (q_rointMult : PySem.W.findIn K (.type "int") "__rmul__" = some rointMult)
    (q_xintMult : ((fointMult.isSome && !isSeqSlot fointMult) || (rointMult.isSome && !isSeqSlot rointMult)) = true)
    (p_kftuple : PySem.W.kitOne K (.type "tuple") (.ref C_Poly) = some false)
    (p_sttuple : PySem.W.subIn K (.type "tuple") (.ref C_Poly) = some false)
    (p_sctuple : PySem.W.subIn K (.ref C_Poly) (.type "tuple") = some false)
    (q_fotupleAdd : PySem.W.findIn K (.type "tuple") "__add__" = some fotupleAdd)
    (q_rotupleAdd : PySem.W.findIn K (.type "tuple") "__radd__" = some rotupleAdd)
    (q_xtupleAdd : ((fotupleAdd.isSome && !isSeqSlot fotupleAdd) || (rotupleAdd.isSome && !isSeqSlot rotupleAdd)) = false)
    (q_fotupleSub : PySem.W.findIn K (.type "tuple") "__sub__" = some fotupleSub)
    (q_rotupleSub : PySem.W.findIn K (.type "tuple") "__rsub__" = some rotupleSub)
    (q_xtupleSub : ((fotupleSub.isSome && !isSeqSlot fotupleSub) || (rotupleSub.isSome && !isSeqSlot rotupleSub)) = false)
    (q_fotupleMult : PySem.W.findIn K (.type "tuple") "__mul__" = some fotupleMult)
    (q_rotupleMult : PySem.W.findIn K (.type "tuple") "__rmul__" = some rotupleMult)
    (q_xtupleMult : ((fotupleMult.isSome && !isSeqSlot fotupleMult) || (rotupleMult.isSome && !isSeqSlot rotupleMult)) = false)
    (fin : Txt K mg → PolyT K mg → (fDat K (fA mg "law")).code = .ref cC_law → (fDat K (fA mg "_law_made_right")).code = .ref cC_law_made_right → Z) : Z := fin {
  int := PySem.W.mg_none_of X G z_int
  bool := PySem.W.mg_none_of X G z_bool
  list := PySem.W.mg_none_of X G z_list
  tuple := PySem.W.mg_none_of X G z_tuple
  len := PySem.W.mg_none_of X G z_len
  range := PySem.W.mg_none_of X G z_range
  isinstance := PySem.W.mg_none_of X G z_isinstance
  repr := PySem.W.mg_none_of X G z_repr
  abs := PySem.W.mg_none_of X G z_abs
  all := PySem.W.mg_none_of X G z_all
  reversed := PySem.W.mg_none_of X G z_reversed
  max := PySem.W.mg_none_of X G z_max
  min := PySem.W.mg_none_of X G z_min
  sum := PySem.W.mg_none_of X G z_sum
  enumerate := PySem.W.mg_none_of X G z_enumerate
  zip := PySem.W.mg_none_of X G z_zip
  NotImplemented := PySem.W.mg_none_of X G z_NotImplemented
  gcd := PySem.W.mg_of X G g_gcd
  lcm := PySem.W.mg_of X G g_lcm
  is_ratio := Df.mk' X G a_is_ratio l_is_ratio c_is_ratio k_is_ratio fun _ _ _ _ _ _ us hl => match us, hl with | [_], _ => rfl
  told := Df.mk' X G a_told l_told c_told k_told fun _ _ _ _ _ _ us hl => match us, hl with | [_, _], _ => rfl
  plus := Df.mk' X G a_plus l_plus c_plus k_plus fun _ _ _ _ _ _ us hl => match us, hl with | [_, _], _ => rfl
  times := Df.mk' X G a_times l_times c_times k_times fun _ _ _ _ _ _ us hl => match us, hl with | [_, _], _ => rfl
  is_integer := Df.mk' X G a_is_integer l_is_integer c_is_integer k_is_integer fun _ _ _ _ _ _ us hl => match us, hl with | [_], _ => rfl
  _parts := Df.mk' X G a_parts l_parts c_parts k_parts fun _ _ _ _ _ _ us hl => match us, hl with | [_, _], _ => rfl
  _lowest := Df.mk' X G a_lowest l_lowest c_lowest k_lowest fun _ _ _ _ _ _ us hl => match us, hl with | [_, _], _ => rfl
  is_row := Df.mk' X G a_is_row l_is_row c_is_row k_is_row fun _ _ _ _ _ _ us hl => match us, hl with | [_], _ => rfl
  is_strict_ratio := Df.mk' X G a_is_strict_ratio l_is_strict_ratio c_is_strict_ratio k_is_strict_ratio fun _ _ _ _ _ _ us hl => match us, hl with | [_], _ => rfl
  bottom_of := Df.mk' X G a_bottom_of l_bottom_of c_bottom_of k_bottom_of fun _ _ _ _ _ _ us hl => match us, hl with | [_], _ => rfl
  whole_row := Df.mk' X G a_whole_row l_whole_row c_whole_row k_whole_row fun _ _ _ _ _ _ us hl => match us, hl with | [_], _ => rfl
  top_power := Df.mk' X G a_top_power l_top_power c_top_power k_top_power fun _ _ _ _ _ _ us hl => match us, hl with | [_], _ => rfl
  row_product := Df.mk' X G a_row_product l_row_product c_row_product k_row_product fun _ _ _ _ _ _ us hl => match us, hl with | [_, _], _ => rfl
  _beside := Df.mk' X G a_beside l_beside c_beside k_beside fun _ _ _ _ _ _ us hl => match us, hl with | [_], _ => rfl
  _number := Df.mk' X G a_number l_number c_number k_number fun _ _ _ _ _ _ us hl => match us, hl with | [_, _], _ => rfl
  _sum := Df.mk' X G a_sum l_sum c_sum k_sum fun _ _ _ _ _ _ us hl => match us, hl with | [_, _], _ => rfl
  _product := Df.mk' X G a_product l_product c_product k_product fun _ _ _ _ _ _ us hl => match us, hl with | [_, _], _ => rfl
  _law_pen := Df.mk' X G a_law_pen l_law_pen c_law_pen k_law_pen fun _ _ _ _ _ _ us hl => match us, hl with | [_], _ => rfl
  _law_draw := Df.mk' X G a_law_draw l_law_draw c_law_draw k_law_draw fun _ _ _ _ _ _ us hl => match us, hl with | [_, _], _ => rfl
  _law_pick := Df.mk' X G a_law_pick l_law_pick c_law_pick k_law_pick fun _ _ _ _ _ _ us hl => match us, hl with | [_, _], _ => rfl
  _law_gcd := Df.mk' X G a_law_gcd l_law_gcd c_law_gcd k_law_gcd fun _ _ _ _ _ _ us hl => match us, hl with | [_, _], _ => rfl
  _law_q := Df.mk' X G a_law_q l_law_q c_law_q k_law_q fun _ _ _ _ _ _ us hl => match us, hl with | [_, _], _ => rfl
  _law_plus := Df.mk' X G a_law_plus l_law_plus c_law_plus k_law_plus fun _ _ _ _ _ _ us hl => match us, hl with | [_, _], _ => rfl
  _law_times := Df.mk' X G a_law_times l_law_times c_law_times k_law_times fun _ _ _ _ _ _ us hl => match us, hl with | [_, _], _ => rfl
  _law_passed := Df.mk' X G a_law_passed l_law_passed c_law_passed k_law_passed fun _ _ _ _ _ _ us hl => match us, hl with | [_, _], _ => rfl
  _law_ratio := Df.mk' X G a_law_ratio l_law_ratio c_law_ratio k_law_ratio fun _ _ _ _ _ _ us hl => match us, hl with | [_, _], _ => rfl
  _law_poly := Df.mk' X G a_law_poly l_law_poly c_law_poly k_law_poly fun _ _ _ _ _ _ us hl => match us, hl with | [_], _ => rfl
  _law_p_plus := Df.mk' X G a_law_p_plus l_law_p_plus c_law_p_plus k_law_p_plus fun _ _ _ _ _ _ us hl => match us, hl with | [_, _], _ => rfl
  _law_p_scaled := Df.mk' X G a_law_p_scaled l_law_p_scaled c_law_p_scaled k_law_p_scaled fun _ _ _ _ _ _ us hl => match us, hl with | [_, _], _ => rfl
  _law_p_minus := Df.mk' X G a_law_p_minus l_law_p_minus c_law_p_minus k_law_p_minus fun _ _ _ _ _ _ us hl => match us, hl with | [_, _], _ => rfl
  _law_p_times := Df.mk' X G a_law_p_times l_law_p_times c_law_p_times k_law_p_times fun _ _ _ _ _ _ us hl => match us, hl with | [_, _], _ => rfl
  _law_p_at := Df.mk' X G a_law_p_at l_law_p_at c_law_p_at k_law_p_at fun _ _ _ _ _ _ us hl => match us, hl with | [_, _], _ => rfl
  _law_p_slope := Df.mk' X G a_law_p_slope l_law_p_slope c_law_p_slope k_law_p_slope fun _ _ _ _ _ _ us hl => match us, hl with | [_], _ => rfl
  _law_made_poly := Df.mk' X G a_law_made_poly l_law_made_poly c_law_made_poly k_law_made_poly fun _ _ _ _ _ _ us hl => match us, hl with | [_, _], _ => rfl
  _law_drawn := Df.mk' X G a_law_drawn l_law_drawn c_law_drawn k_law_drawn fun _ _ _ _ _ _ us hl => match us, hl with | [_, _, _], _ => rfl
  _law_why := Df.mk' X G a_law_why l_law_why c_law_why k_law_why fun _ _ _ _ _ _ us hl => match us, hl with | [_], _ => rfl
  _law_any := Df.mk' X G a_law_any l_law_any c_law_any k_law_any fun _ _ _ _ _ _ us hl => match us, hl with | [_], _ => rfl
  _law_far := Df.mk' X G a_law_far l_law_far c_law_far k_law_far fun _ _ _ _ _ _ us hl => match us, hl with | [_], _ => rfl
  _law_some_ratio := Df.mk' X G a_law_some_ratio l_law_some_ratio c_law_some_ratio k_law_some_ratio fun _ _ _ _ _ _ us hl => match us, hl with | [_], _ => rfl
  _law_made_right := Df.mk' X G a_law_made_right l_law_made_right c_law_made_right k_law_made_right fun _ _ _ _ _ _ us hl => match us, hl with | [_], _ => rfl
  law := Df.mk' X G a_law l_law c_law k_law fun _ _ _ _ _ _ us hl => match us, hl with | [_], _ => rfl
  BadText := ClI.mk' X G a_BadText ⟨ga_BadText, gg_BadText, sb_BadText, hd_BadText, ca_BadText, hn_, ht_, mo_BadText⟩ ⟨⟨_, _, _, _, _, _, _, _, _, _, _, _, _, _, _, xL_BadText, rb_BadText⟩, sa_BadText, sb_BadText, ty_BadText, kp_BadText⟩ i_BadText t_BadText lI_BadText cI_BadText kI_BadText (fun _ _ _ _ _ _ us hl => match us, hl with | [_, _], _ => rfl) (List.forall_mem_cons.mpr ⟨n_BadText_column, List.forall_mem_nil _⟩)
  BadNumber := ClI.mk' X G a_BadNumber ⟨ga_BadNumber, gg_BadNumber, sb_BadNumber, hd_BadNumber, ca_BadNumber, hn_, ht_, mo_BadNumber⟩ ⟨⟨_, _, _, _, _, _, _, _, _, _, _, _, _, _, _, xL_BadNumber, rb_BadNumber⟩, sa_BadNumber, sb_BadNumber, ty_BadNumber, kp_BadNumber⟩ i_BadNumber t_BadNumber lI_BadNumber cI_BadNumber kI_BadNumber (fun _ _ _ _ _ _ us hl => match us, hl with | [_, _, _], _ => rfl) (List.forall_mem_cons.mpr ⟨n_BadNumber_what, List.forall_mem_cons.mpr ⟨n_BadNumber_number, List.forall_mem_nil _⟩⟩)
  BadRow := ClI.mk' X G a_BadRow ⟨ga_BadRow, gg_BadRow, sb_BadRow, hd_BadRow, ca_BadRow, hn_, ht_, mo_BadRow⟩ ⟨⟨_, _, _, _, _, _, _, _, _, _, _, _, _, _, _, xL_BadRow, rb_BadRow⟩, sa_BadRow, sb_BadRow, ty_BadRow, kp_BadRow⟩ i_BadRow t_BadRow lI_BadRow cI_BadRow kI_BadRow (fun _ _ _ _ _ _ us hl => match us, hl with | [_, _], _ => rfl) (List.forall_mem_cons.mpr ⟨n_BadRow_row, List.forall_mem_nil _⟩)
  xBadNumberBadText := by rw [fA_of (PySem.W.mg_of X G a_BadNumber), fA_of (PySem.W.mg_of X G a_BadText)]; exact e_xBadNumberBadText
  xBadNumberBadNumber := by rw [fA_of (PySem.W.mg_of X G a_BadNumber)]; exact e_xBadNumberBadNumber
  xBadRowBadText := by rw [fA_of (PySem.W.mg_of X G a_BadRow), fA_of (PySem.W.mg_of X G a_BadText)]; exact e_xBadRowBadText
  xBadRowBadNumber := by rw [fA_of (PySem.W.mg_of X G a_BadRow), fA_of (PySem.W.mg_of X G a_BadNumber)]; exact e_xBadRowBadNumber
  xBadRowBadRow := by rw [fA_of (PySem.W.mg_of X G a_BadRow)]; exact e_xBadRowBadRow
  lb := fun s u => by rw [fA_of (PySem.W.mg_of X G a_law), fDat_of l_law]; exact .of_eq rfl } (polyT_of (PySem.W.mg_of X G a_Poly) ⟨p_pg, p_hd, p_po, p_sa⟩ ⟨p_mk, iPm_init, nPm_init, p_kp⟩ p_no p_me (Me.mk' iPm_init nPm_init lPm_init cPm_init kPm_init (fun _ _ _ _ _ _ us hl => match us, hl with | [_, _], _ => rfl)) (Me.mk' iPm_eq nPm_eq lPm_eq cPm_eq kPm_eq (fun _ _ _ _ _ _ us hl => match us, hl with | [_, _], _ => rfl)) (Me.mk' iPm_add nPm_add lPm_add cPm_add kPm_add (fun _ _ _ _ _ _ us hl => match us, hl with | [_, _], _ => rfl)) (Me.mk' iPm_radd nPm_radd lPm_radd cPm_radd kPm_radd (fun _ _ _ _ _ _ us hl => match us, hl with | [_, _], _ => rfl)) (Me.mk' iPm_sub nPm_sub lPm_sub cPm_sub kPm_sub (fun _ _ _ _ _ _ us hl => match us, hl with | [_, _], _ => rfl)) (Me.mk' iPm_rsub nPm_rsub lPm_rsub cPm_rsub kPm_rsub (fun _ _ _ _ _ _ us hl => match us, hl with | [_, _], _ => rfl)) (Me.mk' iPm_mul nPm_mul lPm_mul cPm_mul kPm_mul (fun _ _ _ _ _ _ us hl => match us, hl with | [_, _], _ => rfl)) (Me.mk' iPm_rmul nPm_rmul lPm_rmul cPm_rmul kPm_rmul (fun _ _ _ _ _ _ us hl => match us, hl with | [_, _], _ => rfl)) (Me.mk' iPm_neg nPm_neg lPm_neg cPm_neg kPm_neg (fun _ _ _ _ _ _ us hl => match us, hl with | [_], _ => rfl)) (Me.mk' iPm_degree nPm_degree lPm_degree cPm_degree kPm_degree (fun _ _ _ _ _ _ us hl => match us, hl with | [_], _ => rfl)) (Me.mk' iPm_at nPm_at lPm_at cPm_at kPm_at (fun _ _ _ _ _ _ us hl => match us, hl with | [_, _], _ => rfl)) (Me.mk' iPm_slope nPm_slope lPm_slope cPm_slope kPm_slope (fun _ _ _ _ _ _ us hl => match us, hl with | [_], _ => rfl)) p_hc hn_ ht_ p_hm (fun T h => by (rcases h with rfl | rfl; exact p_kfint; exact p_kftuple)) (fun T h => by (rcases h with rfl | rfl; exact p_stint; exact p_sttuple)) (fun T h => by (rcases h with rfl | rfl; exact p_scint; exact p_sctuple)) (fun op ho => by (rcases ho with rfl | rfl | rfl; (rw [dn_add, dr_add]; exact ⟨⟨_, _, q_fointAdd, q_rointAdd, q_xintAdd⟩, _, _, q_fotupleAdd, q_rotupleAdd, q_xtupleAdd⟩); (rw [dn_sub, dr_sub]; exact ⟨⟨_, _, q_fointSub, q_rointSub, q_xintSub⟩, _, _, q_fotupleSub, q_rotupleSub, q_xtupleSub⟩); (rw [dn_mul, dr_mul]; exact ⟨⟨_, _, q_fointMult, q_rointMult, q_xintMult⟩, _, _, q_fotupleMult, q_rotupleMult, q_xtupleMult⟩)))) (by rw [fA_of (PySem.W.mg_of X G a_law), fDat_of l_law]) (by rw [fA_of (PySem.W.mg_of X G a_law_made_right), fDat_of l_law_made_right])
end LW
open PySem PySem.W PyProof.Rows
set_option maxRecDepth 100000 in
set_option maxHeartbeats 0 in
theorem PySem.Challenge.cw_flowpapers_k02_whole_polynomials_of_one_holds : PySem.Challenge.rw_flowpapers_k02_whole_polynomials_of_one.Holds := by
  w_on; o_law; k_head; (case hw => w_witness2)
  k_fill
  refine GL.walk_GT (l := PySem.Challenge.rw_flowpapers_k02_whole_polynomials_of_one) (n := 63) (k := 17) (x := "_law_script") rfl (by decide) rfl ⟨rfl, by decide, by decide⟩ (fun w h Y => PySem.W.km_in_of Y) ?F
  case F =>
    intro w mg fa h Y KX G hmg
    have hT8 := PySem.W.km_tabs_of Y
    refine' LW.facts KX G ?z_int ?z_bool ?z_list ?z_tuple ?z_len ?z_range ?z_isinstance ?z_repr ?z_abs ?z_all ?z_reversed ?z_max ?z_min ?z_sum ?z_enumerate ?z_zip ?z_NotImplemented ?g_gcd ?g_lcm ?a_is_ratio ?l_is_ratio ?c_is_ratio ?k_is_ratio ?a_told ?l_told ?c_told ?k_told ?a_plus ?l_plus ?c_plus ?k_plus ?a_times ?l_times ?c_times ?k_times ?a_is_integer ?l_is_integer ?c_is_integer ?k_is_integer ?a_parts ?l_parts ?c_parts ?k_parts ?a_lowest ?l_lowest ?c_lowest ?k_lowest ?a_is_row ?l_is_row ?c_is_row ?k_is_row ?a_is_strict_ratio ?l_is_strict_ratio ?c_is_strict_ratio ?k_is_strict_ratio ?a_bottom_of ?l_bottom_of ?c_bottom_of ?k_bottom_of ?a_whole_row ?l_whole_row ?c_whole_row ?k_whole_row ?a_top_power ?l_top_power ?c_top_power ?k_top_power ?a_row_product ?l_row_product ?c_row_product ?k_row_product ?a_beside ?l_beside ?c_beside ?k_beside ?a_number ?l_number ?c_number ?k_number ?a_sum ?l_sum ?c_sum ?k_sum ?a_product ?l_product ?c_product ?k_product ?a_law_pen ?l_law_pen ?c_law_pen ?k_law_pen ?a_law_draw ?l_law_draw ?c_law_draw ?k_law_draw ?a_law_pick ?l_law_pick ?c_law_pick ?k_law_pick ?a_law_gcd ?l_law_gcd ?c_law_gcd ?k_law_gcd ?a_law_q ?l_law_q ?c_law_q ?k_law_q ?a_law_plus ?l_law_plus ?c_law_plus ?k_law_plus ?a_law_times ?l_law_times ?c_law_times ?k_law_times ?a_law_passed ?l_law_passed ?c_law_passed ?k_law_passed ?a_law_ratio ?l_law_ratio ?c_law_ratio ?k_law_ratio ?a_law_poly ?l_law_poly ?c_law_poly ?k_law_poly ?a_law_p_plus ?l_law_p_plus ?c_law_p_plus ?k_law_p_plus ?a_law_p_scaled ?l_law_p_scaled ?c_law_p_scaled ?k_law_p_scaled ?a_law_p_minus ?l_law_p_minus ?c_law_p_minus ?k_law_p_minus ?a_law_p_times ?l_law_p_times ?c_law_p_times ?k_law_p_times ?a_law_p_at ?l_law_p_at ?c_law_p_at ?k_law_p_at ?a_law_p_slope ?l_law_p_slope ?c_law_p_slope ?k_law_p_slope ?a_law_made_poly ?l_law_made_poly ?c_law_made_poly ?k_law_made_poly ?a_law_drawn ?l_law_drawn ?c_law_drawn ?k_law_drawn ?a_law_why ?l_law_why ?c_law_why ?k_law_why ?a_law_any ?l_law_any ?c_law_any ?k_law_any ?a_law_far ?l_law_far ?c_law_far ?k_law_far ?a_law_some_ratio ?l_law_some_ratio ?c_law_some_ratio ?k_law_some_ratio ?a_law_made_right ?l_law_made_right ?c_law_made_right ?k_law_made_right ?a_law ?l_law ?c_law ?k_law ?hn_ ?ht_ ?a_BadText ?ga_BadText ?gg_BadText ?sb_BadText ?hd_BadText ?ca_BadText ?mo_BadText ?kp_BadText ?xL_BadText ?rb_BadText ?sa_BadText ?ty_BadText ?i_BadText ?t_BadText ?lI_BadText ?cI_BadText ?kI_BadText ?n_BadText_column ?a_BadNumber ?ga_BadNumber ?gg_BadNumber ?sb_BadNumber ?hd_BadNumber ?ca_BadNumber ?mo_BadNumber ?kp_BadNumber ?xL_BadNumber ?rb_BadNumber ?sa_BadNumber ?ty_BadNumber ?i_BadNumber ?t_BadNumber ?lI_BadNumber ?cI_BadNumber ?kI_BadNumber ?n_BadNumber_what ?n_BadNumber_number ?a_BadRow ?ga_BadRow ?gg_BadRow ?sb_BadRow ?hd_BadRow ?ca_BadRow ?mo_BadRow ?kp_BadRow ?xL_BadRow ?rb_BadRow ?sa_BadRow ?ty_BadRow ?i_BadRow ?t_BadRow ?lI_BadRow ?cI_BadRow ?kI_BadRow ?n_BadRow_row ?e_xBadNumberBadText ?e_xBadNumberBadNumber ?e_xBadRowBadText ?e_xBadRowBadNumber ?e_xBadRowBadRow ?a_Poly ?p_pg ?p_hd ?p_po ?p_sa ?p_mk ?p_kp ?p_no ?p_me ?iPm_init ?nPm_init ?lPm_init ?cPm_init ?kPm_init ?iPm_eq ?nPm_eq ?lPm_eq ?cPm_eq ?kPm_eq ?iPm_add ?nPm_add ?lPm_add ?cPm_add ?kPm_add ?iPm_radd ?nPm_radd ?lPm_radd ?cPm_radd ?kPm_radd ?iPm_sub ?nPm_sub ?lPm_sub ?cPm_sub ?kPm_sub ?iPm_rsub ?nPm_rsub ?lPm_rsub ?cPm_rsub ?kPm_rsub ?iPm_mul ?nPm_mul ?lPm_mul ?cPm_mul ?kPm_mul ?iPm_rmul ?nPm_rmul ?lPm_rmul ?cPm_rmul ?kPm_rmul ?iPm_neg ?nPm_neg ?lPm_neg ?cPm_neg ?kPm_neg ?iPm_degree ?nPm_degree ?lPm_degree ?cPm_degree ?kPm_degree ?iPm_at ?nPm_at ?lPm_at ?cPm_at ?kPm_at ?iPm_slope ?nPm_slope ?lPm_slope ?cPm_slope ?kPm_slope ?p_hc ?p_hm ?p_kfint ?p_stint ?p_scint ?q_fointAdd ?q_rointAdd ?q_xintAdd ?q_fointSub ?q_rointSub ?q_xintSub ?q_fointMult ?q_rointMult ?q_xintMult ?p_kftuple ?p_sttuple ?p_sctuple ?q_fotupleAdd ?q_rotupleAdd ?q_xtupleAdd ?q_fotupleSub ?q_rotupleSub ?q_xtupleSub ?q_fotupleMult ?q_rotupleMult ?q_xtupleMult ?fin
    (case z_int => k_is); (case z_bool => k_is); (case z_list => k_is); (case z_tuple => k_is); (case z_len => k_is); (case z_range => k_is); (case z_isinstance => k_is); (case z_repr => k_is); (case z_abs => k_is); (case z_all => k_is); (case z_reversed => k_is); (case z_max => k_is); (case z_min => k_is); (case z_sum => k_is); (case z_enumerate => k_is); (case z_zip => k_is); (case z_NotImplemented => k_is); (case g_gcd => k_is); (case g_lcm => k_is); (case a_is_ratio => k_is); (case l_is_ratio => k_is); (case c_is_ratio => k_is); (case k_is_ratio => k_is); (case a_told => k_is); (case l_told => k_is); (case c_told => k_is); (case k_told => k_is); (case a_plus => k_is); (case l_plus => k_is); (case c_plus => k_is); (case k_plus => k_is); (case a_times => k_is); (case l_times => k_is); (case c_times => k_is); (case k_times => k_is); (case a_is_integer => k_is); (case l_is_integer => k_is); (case c_is_integer => k_is); (case k_is_integer => k_is); (case a_parts => k_is); (case l_parts => k_is); (case c_parts => k_is); (case k_parts => k_is); (case a_lowest => k_is); (case l_lowest => k_is); (case c_lowest => k_is); (case k_lowest => k_is); (case a_is_row => k_is); (case l_is_row => k_is); (case c_is_row => k_is); (case k_is_row => k_is); (case a_is_strict_ratio => k_is); (case l_is_strict_ratio => k_is); (case c_is_strict_ratio => k_is); (case k_is_strict_ratio => k_is); (case a_bottom_of => k_is); (case l_bottom_of => k_is); (case c_bottom_of => k_is); (case k_bottom_of => k_is); (case a_whole_row => k_is); (case l_whole_row => k_is); (case c_whole_row => k_is); (case k_whole_row => k_is); (case a_top_power => k_is); (case l_top_power => k_is); (case c_top_power => k_is); (case k_top_power => k_is); (case a_row_product => k_is); (case l_row_product => k_is); (case c_row_product => k_is); (case k_row_product => k_is); (case a_beside => k_is); (case l_beside => k_is); (case c_beside => k_is); (case k_beside => k_is); (case a_number => k_is); (case l_number => k_is); (case c_number => k_is); (case k_number => k_is); (case a_sum => k_is); (case l_sum => k_is); (case c_sum => k_is); (case k_sum => k_is); (case a_product => k_is); (case l_product => k_is); (case c_product => k_is); (case k_product => k_is); (case a_law_pen => k_is); (case l_law_pen => k_is); (case c_law_pen => k_is); (case k_law_pen => k_is); (case a_law_draw => k_is); (case l_law_draw => k_is); (case c_law_draw => k_is); (case k_law_draw => k_is); (case a_law_pick => k_is); (case l_law_pick => k_is); (case c_law_pick => k_is); (case k_law_pick => k_is); (case a_law_gcd => k_is); (case l_law_gcd => k_is); (case c_law_gcd => k_is); (case k_law_gcd => k_is); (case a_law_q => k_is); (case l_law_q => k_is); (case c_law_q => k_is); (case k_law_q => k_is); (case a_law_plus => k_is); (case l_law_plus => k_is); (case c_law_plus => k_is); (case k_law_plus => k_is); (case a_law_times => k_is); (case l_law_times => k_is); (case c_law_times => k_is); (case k_law_times => k_is); (case a_law_passed => k_is); (case l_law_passed => k_is); (case c_law_passed => k_is); (case k_law_passed => k_is); (case a_law_ratio => k_is); (case l_law_ratio => k_is); (case c_law_ratio => k_is); (case k_law_ratio => k_is); (case a_law_poly => k_is); (case l_law_poly => k_is); (case c_law_poly => k_is); (case k_law_poly => k_is); (case a_law_p_plus => k_is); (case l_law_p_plus => k_is); (case c_law_p_plus => k_is); (case k_law_p_plus => k_is); (case a_law_p_scaled => k_is); (case l_law_p_scaled => k_is); (case c_law_p_scaled => k_is); (case k_law_p_scaled => k_is); (case a_law_p_minus => k_is); (case l_law_p_minus => k_is); (case c_law_p_minus => k_is); (case k_law_p_minus => k_is); (case a_law_p_times => k_is); (case l_law_p_times => k_is); (case c_law_p_times => k_is); (case k_law_p_times => k_is); (case a_law_p_at => k_is); (case l_law_p_at => k_is); (case c_law_p_at => k_is); (case k_law_p_at => k_is); (case a_law_p_slope => k_is); (case l_law_p_slope => k_is); (case c_law_p_slope => k_is); (case k_law_p_slope => k_is); (case a_law_made_poly => k_is); (case l_law_made_poly => k_is); (case c_law_made_poly => k_is); (case k_law_made_poly => k_is); (case a_law_drawn => k_is); (case l_law_drawn => k_is); (case c_law_drawn => k_is); (case k_law_drawn => k_is); (case a_law_why => k_is); (case l_law_why => k_is); (case c_law_why => k_is); (case k_law_why => k_is); (case a_law_any => k_is); (case l_law_any => k_is); (case c_law_any => k_is); (case k_law_any => k_is); (case a_law_far => k_is); (case l_law_far => k_is); (case c_law_far => k_is); (case k_law_far => k_is); (case a_law_some_ratio => k_is); (case l_law_some_ratio => k_is); (case c_law_some_ratio => k_is); (case k_law_some_ratio => k_is); (case a_law_made_right => k_is); (case l_law_made_right => k_is); (case c_law_made_right => k_is); (case k_law_made_right => k_is); (case a_law => k_is); (case l_law => k_is); (case c_law => k_is); (case k_law => k_is); (case hn_ => k_is); (case ht_ => k_is); (case a_BadText => k_is); (case ga_BadText => k_is); (case gg_BadText => k_is); (case sb_BadText => k_is); (case hd_BadText => k_is); (case ca_BadText => k_is); (case mo_BadText => k_is); (case kp_BadText => k_is); (case xL_BadText => k_is); (case rb_BadText => decide +kernel); (case sa_BadText => k_is); (case ty_BadText => k_is); (case i_BadText => k_is); (case t_BadText => k_is); (case lI_BadText => k_is); (case cI_BadText => k_is); (case kI_BadText => k_is); (case n_BadText_column => k_is); (case a_BadNumber => k_is); (case ga_BadNumber => k_is); (case gg_BadNumber => k_is); (case sb_BadNumber => k_is); (case hd_BadNumber => k_is); (case ca_BadNumber => k_is); (case mo_BadNumber => k_is); (case kp_BadNumber => k_is); (case xL_BadNumber => k_is); (case rb_BadNumber => decide +kernel); (case sa_BadNumber => k_is); (case ty_BadNumber => k_is); (case i_BadNumber => k_is); (case t_BadNumber => k_is); (case lI_BadNumber => k_is); (case cI_BadNumber => k_is); (case kI_BadNumber => k_is); (case n_BadNumber_what => k_is); (case n_BadNumber_number => k_is); (case a_BadRow => k_is); (case ga_BadRow => k_is); (case gg_BadRow => k_is); (case sb_BadRow => k_is); (case hd_BadRow => k_is); (case ca_BadRow => k_is); (case mo_BadRow => k_is); (case kp_BadRow => k_is); (case xL_BadRow => k_is); (case rb_BadRow => decide +kernel); (case sa_BadRow => k_is); (case ty_BadRow => k_is); (case i_BadRow => k_is); (case t_BadRow => k_is); (case lI_BadRow => k_is); (case cI_BadRow => k_is); (case kI_BadRow => k_is); (case n_BadRow_row => k_is); (case e_xBadNumberBadText => kernel_rfl); (case e_xBadNumberBadNumber => kernel_rfl); (case e_xBadRowBadText => kernel_rfl); (case e_xBadRowBadNumber => kernel_rfl); (case e_xBadRowBadRow => kernel_rfl); (case a_Poly => k_is); (case p_pg => (first | k_is | kernel_rfl)); (case p_hd => (first | k_is | kernel_rfl)); (case p_po => (first | k_is | kernel_rfl)); (case p_sa => k_is); (case p_mk => (first | k_is | kernel_rfl)); (case p_kp => (first | k_is | kernel_rfl)); (case p_no => (first | k_is | kernel_rfl)); (case p_me => (first | k_is | kernel_rfl)); (case iPm_init => k_is); (case nPm_init => (first | k_is | kernel_rfl)); (case lPm_init => k_is); (case cPm_init => k_is); (case kPm_init => k_is); (case iPm_eq => k_is); (case nPm_eq => (first | k_is | kernel_rfl)); (case lPm_eq => k_is); (case cPm_eq => k_is); (case kPm_eq => k_is); (case iPm_add => k_is); (case nPm_add => (first | k_is | kernel_rfl)); (case lPm_add => k_is); (case cPm_add => k_is); (case kPm_add => k_is); (case iPm_radd => k_is); (case nPm_radd => (first | k_is | kernel_rfl)); (case lPm_radd => k_is); (case cPm_radd => k_is); (case kPm_radd => k_is); (case iPm_sub => k_is); (case nPm_sub => (first | k_is | kernel_rfl)); (case lPm_sub => k_is); (case cPm_sub => k_is); (case kPm_sub => k_is); (case iPm_rsub => k_is); (case nPm_rsub => (first | k_is | kernel_rfl)); (case lPm_rsub => k_is); (case cPm_rsub => k_is); (case kPm_rsub => k_is); (case iPm_mul => k_is); (case nPm_mul => (first | k_is | kernel_rfl)); (case lPm_mul => k_is); (case cPm_mul => k_is); (case kPm_mul => k_is); (case iPm_rmul => k_is); (case nPm_rmul => (first | k_is | kernel_rfl)); (case lPm_rmul => k_is); (case cPm_rmul => k_is); (case kPm_rmul => k_is); (case iPm_neg => k_is); (case nPm_neg => (first | k_is | kernel_rfl)); (case lPm_neg => k_is); (case cPm_neg => k_is); (case kPm_neg => k_is); (case iPm_degree => k_is); (case nPm_degree => (first | k_is | kernel_rfl)); (case lPm_degree => k_is); (case cPm_degree => k_is); (case kPm_degree => k_is); (case iPm_at => k_is); (case nPm_at => (first | k_is | kernel_rfl)); (case lPm_at => k_is); (case cPm_at => k_is); (case kPm_at => k_is); (case iPm_slope => k_is); (case nPm_slope => (first | k_is | kernel_rfl)); (case lPm_slope => k_is); (case cPm_slope => k_is); (case kPm_slope => k_is); (case p_hc => k_is); (case p_hm => (first | k_is | kernel_rfl)); (case p_kfint => (first | k_is | kernel_rfl)); (case p_stint => (first | k_is | kernel_rfl)); (case p_scint => (first | k_is | kernel_rfl)); (case q_fointAdd => k_is); (case q_rointAdd => k_is); (case q_xintAdd => (first | k_is | kernel_rfl)); (case q_fointSub => k_is); (case q_rointSub => k_is); (case q_xintSub => (first | k_is | kernel_rfl)); (case q_fointMult => k_is); (case q_rointMult => k_is); (case q_xintMult => (first | k_is | kernel_rfl)); (case p_kftuple => (first | k_is | kernel_rfl)); (case p_sttuple => (first | k_is | kernel_rfl)); (case p_sctuple => (first | k_is | kernel_rfl)); (case q_fotupleAdd => k_is); (case q_rotupleAdd => k_is); (case q_xtupleAdd => (first | k_is | kernel_rfl)); (case q_fotupleSub => k_is); (case q_rotupleSub => k_is); (case q_xtupleSub => (first | k_is | kernel_rfl)); (case q_fotupleMult => k_is); (case q_rotupleMult => k_is); (case q_xtupleMult => (first | k_is | kernel_rfl))
    case fin =>
      intro T TP h1 h2
      have e : fa = GL.fA mg "law" := by
        have q := hmg.symm.trans T.law.g
        exact Value.ref.inj (Option.some.inj q)
      subst e
      have t1 := hT8 _ (List.mem_cons_self ..)
      have t2 := hT8 _ (List.mem_cons_of_mem _ (List.mem_cons_self ..))
      first
      | exact LW.fin_law T TP h1 h2 t2 t1 (Option.isNone_iff_eq_none.mp (by kernel_rfl)) (Option.isNone_iff_eq_none.mp (by kernel_rfl)) (by kernel_rfl) (by kernel_rfl) (by decide +kernel)
      | exact LW.fin_law T TP h1 h2 t1 t2 (Option.isNone_iff_eq_none.mp (by kernel_rfl)) (Option.isNone_iff_eq_none.mp (by kernel_rfl)) (by kernel_rfl) (by kernel_rfl) (by decide +kernel)
