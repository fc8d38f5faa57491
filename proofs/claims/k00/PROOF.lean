import PyProof.Rows.All
import Wide.All
import OpenK.AllK
import Wide.FinOn
import HandS.ForMost
import HandS.ExcInit
import HandS.IsInst
import HandS.RaiseMore
import HandS.Wide
import HandS.Codes
import HandS.Steps
import HandS.Zip
import HandS.Evl
import HandS.ExcIs
import KE.KExcIs
import HandS.ExcValue
import PySem.Challenge.RW_flowpapers_k00_errors
set_option Elab.async false
set_option linter.all false
set_option maxRecDepth 100000
set_option maxHeartbeats 4000000
/-! Defs that are run where no repr is under way: what repr and == of data ask. -/
namespace GL
open PySem PySem.Spec PyProof.Rows L2

/-- nothing is being shown -/
abbrev Quiet (A : Around) : Prop := A.guards = some []

/-- as FnOk, asked only where nothing is being shown -/
structure OkG (P : Program) (w : World) (K : PySem.W.Frag) (mg : Str → Option Value) (base : Heap) (CX : CXT) (k : Nat) (f : Addr) (fd : FuncData) (ps : List Str) (sp : Sp) : Prop where
  len : ∀ vs H Q E, sp vs H Q E → vs.length = ps.length
  run : ∀ (A : Around) (outer : List Env) (s : Shared) (H : Hp) (args : Args) (us : List Value) (vs : List V) (Q : VK) (E : XK), Room k A → Quiet A → Env0 P w K mg base A outer s H →
    BindsTo s fd args (ps.zip us) → Vals vs us → sp vs H Q E → codeAny (model P w) A (.call (.ref f) args) (CR CX outer P w H s Q E) s

section
variable {P : Program} {w : World} {K : PySem.W.Frag} {mg : Str → Option Value} {base : Heap} {CX : CXT} {k : Nat} {f : Addr} {fd : FuncData} {ps : List Str} {sp : Sp}
theorem OkG.of (F : FnOk P w K mg base CX k f fd ps sp) : OkG P w K mg base CX k f fd ps sp :=
  ⟨F.len, fun A outer s H args us vs Q E hr _ e0 hb r h => F.run A outer s H args us vs Q E hr e0 hb r h⟩
theorem OkG.mono {j : Nat} (F : OkG P w K mg base CX j f fd ps sp) (h : j ≤ k) : OkG P w K mg base CX k f fd ps sp :=
  ⟨F.len, fun A outer s H args us vs Q E hr hq e0 hb r z => F.run A outer s H args us vs Q E (hr.mono h) hq e0 hb r z⟩

/-- a def by its body, where nothing is being shown -/
theorem okG {x qual : Str} {st : Stmt} {N : List Str} (F : Fun K x qual st f fd) (S : FnScope N ps (defScope st)) (len : ∀ vs H Q E, sp vs H Q E → vs.length = ps.length)
    (body : ∀ (cdv : Value) (A : Around) (outer : List Env) (s : Shared) (H : Hp) (vs : List V) (Q : VK) (E : XK), Room k (A.deeper (envOfC qual (defScope st) s.heap.objs.size f cdv)) → Quiet A → sp vs H Q E →
      ∃ t, PSs (cxOf CX P w K mg base N qual (defScope st) f cdv A outer s H E) (defBody st) t ∧ t { nx := fun _ H' => Q .non H', rt := Q } (start N vs) H) :
    OkG P w K mg base CX (k + 1) f fd ps sp := by
  obtain ⟨oc, od, kV, doc, pm, an, cdv, ct, osl, rfl, lk, hcd⟩ := F.ex
  refine ⟨len, fun A outer s H args us vs Q E hr hq e0 hb r hsp => ?_⟩
  have enough := len _ _ _ _ hsp
  have inK : K.In s.heap := e0.mod.kin.keeps (fun b o e => (e0.bs b o e).1)
  have nl : s.heap.NoLimit := e0.mod.nolimit.keeps (fun b o e => (e0.bs b o e).1)
  refine codeAny_call_function hr.depth (inK _ _ lk) rfl S.co S.gen rfl (PySem.W.codeRec_of inK hcd) (hb _ _ _ _ ?_)
  refine wpAny_newFunctionEnv_cells S.kind ?_ (fun env he s1 x => ?_)
  · rintro ⟨n, v⟩ hy
    cases S.par n (List.of_mem_zip hy).1 with
    | inl q => exact .inl q
    | inr q => exact .inr ⟨q, PySem.W.cellsFrom_some _ _ _ (.inl q)⟩
  subst he
  refine ⟨nl.keeps x.toInCall.keep, codeAny_func ?_⟩
  obtain ⟨t, ht, hT⟩ := body cdv A outer s H vs Q E (hr.deeper _) hq hsp
  have I0 := inv_start (CX := CX) (E := E) S hr.hd e0 enough r x
  refine wpAny_mono (ht.run [] s1 (start N vs) H _ I0 hT) (fun fl s' hs => ?_) (fun e s' hs => hs)
  cases fl with
  | ret u =>
    obtain ⟨v, _, H', J, rv, q⟩ := hs
    exact ⟨v, H', J.os, J.bare, J.base, J.hok, rv, q⟩
  | next =>
    obtain ⟨_, H', J, q⟩ := hs
    exact ⟨V.non, H', J.os, J.bare, J.base, J.hok, rfl, q⟩
  | brk => obtain ⟨_, _, _, q⟩ := hs; exact q.elim
  | cont => obtain ⟨_, _, _, q⟩ := hs; exact q.elim
end

/-- .. from which no exception leaves -/
theorem okG0 {P : Program} {w : World} {K : PySem.W.Frag} {mg : Str → Option Value} {base : Heap} {k : Nat} {f : Addr} {fd : FuncData} {ps : List Str} {sp : Sp} {x qual : Str} {st : Stmt} {N : List Str} (F : Fun K x qual st f fd) (S : FnScope N ps (defScope st))
    (len : ∀ vs H Q E, sp vs H Q E → vs.length = ps.length)
    (body : ∀ (cdv : Value) (A : Around) (outer : List Env) (s : Shared) (H : Hp) (vs : List V) (Q : VK) (E : XK), Room k (A.deeper (envOfC qual (defScope st) s.heap.objs.size f cdv)) → Quiet A → sp vs H Q E →
      ∃ t, PSs (cxOf CX0 P w K mg base N qual (defScope st) f cdv A outer s H E).nox (defBody st) t ∧ t { nx := fun _ H' => Q .non H', rt := Q } (start N vs) H) : OkG P w K mg base CX0 (k + 1) f fd ps sp :=
  okG F S len fun cdv A outer s H vs Q E hr hq h => by
    obtain ⟨t, h1, h2⟩ := body cdv A outer s H vs Q E hr hq h
    exact ⟨t, h1.nox, h2⟩
section
variable {X : Cx} {CX : CXT} {k : Nat} {f : Addr} {fd : FuncData} {ps : List Str} {sp : Sp} {dvs : List V} {ds : List Value} {E : XK}
/-- a call of such a def -/
theorem run_fnG {pins : List (Addr × Obj)} {σ : L2.St} {H : Hp} {s : Shared} {Q : VK} {us : List Value} {vs : List V} (F : OkG X.prog X.w X.K X.mg X.base CX k f fd ps sp) (hr : Room k X.A) (hq : Quiet X.A)
    (hb : Binds X.K fd ps ds) (hd : Vals dvs ds) (hx : Passes CX X E) (I : Inv X pins σ H s) (r : Vals vs us) (h : sp (vs ++ dvs) H Q E) :
    wpAny (model X.prog X.w) X.A (call (.ref f) us) (EP X pins σ Q) X.xe s := by
  have both := r.append hd
  have hl : (us ++ ds).length = ps.length := both.length.symm.trans (F.len _ _ _ _ h)
  have run := F.run X.A X.stack s H ⟨us, []⟩ (us ++ ds) (vs ++ dvs) Q E hr hq I.env0 (hb s us I.kIn hl) both h
  refine wpAny_call (codeAny_mono run fun r s' z => ?_)
  cases r with
  | error e => exact hx pins σ H s e s' I z
  | ok fl => cases fl with
    | ret u => exact I.after z
    | next => exact z.elim
    | brk => exact z.elim
    | cont => exact z.elim
variable {x : Str} {p pos : Pos} {e : Expr} {es : List Expr} {t : TA}
theorem pe_callG (F : OkG X.prog X.w X.K X.mg X.base CX k f fd ps sp) (hr : Room k X.A) (hq : Quiet X.A) (hg : Gl X x) (hm : X.mg x = some (.ref f)) (hk : PySem.W.keepIn X.K (.ref f) = true)
    (hb : Binds X.K fd ps ds) (hd : Vals dvs ds) (hx : Passes CX X E) (ha : PA X (e :: es) t) (hdb : (x == ("__debug__" : Str)) = false := by decide)
    (he : starEach (e :: es) X.env = (false, eval e X.env) :: starEach es X.env := by rfl) (hpl : (backTo pos (starEach es X.env)).any (·.1) = false := by rfl) :
    PE X (.Call (.Name x p) (e :: es) [] pos) (tCall sp dvs E t) :=
  ⟨fun pins s σ H Q I h => wpAny_Call_Name_kw (ld_glob I hg hm (PySem.W.callWith_K (h₀ := X.base) I.ok.mod.kin hk
    (thn (ha.run pos pins s σ H _ I h) fun us s1 ⟨vs, H1, I1, r, q⟩ => ⟨I1.kIn, run_fnG F hr hq hb hd hx I1 r q⟩) he hpl) hdb)⟩
end

/-! ### repr -/
/-- repr of data that can be shown -/
def rRepr (K : PySem.W.Frag) : List V → Hp → VK → Prop := fun xs H Q => ∃ (v : V) (d : PyData), xs = [v] ∧ Dp K H v d ∧ d.showable = true ∧ d.hasDict = false ∧ d.depth ≤ 40 ∧ d.shown.length ≤ sizeLine ∧ Q (.str d.shown) H
theorem call_repr {X : Cx} (hq : Quiet X.A) (hu : X.A.units + 64 < cLine) : CallR X (.builtin "repr") (rRepr X.K) := by
  intro pins s σ H xs us Q I r h
  obtain ⟨v, d, rfl, hd, hs, hn, hp, hz, q⟩ := h
  cases r with
  | cons rv rn =>
    rename_i u us'
    cases rn
    obtain ⟨as, rd⟩ := Dp.reads I d v u hd rv
    cases hd with
    | non => cases rv; exact PySem.P.repr_of_none ⟨.str _, H, I.tok _, ⟨_, rfl⟩, q⟩
    | bl b => cases rv; exact PySem.P.repr_of_bool ⟨.str _, H, I.tok _, ⟨_, rfl⟩, q⟩
    | int i =>
      obtain ⟨t, rfl⟩ := rv
      exact PySem.P.repr_of_int (of_decide_eq_true hs) ⟨.str _, H, I.tok _, ⟨_, rfl⟩, q⟩
    | str x =>
      obtain ⟨t, rfl⟩ := rv
      exact PySem.P.repr_of_str ⟨.str _, H, I.tok _, ⟨_, rfl⟩, q⟩
    | lst a b =>
      cases rv
      exact repr_of_reads' rd hs (PyData.noDict_hsm hn) hq (by omega) (fun _ _ e => e) (fun h' u tk hk => ⟨.str _, H, I.kept hk, ⟨_, rfl⟩, q⟩) hz
    | tup a b =>
      cases rv
      exact repr_of_reads' rd hs (PyData.noDict_hsm hn) hq (by omega) (fun _ _ e => e) (fun h' u tk hk => ⟨.str _, H, I.kept hk, ⟨_, rfl⟩, q⟩) hz

/-! ### values at a heap that stays -/
section
variable {σ : L2.St} {H : Hp} {i : Nat} {v x y z : V} {ta tb te tv : TE} {b : Bool} {K : PySem.W.Frag} {D : Ends} {p : Addr} {kvs : List (Key × V)} {k : Key}
theorem v_I0 {g : Int → Int → V} {i j : Int} (ha : Val ta σ H (.int i)) (hb : Val tb σ H (.int j)) : Val (tOp (rI0 g) ta tb) σ H (g i j) := val_op ha hb fun Q q => ⟨i, j, rfl, rfl, q⟩
theorem v_I {C : Int → Int → Prop} {g : Int → Int → V} {i j : Int} (ha : Val ta σ H (.int i)) (hb : Val tb σ H (.int j)) (hc : C i j) : Val (tOp (rI C g) ta tb) σ H (g i j) := val_op ha hb fun Q q => ⟨i, j, rfl, rfl, hc, q⟩
theorem v_add {i j : Int} (ha : Val ta σ H (.int i)) (hb : Val tb σ H (.int j)) : Val (tOp (rI0 fun i j => .int (i + j)) ta tb) σ H (.int (i + j)) := v_I0 ha hb
theorem v_sub {i j : Int} (ha : Val ta σ H (.int i)) (hb : Val tb σ H (.int j)) : Val (tOp (rI0 fun i j => .int (i - j)) ta tb) σ H (.int (i - j)) := v_I0 ha hb
theorem v_mul {C : Int → Int → Prop} {i j : Int} (ha : Val ta σ H (.int i)) (hb : Val tb σ H (.int j)) (hc : C i j) : Val (tOp (rI C fun i j => .int (i * j)) ta tb) σ H (.int (i * j)) := v_I ha hb hc
theorem v_pow {i j : Int} (ha : Val ta σ H (.int i)) (hb : Val tb σ H (.int j)) (hc : 0 ≤ j ∧ j ≤ 1000000 ∧ i.natAbs < 2 ^ 64) : Val (tOp (rI CPow fun i j => .int (i ^ j.toNat)) ta tb) σ H (.int (i ^ j.toNat)) := v_I ha hb hc
theorem v_mod {C : Int → Int → Prop} {i j : Int} (ha : Val ta σ H (.int i)) (hb : Val tb σ H (.int j)) (hc : C i j) : Val (tOp (rI C fun i j => .int (i % j)) ta tb) σ H (.int (i % j)) := v_I ha hb hc
theorem v_div {C : Int → Int → Prop} {i j : Int} (ha : Val ta σ H (.int i)) (hb : Val tb σ H (.int j)) (hc : C i j) : Val (tOp (rI C fun i j => .int (i / j)) ta tb) σ H (.int (i / j)) := v_I ha hb hc
theorem v_fmod {C : Int → Int → Prop} {i j : Int} (ha : Val ta σ H (.int i)) (hb : Val tb σ H (.int j)) (hc : C i j) : Val (tOp (rI C fun i j => .int (i.fmod j)) ta tb) σ H (.int (i.fmod j)) := v_I ha hb hc
theorem v_fdiv {C : Int → Int → Prop} {i j : Int} (ha : Val ta σ H (.int i)) (hb : Val tb σ H (.int j)) (hc : C i j) : Val (tOp (rI C fun i j => .int (i.fdiv j)) ta tb) σ H (.int (i.fdiv j)) := v_I ha hb hc
theorem v_get (h : Val te σ H (.ref p)) (hp : H p = some (.dK kvs)) (hv : valV kvs k = some v) : Val (tDGet te (tC (kV k))) σ H v := fun Q q => h _ ⟨p, v, rfl, .inl ⟨kvs, k, .inl hp, rfl, hv.symm⟩, q⟩
theorem v_int1 {i : Int} (h : Val te σ H (.int i)) : Val (tCB (fun xs H Q => (∃ i, xs = [.int i] ∧ Q (.int i) H) ∨ ∃ k, xs = [.bl k] ∧ Q (.int (if k then 1 else 0)) H) (tCons te tNil)) σ H (.int i) :=
  fun Q q => h _ (.inl ⟨i, rfl, q⟩)
theorem v_len {xs : List V} (h : Val te σ H (.ref p)) (hx : SqL K H p xs ∨ SqT K H p xs) : Val (tCB (fun xs H Q => ∃ p ys, xs = [.ref p] ∧ (SqL K H p ys ∨ SqT K H p ys) ∧ Q (.int ys.length) H) (tCons te tNil)) σ H (.int (xs.length : Int)) :=
  fun Q q => h _ ⟨p, xs, rfl, hx, q⟩
theorem v_ixL {xs : List V} {n : Nat} (h : Val te σ H (.ref p)) (hi : Val tb σ H (.int (n : Int))) (hx : SqL K H p xs) (he : xs[n]? = some v) : Val (tOp (rIxL K) te tb) σ H v :=
  val_op h hi fun Q q => ⟨p, xs, n, v, rfl, rfl, hx, atI_nat he, q⟩
theorem v_ixT {xs : List V} {n : Nat} (h : Val te σ H (.ref p)) (hi : Val tb σ H (.int (n : Int))) (hx : SqT K H p xs) (he : xs[n]? = some v) : Val (tOp (rIxT K) te tb) σ H v :=
  val_op h hi fun Q q => ⟨p, xs, n, v, rfl, rfl, hx, atI_nat he, q⟩
/-- values of an argument list -/
def VA (ta : TA) (σ : L2.St) (H : Hp) (vs : List V) : Prop := ∀ Q : List V → Hp → Prop, Q vs H → ta σ H Q
theorem va_nil : VA tNil σ H [] := fun _ q => q
theorem va_cons {tr : TA} {vs : List V} (h : Val te σ H v) (hr : VA tr σ H vs) : VA (tCons te tr) σ H (v :: vs) := fun Q q => h _ (hr _ q)
theorem l_lst {ta : TA} {vs : List V} {Q : VK} (h : VA ta σ H vs) (hl : vs.length ≤ 100000) (q : ∀ p, H p = none → Q (.ref p) (upd H p (.lst vs))) : tLst ta σ H Q := h _ ⟨Nat.le_trans hl (by decide), q⟩
theorem l_tup {ta : TA} {vs : List V} {Q : VK} (h : VA ta σ H vs) (hl : vs.length ≤ 100000) (q : ∀ p, H p = none → Q (.ref p) (upd H p (.tup vs))) : tTup ta σ H Q := h _ ⟨Nat.le_trans hl (by decide), q⟩
theorem v_cb {r : List V → Hp → VK → Prop} {ta : TA} {vs : List V} {z : V} (h : VA ta σ H vs) (hr : ∀ Q : VK, Q z H → r vs H Q) : Val (tCB r ta) σ H z := fun Q q => h _ (hr Q q)
theorem c_call {sp : Sp} {E : XK} {ta : TA} {vs : List V} {Q : VK} (h : VA ta σ H vs) (q : sp vs H Q E) : tCall sp [] E ta σ H Q := h _ (by rw [List.append_nil]; exact q)
theorem s_put (h0 : Val te σ H (.ref p)) (h : Val tv σ H v) (hp : H p = some (.dK kvs)) (hl : kvs.length ≤ 100) (q : D.nx σ (upd H p (.dK (putK kvs k v)))) : sDPut te (tC (kV k)) tv D σ H :=
  h _ (h0 _ ⟨p, _, rfl, DPut.k hp (Nat.lt_of_le_of_lt hl (by decide)), q⟩)
theorem a_I {g : Int → Int → Bool} {i j : Int} (ha : Val ta σ H (.int i)) (hb : Val tb σ H (.int j)) : Ans (tTest (tOp (rI0 fun i j => .bl (g i j)) ta tb)) σ H (g i j) := ans_cmp ha hb fun Q q => ⟨i, j, rfl, rfl, q⟩
theorem st_if {t : TT} {t1 t2 : TS} (h : Ans t σ H b) (h1 : b = true → t1 D σ H) (h2 : b = false → t2 D σ H) : tIfS t t1 t2 D σ H := by
  cases b with
  | true => exact st_yes h (h1 rfl)
  | false => exact st_no h (h2 rfl)
end

/-- a walk over enumerate of a list -/
theorem for_enumL {K : PySem.W.Frag} {a : Addr} {xs : List V} {g : TG} {tb : TS} {D : Ends} {σ : L2.St} {H : Hp} (Pv : Nat → L2.St → Hp → Prop) (h0 : Pv 0 σ H) (hq : ∀ i σ H, Pv i σ H → SqL K H a xs)
    (hs : ∀ (i : Nat) (x : V) (T : Addr) (σ : L2.St) (H : Hp), xs[i]? = some x → Pv i σ H → H T = none → g (.ref T) σ (upd H T (.tup [.int (i : Nat), x])) fun σ2 H2 => tb { D with nx := Pv (i + 1), ct := Pv (i + 1), bk := D.nx } σ2 H2)
    (hd : ∀ σ H, Pv xs.length σ H → D.nx σ H) :
    ∃ W : Nat → Nat → L2.St → Hp → Prop, (∃ m, W 0 m σ H) ∧ ∀ i m σ H, W i m σ H →
      ((Ite K a).stop i H ∧ D.nx σ H) ∨ ((Ite K a).go i H ∧ ∃ N : L2.St → Hp → Prop, (∀ σ' H', N σ' H' → ∃ m', m' < m ∧ W (i + 1) m' σ' H') ∧ ∀ v H', (Ite K a).yld i H v H' → g v σ H' fun σ2 H2 => tb { D with nx := N, ct := N, bk := D.nx } σ2 H2) := by
  refine ⟨fun i m σ H => m = xs.length - i ∧ i ≤ xs.length ∧ Pv i σ H, ⟨_, rfl, Nat.zero_le _, h0⟩, ?_⟩
  rintro i m σ H ⟨rfl, hi, p⟩
  have q := hq i σ H p
  rcases Nat.lt_or_ge i xs.length with lt | ge
  · refine .inr ⟨⟨xs, xs[i], q, List.getElem?_eq_getElem lt⟩, Pv (i + 1), fun σ' H' p' => ⟨xs.length - (i + 1), by omega, rfl, lt, p'⟩, ?_⟩
    rintro v H' ⟨T, x, rfl, hT, rfl, f⟩
    exact hs i x T σ H (f xs q) p hT
  · obtain rfl : i = xs.length := by omega
    exact .inl ⟨⟨xs, q, Nat.le_refl _⟩, hd σ H p⟩
theorem Same.new' {H : Hp} {p : Addr} {o : HO} (h : H p = none) : Same H (upd H p o) := fun b u e => by
  rw [upd_ne (ne_of_none e h)]
  exact e
/-- a sum of a list and a list of written items -/
theorem l_catL {σ : L2.St} {H : Hp} {ta : TE} {tb : TA} {Q : VK} {l : Addr} {xs ys : List V} (ha : Val ta σ H (.ref l)) (hl : H l = some (.lst xs)) (hb : VA tb σ H ys) (h1 : xs.length ≤ 1000) (h2 : ys.length ≤ 1000)
    (k : ∀ p H', Same H H' → H' p = some (.lst (xs ++ ys)) → Q (.ref p) H') : tOp rCat ta (tLst tb) σ H Q := by
  refine ha _ (hb _ ⟨Nat.le_trans h2 (by decide), fun b nb => ⟨l, b, xs, ys, rfl, rfl, ?_, upd_same, Nat.le_trans (Nat.add_le_add h1 h2) (by decide), fun p np => k p _ ?_ upd_same⟩⟩)
  · rw [upd_ne (ne_of_none hl nb)]; exact hl
  · exact (Same.new' nb).trans (Same.new' np)
section
variable {σ : L2.St} {H : Hp} {i : Nat} {ta : TE} {tb : TA} {D : Ends} {l : Addr} {xs ys : List V}
theorem s_lst (h : VA tb σ H ys) (hl : ys.length ≤ 100000) (q : ∀ p H', Same H H' → H' p = some (.lst ys) → D.nx (σ.set i (some (.ref p))) H') : tAsg (tLst tb) (gName i) D σ H := h _ ⟨Nat.le_trans hl (by decide), fun p hp => q p _ (Same.new' hp) upd_same⟩
theorem s_catL (ha : Val ta σ H (.ref l)) (hl : H l = some (.lst xs)) (hb : VA tb σ H ys) (h1 : xs.length ≤ 1000) (h2 : ys.length ≤ 1000)
    (k : ∀ p H', Same H H' → H' p = some (.lst (xs ++ ys)) → D.nx (σ.set i (some (.ref p))) H') : tAsg (tOp rCat ta (tLst tb)) (gName i) D σ H := l_catL (Q := fun v H' => gName i v σ H' D.nx) ha hl hb h1 h2 k
theorem r_catL (ha : Val ta σ H (.ref l)) (hl : H l = some (.lst xs)) (hb : VA tb σ H ys) (h1 : xs.length ≤ 1000) (h2 : ys.length ≤ 1000)
    (k : ∀ p H', Same H H' → H' p = some (.lst (xs ++ ys)) → D.rt (.ref p) H') : tRet (tOp rCat ta (tLst tb)) D σ H := l_catL (Q := D.rt) ha hl hb h1 h2 k
end
/-! ### statements in a row: what follows stays as it is written -/
section
variable {σ : L2.St} {H : Hp} {i : Nat} {ta te tv : TE} {tb : TA} {D : Ends} {l p : Addr} {xs ys : List V} {tz t1 t2 : TS} {v : V} {kvs : List (Key × V)} {k : Key} {t : TT} {b : Bool}
theorem q_lst (h : VA tb σ H ys) (hl : ys.length ≤ 100000) (q : ∀ p H', Same H H' → H' p = some (.lst ys) → tz D (σ.set i (some (.ref p))) H') : tSeq (tAsg (tLst tb) (gName i)) tz D σ H := s_lst (D := { D with nx := tz D }) h hl q
theorem q_catL (ha : Val ta σ H (.ref l)) (hl : H l = some (.lst xs)) (hb : VA tb σ H ys) (h1 : xs.length ≤ 1000) (h2 : ys.length ≤ 1000)
    (q : ∀ p H', Same H H' → H' p = some (.lst (xs ++ ys)) → tz D (σ.set i (some (.ref p))) H') : tSeq (tAsg (tOp rCat ta (tLst tb)) (gName i)) tz D σ H := s_catL (D := { D with nx := tz D }) ha hl hb h1 h2 q
theorem q_set (h : Val te σ H v) (q : tz D (σ.set i (some v)) H) : tSeq (tAsg te (gName i)) tz D σ H := h _ q
theorem q_put (h0 : Val te σ H (.ref p)) (h : Val tv σ H v) (hp : H p = some (.dK kvs)) (hl : kvs.length ≤ 100) (q : tz D σ (upd H p (.dK (putK kvs k v)))) : tSeq (sDPut te (tC (kV k)) tv) tz D σ H := s_put (D := { D with nx := tz D }) h0 h hp hl q
/-- any expression that is stored: its own reading, then what follows -/
theorem q_asg (h : te σ H fun v H' => tz D (σ.set i (some v)) H') : tSeq (tAsg te (gName i)) tz D σ H := h
theorem q_if (h : Ans t σ H b) (h1 : b = true → t1 { D with nx := tz D } σ H) (h2 : b = false → t2 { D with nx := tz D } σ H) : tSeq (tIfS t t1 t2) tz D σ H := st_if (D := { D with nx := tz D }) h h1 h2
/-- an if without else -/
theorem q_when (h : Ans t σ H b) (h1 : b = true → t1 { D with nx := tz D } σ H) (h2 : b = false → tz D σ H) : tSeq (tIfS t t1 tNext) tz D σ H := st_if (D := { D with nx := tz D }) h h1 h2
theorem q_unless (h : Ans t σ H false) (q : tz D σ H) : tSeq (tIfS t t1 tNext) tz D σ H := st_no (D := { D with nx := tz D }) h q
theorem r_ret (h : te σ H D.rt) : tRet te D σ H := h
end
/-! ### expressions that make things -/
def EM (te : TE) (σ : L2.St) (H : Hp) (P : V → Hp → Prop) : Prop := ∀ Q : VK, (∀ v H', Same H H' → P v H' → Q v H') → te σ H Q
def VM (tb : TA) (σ : L2.St) (H : Hp) (R : List V → Hp → Prop) : Prop := ∀ Q : List V → Hp → Prop, (∀ vs H', Same H H' → R vs H' → Q vs H') → tb σ H Q
def Stays {α : Type} (R : α → Hp → Prop) : Prop := ∀ x H1 H2, Same H1 H2 → R x H1 → R x H2
/-- a row whose items are of one kind each, by their places from k on -/
def Run (P : Nat → V → Hp → Prop) : Nat → List V → Hp → Prop
  | _, [], _ => True
  | k, v :: r, H => P k v H ∧ Run P (k + 1) r H
theorem Run.keep {P : Nat → V → Hp → Prop} (st : ∀ k, Stays (P k)) : ∀ {k : Nat} {xs : List V} {H1 H2 : Hp}, Same H1 H2 → Run P k xs H1 → Run P k xs H2
  | _, [], _, _, _, _ => trivial
  | _, _ :: _, _, _, s, ⟨a, b⟩ => ⟨st _ _ _ _ s a, Run.keep st s b⟩
theorem Run.app {P : Nat → V → Hp → Prop} {H : Hp} : ∀ {k : Nat} {xs ys : List V}, Run P k xs H → Run P (k + xs.length) ys H → Run P k (xs ++ ys) H
  | _, [], _, _, b => b
  | k, v :: r, ys, ⟨a, c⟩, b => ⟨a, Run.app c (by rw [List.length_cons] at b; rw [show k + 1 + r.length = k + (r.length + 1) by omega]; exact b)⟩
theorem Run.get {P : Nat → V → Hp → Prop} {H : Hp} : ∀ {k : Nat} {xs : List V} {i : Nat} {v : V}, Run P k xs H → xs[i]? = some v → P (k + i) v H
  | _, [], _, _, _, e => by simp at e
  | _, _ :: _, 0, _, ⟨a, _⟩, e => by simp at e; subst e; exact a
  | k, _ :: r, i + 1, v, ⟨_, b⟩, e => by
    have q := Run.get (i := i) (v := v) b (by simpa using e)
    rw [show k + (i + 1) = k + 1 + i by omega]
    exact q
/-- the row's kinds, and how many -/
def Rows (P : Nat → V → Hp → Prop) (k n : Nat) (xs : List V) (H : Hp) : Prop := Run P k xs H ∧ xs.length = n
theorem Rows.stays {P : Nat → V → Hp → Prop} (st : ∀ k, Stays (P k)) {k n : Nat} : Stays (Rows P k n) := fun _ _ _ s h => ⟨Run.keep st s h.1, h.2⟩
section
variable {σ : L2.St} {H : Hp} {i : Nat} {ta te : TE} {tb tr : TA} {D : Ends} {l p : Addr} {xs ys ws : List V} {tz : TS} {P : Nat → V → Hp → Prop} {k n : Nat} {R : List V → Hp → Prop}
theorem vm_nil : VM tNil σ H (Rows P k 0) := fun Q q => q [] H (Same.refl H) ⟨trivial, rfl⟩
theorem vm_cons (st : ∀ k, Stays (P k)) (h : EM te σ H (P k)) (hr : ∀ H1, Same H H1 → VM tr σ H1 (Rows P (k + 1) n)) : VM (tCons te tr) σ H (Rows P k (n + 1)) := fun Q q =>
  h _ fun v H1 s1 p1 => hr H1 s1 _ fun r H2 s2 ⟨r2, e2⟩ => q (v :: r) H2 (s1.trans s2) ⟨⟨st k v H1 H2 s2 p1, r2⟩, by rw [List.length_cons, e2]⟩
theorem em_lst (h : VA tb σ H ws) (hl : ws.length ≤ 100000) : EM (tLst tb) σ H (fun v H' => ∃ q, v = .ref q ∧ H' q = some (.lst ws)) := fun Q q =>
  h _ ⟨Nat.le_trans hl (by decide), fun a ha => q _ _ (Same.new' ha) ⟨a, rfl, upd_same⟩⟩
theorem q_lstM (st : Stays R) (h : VM tb σ H R) (hl : ∀ vs H', R vs H' → vs.length ≤ 1000) (q : ∀ p vs H', Same H H' → H' p = some (.lst vs) → R vs H' → tz D (σ.set i (some (.ref p))) H') : tSeq (tAsg (tLst tb) (gName i)) tz D σ H :=
  h _ fun vs H1 s1 r1 => ⟨Nat.le_trans (hl vs H1 r1) (by decide), fun a ha => q a vs _ (s1.trans (Same.new' ha)) upd_same (st _ _ _ (Same.new' ha) r1)⟩
theorem l_catM {Q : VK} (st : Stays R) (ha : Val ta σ H (.ref l)) (hl : H l = some (.lst xs)) (h1 : xs.length ≤ 1000) (h : VM tb σ H R) (h2 : ∀ vs H', R vs H' → vs.length ≤ 1000)
    (q : ∀ p vs H', Same H H' → H' p = some (.lst (xs ++ vs)) → R vs H' → Q (.ref p) H') : tOp rCat ta (tLst tb) σ H Q :=
  ha _ (h _ fun vs H1 s1 r1 => ⟨Nat.le_trans (h2 vs H1 r1) (by decide), fun b nb => ⟨l, b, xs, vs, rfl, rfl, (Same.new' nb) _ _ (s1 _ _ hl), upd_same, Nat.le_trans (Nat.add_le_add h1 (h2 vs H1 r1)) (by decide),
    fun p np => q p vs _ (s1.trans ((Same.new' nb).trans (Same.new' np))) upd_same (st _ _ _ ((Same.new' nb).trans (Same.new' np)) r1)⟩⟩)
theorem q_catM (st : Stays R) (ha : Val ta σ H (.ref l)) (hl : H l = some (.lst xs)) (h1 : xs.length ≤ 1000) (h : VM tb σ H R) (h2 : ∀ vs H', R vs H' → vs.length ≤ 1000)
    (q : ∀ p vs H', Same H H' → H' p = some (.lst (xs ++ vs)) → R vs H' → tz D (σ.set i (some (.ref p))) H') : tSeq (tAsg (tOp rCat ta (tLst tb)) (gName i)) tz D σ H :=
  l_catM (Q := fun v H' => gName i v σ H' (tz D)) st ha hl h1 h h2 q
theorem r_catM (st : Stays R) (ha : Val ta σ H (.ref l)) (hl : H l = some (.lst xs)) (h1 : xs.length ≤ 1000) (h : VM tb σ H R) (h2 : ∀ vs H', R vs H' → vs.length ≤ 1000)
    (q : ∀ p vs H', Same H H' → H' p = some (.lst (xs ++ vs)) → R vs H' → D.rt (.ref p) H') : tRet (tOp rCat ta (tLst tb)) D σ H := l_catM (Q := D.rt) st ha hl h1 h h2 q
end
/-! ### walks, what follows stays as it is written -/
section
variable {K : PySem.W.Frag} {σ : L2.St} {H : Hp} {g : TG} {ta : TA} {te : TE} {tb tz : TS} {D : Ends} {a b : Addr} {xs ys : List V}
theorem q_forR1 {n : Nat} (h : VA ta σ H [.int (n : Int)]) (hn : n ≤ 100000) (Pv : Nat → L2.St → Hp → Prop) (h0 : Pv 0 σ H)
    (hs : ∀ i σ H, i < n → Pv i σ H → g (.int (i : Int)) σ H fun σ2 H2 => tb { D with nx := Pv (i + 1), ct := Pv (i + 1), bk := tz D } σ2 H2) (hd : ∀ σ H, Pv n σ H → tz D σ H) : tSeq (tFor (iRng1 ta) g tb) tz D σ H :=
  h _ ⟨(n : Int), rfl, by omega, by omega, for_range (lo := 0) (n := (n : Int).toNat) (D := { D with nx := tz D }) Pv h0 (fun i σ H hi p => by rw [Int.zero_add]; exact hs i σ H (by omega) p) (fun σ H p => hd σ H (by rw [Int.toNat_natCast] at p; exact p))⟩
theorem q_forL (h : Val te σ H (.ref a)) (hx : SqL K H a xs) (Pv : Nat → L2.St → Hp → Prop) (h0 : Pv 0 σ H) (hl : ∀ i σ H, i ≤ xs.length → Pv i σ H → SqL K H a xs)
    (hs : ∀ i x σ H, xs[i]? = some x → Pv i σ H → g x σ H fun σ2 H2 => tb { D with nx := Pv (i + 1), ct := Pv (i + 1), bk := tz D } σ2 H2) (hd : ∀ σ H, Pv xs.length σ H → tz D σ H) : tSeq (tFor (iList K te) g tb) tz D σ H :=
  h _ ⟨a, rfl, ⟨_, hx⟩, for_list (K := K) (a := a) (xs := xs) (D := { D with nx := tz D }) Pv h0 hl hs hd⟩
theorem q_forE (h : VA ta σ H [.ref a]) (hx : SqL K H a xs) (Pv : Nat → L2.St → Hp → Prop) (h0 : Pv 0 σ H) (hq : ∀ i σ H, Pv i σ H → SqL K H a xs)
    (hs : ∀ (i : Nat) (x : V) (T : Addr) (σ : L2.St) (H : Hp), xs[i]? = some x → Pv i σ H → H T = none → g (.ref T) σ (upd H T (.tup [.int (i : Nat), x])) fun σ2 H2 => tb { D with nx := Pv (i + 1), ct := Pv (i + 1), bk := tz D } σ2 H2)
    (hd : ∀ σ H, Pv xs.length σ H → tz D σ H) : tSeq (tFor (iEnum K ta) g tb) tz D σ H :=
  h _ ⟨a, xs, rfl, hx, for_enumL (D := { D with nx := tz D }) Pv h0 hq hs hd⟩
/-- two names from a pair -/
theorem g_two {i j : Nat} {x y : V} {T : Addr} {K' : L2.St → Hp → Prop} (hT : SqT K H T [x, y]) (q : K' ((σ.set i (some x)).set j (some y)) H) : gTup K 2 (gCons (gName i) (gCons (gName j) gNil)) (.ref T) σ H K' :=
  ⟨T, _, rfl, hT, rfl, x, _, rfl, y, _, rfl, rfl, q⟩
end
section
variable {K : PySem.W.Frag} {σ : L2.St} {H : Hp} {t1 te to : TE} {tb : TA} {D : Ends} {l : Addr} {xs : List V} {v x : V} {i : Nat} {R : List V → Hp → Prop}
theorem g_name {K' : L2.St → Hp → Prop} (q : K' (σ.set i (some v)) H) : gName i v σ H K' := q
/-- xs.append(e) -/
theorem s_app (h : Val to σ H (.ref l)) (hl : H l = some (.lst xs)) (he : te σ H fun v H1 => ∃ ys, H1 l = some (.lst ys) ∧ ys.length ≤ 1000 ∧ D.nx σ (upd H1 l (.lst (ys ++ [v])))) (mono : ∀ {R S : VK}, (∀ v H', R v H' → S v H') → te σ H R → te σ H S) :
    tDrop (tBM K "list" rAppend to (tCons te tNil)) D σ H :=
  h _ ⟨.inl ⟨rfl, _, SqL.of hl⟩, mono (fun v H1 ⟨ys, h1, h2, q⟩ => ⟨l, ys, v, rfl, rfl, h1, Nat.lt_of_le_of_lt h2 (by decide), q⟩) he⟩
theorem s_appC (h : Val to σ H (.ref l)) (hl : H l = some (.lst xs)) (he : te σ H fun v H1 => rAppend (.ref l) [v] H1 fun _ H2 => D.nx σ H2) : tDrop (tBM K "list" rAppend to (tCons te tNil)) D σ H := h _ ⟨.inl ⟨rfl, _, SqL.of hl⟩, he⟩
/-- f(x, [e, ..]) -/
theorem c_callL {sp : Sp} {E : XK} {Q : VK} (h1 : Val t1 σ H x) (st : Stays R) (h2 : VM tb σ H R) (hl : ∀ vs H', R vs H' → vs.length ≤ 1000) (q : ∀ l vs H', Same H H' → H' l = some (.lst vs) → R vs H' → sp [x, .ref l] H' Q E) :
    tCall sp [] E (tCons t1 (tCons (tLst tb) tNil)) σ H Q :=
  h1 _ (h2 _ fun vs H1 s1 r1 => ⟨Nat.le_trans (hl vs H1 r1) (by decide), fun a ha => q a vs _ (s1.trans (Same.new' ha)) upd_same (st _ _ _ (Same.new' ha) r1)⟩)
theorem v_neg {n : Int} (h : Val te σ H (.int n)) : Val (tUn (rU fun i => .int (-i)) te) σ H (.int (-n)) := fun Q q => h _ ⟨n, rfl, q⟩
theorem v_str {n : Int} (h : Val te σ H (.int n)) (hz : n.natAbs.log2 < 1920) : Val (tCB (fun xs H Q => ∃ i, xs = [.int i] ∧ i.natAbs.log2 < 1920 ∧ Q (.str (toString i)) H) (tCons te tNil)) σ H (.str (toString n)) := fun Q q => h _ ⟨n, rfl, hz, q⟩
theorem v_cats {a b : Str} (h1 : Val t1 σ H (.str a)) (h2 : Val te σ H (.str b)) (hz : a.length + b.length ≤ 100000) : Val (tOp (fun x y H Q => ∃ i j, x = .str i ∧ y = .str j ∧ i.length + j.length ≤ sizeLine ∧ Q (.str (i ++ j)) H) t1 te) σ H (.str (a ++ b)) :=
  fun Q q => h1 _ (h2 _ ⟨a, b, rfl, rfl, Nat.le_trans hz (by decide), q⟩)
theorem em_tup {ws : List V} {P : V → Hp → Prop} (h : VA tb σ H ws) (hl : ws.length ≤ 100000) (q : ∀ a H', H' a = some (.tup ws) → P (.ref a) H') : EM (tTup tb) σ H P := fun Q k => l_tup h hl fun a ha => k _ _ (Same.new' ha) (q a _ upd_same)
theorem em_lst' {ws : List V} {P : V → Hp → Prop} (h : VA tb σ H ws) (hl : ws.length ≤ 100000) (q : ∀ a H', H' a = some (.lst ws) → P (.ref a) H') : EM (tLst tb) σ H P := fun Q k => l_lst h hl fun a ha => k _ _ (Same.new' ha) (q a _ upd_same)
/-- {k: e} -/
theorem em_dic1 {key : Key} {P : V → Hp → Prop} (h : ∀ H1, Val te σ H1 v) (q : ∀ a H', H' a = some (.dK [(key, v)]) → P (.ref a) H') : EM (tDisp [(tC (kV key), te)]) σ H P := fun Q k a ha =>
  h _ _ ⟨upd_same, [(key, v)], rfl, by show 1 ≤ 15; decide, k _ _ (by
    have e : mergeK [] [(key, v)] = [(key, v)] := rfl
    rw [e, upd_upd]
    exact Same.new' ha) (q a _ upd_same)⟩
end
section
variable {K : PySem.W.Frag} {σ : L2.St} {H : Hp} {t1 t2 te to : TE} {ta tb : TA} {tu tw tz : TS} {D : Ends} {a b l : Addr} {xs ys : List V} {x y v w : V} {i j : Nat} {r : R2} {Q : VK}
theorem q_lst0 (h : VA tb σ H ys) (hl : ys.length ≤ 100000) (q : ∀ p, H p = none → tz D (σ.set i (some (.ref p))) (upd H p (.lst ys))) : tSeq (tAsg (tLst tb) (gName i)) tz D σ H := h _ ⟨Nat.le_trans hl (by decide), q⟩
theorem Val.is (h : Val te σ H v) (e : v = w) : Val te σ H w := e ▸ h
/-- an if over a comparison, part by part -/
theorem st_cmp (h : t1 σ H fun x H1 => t2 σ H1 fun y H2 => r x y H2 fun z H3 => ∃ b, z = .bl b ∧ if b = true then tu D σ H3 else tw D σ H3) : tIfS (tTest (tOp r t1 t2)) tu tw D σ H := h
theorem q_cmp (h : t1 σ H fun x H1 => t2 σ H1 fun y H2 => r x y H2 fun z H3 => ∃ b, z = .bl b ∧ if b = true then tu { D with nx := tz D } σ H3 else tw { D with nx := tz D } σ H3) : tSeq (tIfS (tTest (tOp r t1 t2)) tu tw) tz D σ H := h
theorem ta_two {Q : List V → Hp → Prop} (h : t1 σ H fun v H1 => t2 σ H1 fun w H2 => Q [v, w] H2) : tCons t1 (tCons t2 tNil) σ H Q := h
theorem cb_one {r : List V → Hp → VK → Prop} (h : te σ H fun v H1 => r [v] H1 Q) : tCB r (tCons te tNil) σ H Q := h
theorem l_slHi (h : Val te σ H (.ref a)) (hx : SqL K H a xs) {n : Int} (hi : Val t1 σ H (.int n)) (q : ∀ p H', Same H H' → H' p = some (.lst (cutV xs none (some n))) → Q (.ref p) H') : tSl (rSlL K) te tNoPart (tPart t1) σ H Q :=
  h _ (hi _ ⟨n, rfl, a, xs, rfl, hx, fun p hp => q p _ (Same.new' hp) upd_same⟩)
theorem v_eq (h1 : Val t1 σ H x) (h2 : Val t2 σ H y) (hs : scal x y = true) : Val (tOp rEq t1 t2) σ H (.bl (decide (x = y))) := val_op h1 h2 fun Q q => ⟨hs, q⟩
/-- [e for x in range(n)] -/
theorem l_lcR1 {n : Nat} {vs : List Nat} (h : VA ta σ H [.int (n : Int)]) (hn : n ≤ 10000) (f : Nat → V) (hw : ∀ x, wipe ((wipe σ vs).set j (some x)) vs = wipe σ vs)
    (hv : ∀ i H1, i < n → Same H H1 → Val te ((wipe σ vs).set j (some (.int (i : Int)))) H1 (f i)) (q : ∀ p H', Same H H' → H' p = some (.lst ((List.range n).map f)) → Q (.ref p) H') : tLc (iRng1 ta) (gName j) tYes te vs σ H Q := by
  refine h _ ⟨(n : Int), rfl, by omega, by omega, fun D hD => lc_range (lo := 0) (n := (n : Int).toNat) (fun i H' => Same H H' ∧ H' D = some (.lst ((List.range i).map f)) ∧ H D = none) ⟨Same.new' hD, upd_same, hD⟩ (fun i H1 hi ⟨s, e, nD⟩ => ?_) (fun H1 ⟨s, e, _⟩ => q D H1 s (by rw [Int.toNat_natCast] at e; exact e))⟩
  refine g_name ⟨hw _, ?_⟩
  show (if true = true then te _ _ _ else (Same H H1 ∧ H1 D = some (.lst ((List.range (i + 1)).map f)) ∧ H D = none))
  rw [if_pos rfl]
  have hv0 : Val te ((wipe σ vs).set j (some (.int (0 + (i : Int))))) H1 (f i) := by
    rw [Int.zero_add]
    exact hv i H1 (by omega) s
  refine hv0 _ ⟨_, e, by rw [List.length_map, List.length_range]; exact Nat.lt_of_lt_of_le (show i < 10000 by omega) (by decide), ?_, ?_, nD⟩
  · intro b o z
    rw [upd_ne (ne_of_none z nD)]
    exact s b o z
  · rw [upd_same, List.range_succ, List.map_append]
    rfl
/-- for a, b in zip(xs, ys) -/
theorem q_forZ {g : TG} (h : ta σ H fun vs H1 => ∃ a b xs ys, vs = [.ref a, .ref b] ∧ SqL K H1 a xs ∧ SqL K H1 b ys ∧ xs.length = ys.length ∧ ∃ Pv : Nat → L2.St → Hp → Prop, Pv 0 σ H1 ∧ (∀ i σ H, Pv i σ H → SqL K H a xs ∧ SqL K H b ys) ∧
      (∀ (i : Nat) (x y : V) (T : Addr) (σ : L2.St) (H : Hp), xs[i]? = some x → ys[i]? = some y → Pv i σ H → H T = none → g (.ref T) σ (upd H T (.tup [x, y])) fun σ2 H2 => tu { D with nx := Pv (i + 1), ct := Pv (i + 1), bk := tz D } σ2 H2) ∧ ∀ σ H, Pv xs.length σ H → tz D σ H)
    (mono : ∀ {R S : List V → Hp → Prop}, (∀ v H', R v H' → S v H') → ta σ H R → ta σ H S) : tSeq (tFor (iZip K ta) g tu) tz D σ H :=
  mono (fun vs H1 ⟨a, b, xs, ys, e, h1, h2, hl, Pv, p0, hq, hs, hd⟩ => ⟨a, b, xs, ys, e, h1, h2, RZ.for_zipL (D := { D with nx := tz D }) hl Pv p0 hq hs hd⟩) h
theorem zipW {g : TG} (hl : xs.length = ys.length) (Pv : Nat → L2.St → Hp → Prop) (p0 : Pv 0 σ H) (hq : ∀ i σ H, Pv i σ H → SqL K H a xs ∧ SqL K H b ys)
    (hs : ∀ (i : Nat) (x y : V) (T : Addr) (σ : L2.St) (H : Hp), xs[i]? = some x → ys[i]? = some y → Pv i σ H → H T = none → g (.ref T) σ (upd H T (.tup [x, y])) fun σ2 H2 => tu { D with nx := Pv (i + 1), ct := Pv (i + 1), bk := tz D } σ2 H2) (hd : ∀ σ H, Pv xs.length σ H → tz D σ H) :
    ∃ W : Nat → Nat → L2.St → Hp → Prop, (∃ m, W 0 m σ H) ∧ ∀ i m σ H, W i m σ H →
      ((Itz K a b).stop i H ∧ tz D σ H) ∨ ((Itz K a b).go i H ∧ ∃ N : L2.St → Hp → Prop, (∀ σ' H', N σ' H' → ∃ m', m' < m ∧ W (i + 1) m' σ' H') ∧ ∀ v H', (Itz K a b).yld i H v H' → g v σ H' fun σ2 H2 => tu { D with nx := N, ct := N, bk := tz D } σ2 H2) :=
  RZ.for_zipL (D := { D with nx := tz D }) hl Pv p0 hq hs hd
/-- .. where the row of both is known -/
theorem q_forZ' {g : TG} (h : ta σ H fun vs H1 => ∃ a b xs ys, vs = [.ref a, .ref b] ∧ SqL K H1 a xs ∧ SqL K H1 b ys ∧ ∃ W : Nat → Nat → L2.St → Hp → Prop, (∃ m, W 0 m σ H1) ∧ ∀ i m σ H, W i m σ H →
      ((Itz K a b).stop i H ∧ tz D σ H) ∨ ((Itz K a b).go i H ∧ ∃ N : L2.St → Hp → Prop, (∀ σ' H', N σ' H' → ∃ m', m' < m ∧ W (i + 1) m' σ' H') ∧ ∀ v H', (Itz K a b).yld i H v H' → g v σ H' fun σ2 H2 => tu { D with nx := N, ct := N, bk := tz D } σ2 H2)) : tSeq (tFor (iZip K ta) g tu) tz D σ H := h
end
/-! ### what the top has written, by names -/
@[irreducible] def fA (mg : Str → Option Value) (x : Str) : Addr := match mg x with
  | some (.ref a) => a
  | _ => 0
@[irreducible] def fDat (K : PySem.W.Frag) (f : Addr) : FuncData := match K.lookup f with
  | some ⟨_, _, .func fd, _⟩ => fd
  | _ => default
/-- the def x of the text -/
structure Df (K : PySem.W.Frag) (mg : Str → Option Value) (x : Str) (st : Stmt) (ps : List Str) : Prop where
  g : mg x = some (.ref (fA mg x))
  F : Fun K x x st (fA mg x) (fDat K (fA mg x))
  b : Binds K (fDat K (fA mg x)) ps []
theorem fA_of {mg : Str → Option Value} {x : Str} {a : Addr} (h : mg x = some (.ref a)) : fA mg x = a := by
  unfold fA
  rw [h]
theorem fDat_of {K : PySem.W.Frag} {f : Addr} {oc : Value} {od : Option Addr} {fd : FuncData} {sl : Array (Option Value)} (h : K.lookup f = some ⟨oc, od, .func fd, sl⟩) : fDat K f = fd := by
  unfold fDat
  rw [h]
theorem Df.mk' {K : PySem.W.Frag} {mg : Str → Option Value} {x : Str} {st : Stmt} {ps : List Str} {h : Heap} {f : Addr} {oc : Value} {od an : Option Addr} {osl : Array (Option Value)} {kV doc pm cdv ct : Value} (X : K.In h) (G : h.Ns mainGlobals mg)
    (a : PySem.W.nsIn K mainGlobals x = some (some (.ref f))) (l : K.lookup f = some ⟨oc, od, .func (PySem.W.fnOf x x (defArgs st) (defBody st) (defScope st) .none kV doc pm an cdv ct), osl⟩)
    (c : PySem.W.codeIn K cdv x = true) (k : PySem.W.keepIn K (.ref f) = true)
    (bi : ∀ (kV doc pm : Value) (an : Option Addr) (cdv ct : Value) (us : List Value), us.length = ps.length → bindArgs (PySem.W.fnOf x x (defArgs st) (defBody st) (defScope st) .none kV doc pm an cdv ct) ⟨us, []⟩ = pure (ps.zip us)) : Df K mg x st ps := by
  have e := PySem.W.mg_of X G a
  have F := fun_mk (st := st) l c k
  have e1 := fA_of e
  have e2 := fDat_of l
  refine ⟨by rw [e1]; exact e, ?_, ?_⟩
  · rw [e1, e2]; exact F
  · rw [e1, e2]; exact F.binds bi
/-- the law's own argument -/
theorem bind_one {x : Str} {st : Stmt} {p : Str} {kV doc pm cdv ct : Value} {an : Option Addr} (h : ∀ u : Value, bindArgs (PySem.W.fnOf x x (defArgs st) (defBody st) (defScope st) .none kV doc pm an cdv ct) ⟨[u], []⟩ = pure [(p, u)]) (s : Shared) (u : Value) :
    BindsTo s (PySem.W.fnOf x x (defArgs st) (defBody st) (defScope st) .none kV doc pm an cdv ct) ⟨[u], []⟩ [(p, u)] := .of_eq (h u)
section
variable {X : Cx} {k : Nat} {x : Str} {st : Stmt} {ps : List Str} {sp : Sp} {p pos : Pos} {e : Expr} {es : List Expr} {t : TA}
/-- a call of the def x -/
theorem pe_c (d : Df X.K X.mg x st ps) (G : FnOk X.prog X.w X.K X.mg X.base CX0 k (fA X.mg x) (fDat X.K (fA X.mg x)) ps sp) (hr : Room k X.A) (ha : PA X (e :: es) t) (hg : Gl X x := by rfl) (hdb : (x == ("__debug__" : Str)) = false := by decide)
    (he : starEach (e :: es) X.env = (false, eval e X.env) :: starEach es X.env := by rfl) (hpl : (backTo pos (starEach es X.env)).any (·.1) = false := by rfl) : PE X (.Call (.Name x p) (e :: es) [] pos) (tCall sp [] E0 t) :=
  pe_call G hr hg d.g d.F.kp d.b .nil pass0 ha hdb he hpl
theorem pe_cG (d : Df X.K X.mg x st ps) (G : OkG X.prog X.w X.K X.mg X.base CX0 k (fA X.mg x) (fDat X.K (fA X.mg x)) ps sp) (hr : Room k X.A) (hq : Quiet X.A) (ha : PA X (e :: es) t) (hg : Gl X x := by rfl) (hdb : (x == ("__debug__" : Str)) = false := by decide)
    (he : starEach (e :: es) X.env = (false, eval e X.env) :: starEach es X.env := by rfl) (hpl : (backTo pos (starEach es X.env)).any (·.1) = false := by rfl) : PE X (.Call (.Name x p) (e :: es) [] pos) (tCall sp [] E0 t) :=
  pe_callG G hr hq hg d.g d.F.kp d.b .nil pass0 ha hdb he hpl
/-- a class's name as a value -/
theorem pe_cls {C : Addr} (hm : X.mg x = some (.ref C)) (hg : Gl X x := by rfl) (hd : (x == ("__debug__" : Str)) = false := by decide) : PE X (.Name x pos) (tC (.ref C)) := pe_glob hg hm rfl hd
end
theorem hu64 {A : Around} {k : Nat} (hr : Room k A) : A.units + 64 < cLine := hr.units

/-! ### the law's end, where nothing is being shown -/
section
variable {P : Program} {w : World} {K : PySem.W.Frag} {mg mb : Str → Option Value} {k : Nat} {fa a : Addr} {fd : FuncData} {x : Str} {sp : Sp} {s₁ : Shared} {vs : List Value} {ns : List Int}
/-- what the law's call must do -/
abbrev Law (P : Program) (w : World) (fa a : Addr) (s₁ : Shared) : Prop :=
  codeAny (model P w) callerA (.call (.ref fa) ⟨[.ref a], []⟩) (fun r s' => r = .ok (.ret (.bool true)) ∧ OldK s₁.heap s'.heap ∧ s'.os = s₁.os ∧ AllBare s'.gens) s₁
/-- from one abstract heap that knows the script at most -/
theorem law_from (KX : K.In s₁.heap) (hns : s₁.heap.Ns mainGlobals mg) (hb : s₁.heap.Ns builtinsNs mb) (hbb : ∀ x : Str, x ≠ "__name__" → mb x = bootBuiltins x) (hlim : s₁.heap.NoLimit) (hg : s₁.gens = #[])
    (ha : s₁.heap.get? a = some { cls := .type "list", data := .seq vs.toArray }) (hr : Room k callerA)
    (F : ∀ base : Heap, K.In base → base.Ns mainGlobals mg → OkG P w K mg base CX0 k fa fd [x] sp) (hbind : ∀ (s : Shared) (u : Value), BindsTo s fd ⟨[u], []⟩ [(x, u)])
    {H : Hp} (hO : Only H) (hsp : sp [.ref a] H (fun v _ => v = .bl true) fun _ _ _ => False) (hok : HOk P w H s₁.heap) (hA : ∀ b, H b ≠ none → b = a) (hK : H a ≠ none → K.lookup a = none) : Law P w fa a s₁ := by
  have off : ∀ {b : Addr}, b ≠ a → H b = none := fun {b} nb => Decidable.byContradiction fun z => nb (hA b z)
  have kOff : ∀ {b : Addr} {o : Obj}, K.lookup b = some o → H b = none := fun {b o} e => Decidable.byContradiction fun z => by
    have q := hA b z
    subst q
    rw [hK z] at e
    cases e
  have dOff : ∀ {b : Addr} {o : Obj} {es : Array DictEntry} {ep : Nat}, s₁.heap.get? b = some o → o.data = .dict es ep → H b = none := fun {b o es ep} e d => by
    by_cases q : b = a
    · subst q
      rw [ha] at e
      cases e
      cases d
    · exact off q
  have ns' : ∀ {b : Addr} {m : Str → Option Value}, s₁.heap.Ns b m → (hidT s₁.heap H).Ns b m := fun {b m} z => by
    obtain ⟨o, es, ep, e, d, r⟩ := z
    exact ⟨o, es, ep, hidT_get e (dOff e d), d, r⟩
  have kIn' : K.In (hidT s₁.heap H) := fun b o e => hidT_get (KX b o e) (kOff e)
  obtain ⟨mc, l1, l2⟩ := hlim
  have e0 : Env0 P w K mg (hidT s₁.heap H) callerA [] s₁ H := ⟨rfl, ⟨kIn', ns' hns, ⟨mb, ns' hb, hbb⟩, ⟨mc, ns' l1, l2⟩⟩, fun b o e => of_hidT e, Nat.le_of_eq (hidT_size _ _), trivial, (fun b z => nomatch z), hok, .of_eq hg⟩
  have run := (F _ kIn' (ns' hns)).run callerA [] s₁ H ⟨[.ref a], []⟩ [.ref a] [.ref a] _ _ hr rfl e0 (hbind s₁ (.ref a)) (.cons rfl .nil) hsp
  refine codeAny_mono run fun r s' z => ?_
  cases r with
  | error e => exact z.elim
  | ok fl => cases fl with
    | next => exact z.elim
    | brk => exact z.elim
    | cont => exact z.elim
    | ret u =>
      obtain ⟨v, H', os, bare, un, hok', rv, ev⟩ := z
      have ev' : v = .bl true := ev
      subst ev'
      cases (show u = Value.bool true from rv)
      refine ⟨rfl, OldK.of_keep fun b o e => ?_, os, bare⟩
      rcases hO b with q | ⟨ob, xs, q⟩
      · exact un.keep b o e q (fun z => nomatch z) (fun z => nomatch z)
      · obtain ⟨e1, _⟩ := hok b _ q
        obtain ⟨e2, _⟩ := hok' b _ (un.frzs b ob _ q)
        rw [e] at e1
        cases e1
        exact e2
theorem law_callG (KX : K.In s₁.heap) (hns : s₁.heap.Ns mainGlobals mg) (hb : s₁.heap.Ns builtinsNs mb) (hbb : ∀ x : Str, x ≠ "__name__" → mb x = bootBuiltins x) (hlim : s₁.heap.NoLimit) (hg : s₁.gens = #[])
    (ha : s₁.heap.get? a = some { cls := .type "list", data := .seq vs.toArray }) (hi : IntsAre vs ns) (hl : ns.length ≤ sizeLine) (hr : Room k callerA)
    (F : ∀ base : Heap, K.In base → base.Ns mainGlobals mg → OkG P w K mg base CX0 k fa fd [x] sp) (hbind : ∀ (s : Shared) (u : Value), BindsTo s fd ⟨[u], []⟩ [(x, u)])
    (hsp : ∀ H : Hp, Only H → SqL K H a (ns.map V.int) → sp [.ref a] H (fun v _ => v = .bl true) fun _ _ _ => False) : Law P w fa a s₁ := by
  have rv := vals_ints hi
  cases hk : K.lookup a with
  | some o =>
    have e := KX a o hk
    rw [ha] at e
    cases e
    have hS : SqL K (fun _ => none) a (ns.map V.int) := .inr ⟨_, vs.toArray, _, hk, rfl, rfl, rfl, by rw [List.size_toArray, hi.length]; exact hl, by simpa using rv⟩
    exact law_from KX hns hb hbb hlim hg ha hr F hbind (H := fun _ => none) (fun _ => .inl rfl) (hsp _ (fun _ => .inl rfl) hS) (fun b u z => nomatch z) (fun b z => (z rfl).elim) (fun z => (z rfl).elim)
  | none =>
    have h0 : ∀ b, b ≠ a → upd (fun _ => none) a (.frz { cls := .type "list", data := .seq vs.toArray } (.lst (ns.map V.int))) b = none := fun b z => upd_ne z
    have hO : Only (upd (fun _ => none) a (.frz { cls := .type "list", data := .seq vs.toArray } (.lst (ns.map V.int)))) := fun b => by
      by_cases q : b = a
      · rw [q]; exact .inr ⟨_, _, upd_same⟩
      · exact .inl (h0 b q)
    refine law_from KX hns hb hbb hlim hg ha hr F hbind hO (hsp _ hO (.inl (.inr ⟨_, upd_same⟩))) (fun b u z => ?_) (fun b z => ?_) (fun _ => hk)
    · by_cases q : b = a
      · subst q
        rw [upd_same] at z
        cases z
        exact ⟨ha, by rw [List.length_map]; exact hl, vs, _, rv, ha⟩
      · rw [h0 b q] at z
        cases z
    · by_cases q : b = a
      · exact q
      · exact (z (h0 b q)).elim
end
/-- the law's row, from its def's promise -/
theorem walk_G {l : PySem.W.OpenLaw} {n k : Nat} {q : Program} {loose : List Str} {XP : (Str → Option Value) → Heap → Prop} {YP : World → Heap → Prop} {d : DefRec} {K : Params → PySem.W.Frag} {sp : PySem.W.Frag → Sp} {x : Str}
    (hn : l.most = some n) (hn2 : n ≤ sizeLine) (hdf : d.params.defaults = []) (hr : Room k callerA) (hY : ∀ (w : World) (h : Heap), YP w h → (K w.params).In h)
    (F : ∀ (w : World) (mg : Str → Option Value) (fa : Addr) (h : Heap), (K w.params).In h → h.Ns mainGlobals mg → mg d.name = some (.ref fa) →
      ∃ fd : FuncData, (∀ (s : Shared) (u : Value), BindsTo s fd ⟨[u], []⟩ [(x, u)]) ∧ ∀ base : Heap, (K w.params).In base → base.Ns mainGlobals mg → OkG l.prog w (K w.params) mg base CX0 k fa fd [x] (sp (K w.params)))
    (hsp : ∀ (K : PySem.W.Frag) (H : Hp) (a : Addr) (ns : List Int), ns.length ≤ n → Only H → SqL K H a (ns.map V.int) → sp K [.ref a] H (fun v _ => v = .bl true) fun _ _ _ => False) :
    PySem.W.WalkO q loose XP YP l.row.toRowW d [] (fun f vs => PySem.call f vs) := by
  refine Att.attach_call hn hdf fun w s₀ s₁ mg mb fa o pm cd doc a vs ns G Y ho hd hcd hmg hobj hints hlen hg => ?_
  have KX := hY w _ Y
  obtain ⟨fd, hb, hF⟩ := F w mg fa _ KX G.T.g hmg
  exact law_callG KX G.T.g G.T.b G.T.builtins G.T.nolimit hg hobj hints (Nat.le_trans hlen hn2) hr hF hb fun H hO hS => hsp _ H a ns hlen hO hS
end GL

/-! Exceptions of the program's own as values: made, asked for their class, their fields read. -/
namespace GL
open PySem PySem.Spec PyProof.Rows L2

/-- an exception of the class at C stands at a, with these fields (none: it has no dict of its own) -/
inductive IsEx (H : Hp) (a C : Addr) : List (Str × V) → Prop
  | bare (e : H a = some (ExO (.ref C) a)) : IsEx H a C []
  | full {dx : Addr} {fs : List (Str × V)} (e : H a = some (exo a C (some dx))) (ed : H dx = some (exd dx fs)) : IsEx H a C fs
theorem IsEx.keep {H H' : Hp} {a C : Addr} {fs : List (Str × V)} (x : IsEx H a C fs) (s : Same H H') : IsEx H' a C fs := by
  cases x with
  | bare e => exact .bare (s _ _ e)
  | full e ed => exact .full (s _ _ e) (s _ _ ed)
section
variable {X : Cx} {pins : List (Addr × Obj)} {σ : L2.St} {H : Hp} {s : Shared} {a C : Addr} {fs : List (Str × V)}
theorem IsEx.inst (I : Inv X pins σ H s) (x : IsEx H a C fs) : ∃ ox od, PySem.W.InstAt s.heap a ox C od := by
  cases x with
  | bare e =>
    have y : ObjOk X.prog X.w H s.heap a (ExO (.ref C) a) := I.hok a _ e
    obtain ⟨⟨oe, vs, h1, ⟨z1, z2⟩, h2, _⟩, _⟩ := y
    refine ⟨oe, none, h1, z1, ?_, ?_⟩
    · unfold PySem.W.notCls; rw [h2] <;> rfl
    · rw [z2]; trivial
  | full e ed =>
    obtain ⟨t1, h1⟩ := exo_at I.hok e
    obtain ⟨mA, hns, _⟩ := exd_at I.hok ed
    obtain ⟨o, es, ep, ho, _⟩ := hns
    exact ⟨_, some o, h1, rfl, rfl, ho⟩

/-! ### isinstance -/
def rIsX (K : PySem.W.Frag) : List V → Hp → VK → Prop := fun xs H Q => ∃ (a C : Addr) (fs : List (Str × V)) (c : V) (cv : Value) (b : Bool), xs = [.ref a, c] ∧ IsEx H a C fs ∧ ExcC K C ∧ (∀ u, RelV c u → u = cv) ∧
  PySem.W.kitOne K (.ref C) cv = some b ∧ Q (.bl b) H
theorem call_isX : CallR X (.builtin "isinstance") (rIsX X.K) := by
  intro pins s σ H xs us Q I r h
  obtain ⟨a, C, fs, c, cv, b, rfl, hx, T, hcv, e, q⟩ := h
  obtain ⟨ox, od, J⟩ := hx.inst I
  cases r with
  | cons ra r1 => cases r1 with
    | cons rc r2 =>
      cases r2
      cases ra
      have ec := hcv _ rc
      subst ec
      have cl : (PySem.W.clsIn X.K C).isSome = true := by
        obtain ⟨cd, h1, _⟩ := PySem.W.any_some T.hd
        rw [h1] <;> rfl
      exact PySem.W.kia_one (PySem.W.kitx_exc cl T.hg T.hk T.hs T.ha T.hn T.ht T.hm) I.kIn J e (fun z => nomatch z) fun tk => ⟨.bl b, H, I.kept (t' := tk) fun _ _ z => z, rfl, q⟩

/-! ### a field -/
def tFldX (K : PySem.W.Frag) (f : Str) (te : TE) : TE := fun σ H Q => te σ H fun x H1 => ∃ (a C dx : Addr) (fs : List (Str × V)) (v : V), x = .ref a ∧ H1 a = some (exo a C (some dx)) ∧ H1 dx = some (exd dx fs) ∧ ExcC K C ∧
  PySem.W.findIn K (.ref C) f = some none ∧ fs.lookup f = some v ∧ Q v H1
theorem pe_fldX {e : Expr} {te : TE} {f : Str} {pos : Pos} (he : PE X e te) (hb : attributeBase e f X.env (eval e X.env) = eval e X.env := by rfl) : PE X (.Attribute e f pos) (tFldX X.K f te) := by
  refine ⟨fun pins s σ H Q I h => attr_of hb (thn (he.run pins s σ H _ I h) fun u s1 hh => ?_)⟩
  obtain ⟨x, H1, I1, rx, a, C, dx, fs, v, ex, ea, ed, T, hno, l, q⟩ := hh
  subst ex
  obtain rfl : u = Value.ref a := rx
  obtain ⟨t1, h1⟩ := exo_at I1.hok ea
  obtain ⟨mA, hns, rel⟩ := exd_at I1.hok ed
  obtain ⟨od, ho, hl⟩ := lookIn_ns hns
  obtain ⟨u, hu, ru⟩ := RelO.some_of (v := v) (o := mA f) (by rw [← l]; exact rel f)
  have J : PySem.W.InstAt s1.heap a _ C (some od) := ⟨h1, rfl, rfl, ho⟩
  exact HandSPX.exc_get I1.kIn J T.hg T.hk T.hs (PySem.W.findObj_own T.hd hno rfl (by rw [hl, hu])) (handed_of ru) ⟨v, H1, I1.tok _, ru, q⟩

/-! ### made: by an __init__ of its own, by none -/
def tExV (C : Addr) (sp : Sp) (ta : TA) : TE := fun σ H Q => ta σ H fun vs H1 => vs.length ≤ 1000 ∧ ∀ a, H1 a = none → sp (.ref a :: vs) (upd H1 a (exo a C none)) (fun v H2 => v = .non ∧ Q (.ref a) H2) (fun _ _ _ => False)
theorem pe_exV {x : Str} {C fI : Addr} {k : Nat} {fd : FuncData} {ps : List Str} {sp : Sp} {p pos : Pos} {e : Expr} {es : List Expr} {ta : TA} (T : OexC X.K C) (iC : PySem.W.findIn X.K (.ref C) "__init__" = some (some (.ref fI)))
    (tI : PySem.W.typeIn X.K (.ref fI) = some (.type "function")) (F1 : FnOk X.prog X.w X.K X.mg X.base CX0 k fI fd ps sp) (hr : Room (k + 1) X.A) (hb : Binds X.K fd ps []) (hg : Gl X x) (hm : X.mg x = some (.ref C)) (ha : PA X (e :: es) ta)
    (hdb : (x == ("__debug__" : Str)) = false := by decide) (he : starEach (e :: es) X.env = (false, eval e X.env) :: starEach es X.env := by rfl) (hpl : (backTo pos (starEach es X.env)).any (·.1) = false := by rfl) :
    PE X (.Call (.Name x p) (e :: es) [] pos) (tExV C sp ta) := by
  refine ⟨fun pins s σ H Q I h => wpAny_Call_Name_kw (ld_glob I hg hm ?_ hdb)⟩
  obtain ⟨nm, q, N, bs, bm, sn, sub, ab, col, dd, k0, k1, k2, k3, k5, hC, hbm⟩ := T.cls
  refine PySem.W.callWith_K (h₀ := X.base) I.ok.mod.kin T.kC (thn (ha.run pos pins s σ H _ I h) fun us s1 ⟨vs, H1, I1, r1, hz, q1⟩ => ⟨I1.kIn, ?_⟩) he hpl
  obtain ⟨hp, g, dr, tk, os⟩ := s1
  show wpAny _ _ (call (.ref C) us) _ _ _
  have le1 : hp.objs.size ≤ hp.objs.size + 1 := Nat.le_succ _
  have q2 := q1 (hp.objs.size + 1) (I1.hok.fresh le1)
  have grown : ∀ b o, hp.get? b = some o → ((hp.push (PySem.W.kdv_tup us)).push (PySem.HandSPX.excO C hp.objs.size)).get? b = some o := fun b o e => Heap.get?_push_of_some _ (Heap.get?_push_of_some _ e)
  have there : ((hp.push (PySem.W.kdv_tup us)).push (PySem.HandSPX.excO C hp.objs.size)).get? (hp.objs.size + 1) = some (PySem.HandSPX.excO C hp.objs.size) := by heap_get
  have I2 : Inv X pins σ (upd H1 (hp.objs.size + 1) (exo (hp.objs.size + 1) C none)) ⟨(hp.push (PySem.W.kdv_tup us)).push (PySem.HandSPX.excO C hp.objs.size), g, dr, tk, os⟩ := I1.laid (t' := tk) grown le1 (exo_ok there)
  have r2 : Vals (V.ref (hp.objs.size + 1) :: vs) (Value.ref (hp.objs.size + 1) :: us) := .cons rfl r1
  have hl : (Value.ref (hp.objs.size + 1) :: us ++ []).length = ps.length := by
    rw [List.append_nil, ← r2.length]
    exact F1.len _ _ _ _ q2
  have bb := hb _ (Value.ref (hp.objs.size + 1) :: us) I2.kIn hl
  rw [List.append_nil] at bb
  have hus : us.length ≤ sizeLine := by
    rw [← r1.length, sizeLine_eq]
    omega
  refine wpAny_call (PySem.HandSPX.call_own F.excBase_ValueError (fun Y => PySem.HandSPX.refsVE_contains Y bm hbm) (I1.kIn _ _ hC) (PySem.W.looks_findIn I1.kIn iC) (fun self => PySem.W.bind_fn I1.kIn self tI) hus
    (codeAny_mono (F1.run _ X.stack _ _ _ _ _ _ _ (hr.make C us []) (I2.env0.make C us []) bb r2 q2) fun r s' z => ?_))
  cases r with
  | error er => exact z.elim
  | ok fl => cases fl with
    | ret u =>
      obtain ⟨v, H', I3, rv, ev, q3⟩ := I2.after z
      subst ev
      exact ⟨rv, ⟨V.ref (hp.objs.size + 1), H', I3, rfl, q3⟩⟩
    | next => exact z.elim
    | brk => exact z.elim
    | cont => exact z.elim
theorem pe_exV0 {C : Addr} {bmB : List Value} {B newId initId : String} {x : Str} {p pos : Pos} (F : ExcBaseFacts B newId initId bmB) (q : PySem.W.excIn X.K C bmB newId = true) (gC : X.mg x = some (.ref C)) (kC : PySem.W.keepIn X.K (.ref C) = true) (hg : Gl X x)
    (hdb : (x == ("__debug__" : Str)) = false := by decide) : PE X (.Call (.Name x p) [] [] pos) (fun σ H Q => ∀ a, H a = none → Q (.ref a) (upd H a (ExO (.ref C) a))) := by
  refine ⟨fun pins s σ H Q I h => wpAny_Call_Name_kw (ld_glob I hg gC (PySem.W.callWith_K0 I.kIn kC ?_) hdb)⟩
  obtain ⟨bm, N, nm, qn, bs, hdct, sn, sub, ab, col, dd, k0, k1, k2, k3, k5, mN, hC, hN, hni, T⟩ := exc_obj I.kIn q
  refine wpAny_call_exc_subT F T hC hN hni (fun h' a hm => ?_) (by show 0 ≤ sizeLine; rw [sizeLine_eq]; omega)
  have hn : H a = none := I.hok.gone hm.new
  obtain ⟨t, ht, _, _⟩ := hm.there
  exact ⟨.ref a, upd H a (ExO (.ref C) a), I.laidN hm.keeps hm.new hn (exO_ok ht ⟨rfl, rfl⟩ rfl rfl rfl (show 4 < 6 by decide)), rfl, h a hn⟩
end

/-! ### the classes, by names -/
@[irreducible] def iA (K : PySem.W.Frag) (C : Addr) : Addr := match PySem.W.findIn K (.ref C) "__init__" with
  | some (some (.ref f)) => f
  | _ => 0
/-- what is asked of a class without an __init__ -/
structure Cl0 (K : PySem.W.Frag) (mg : Str → Option Value) (x : Str) : Prop where
  g : mg x = some (.ref (fA mg x))
  k : PySem.W.keepIn K (.ref (fA mg x)) = true
  e : ExcC K (fA mg x)
  q : PySem.W.excIn K (fA mg x) [.type "ValueError", .type "Exception", .type "BaseException", .type "object"] "ValueError.__new__" = true
/-- .. of one with an __init__ that stores the fields fs -/
structure ClI (K : PySem.W.Frag) (mg : Str → Option Value) (x qual : Str) (st : Stmt) (ps fs : List Str) : Prop where
  g : mg x = some (.ref (fA mg x))
  e : ExcC K (fA mg x)
  o : OexC K (fA mg x)
  i : PySem.W.findIn K (.ref (fA mg x)) "__init__" = some (some (.ref (iA K (fA mg x))))
  t : PySem.W.typeIn K (.ref (iA K (fA mg x))) = some (.type "function")
  F : Fun K "__init__" qual st (iA K (fA mg x)) (fDat K (iA K (fA mg x)))
  b : Binds K (fDat K (iA K (fA mg x))) ps []
  n : ∀ f ∈ fs, PySem.W.findIn K (.ref (fA mg x)) f = some none
theorem iA_of {K : PySem.W.Frag} {C f : Addr} (h : PySem.W.findIn K (.ref C) "__init__" = some (some (.ref f))) : iA K C = f := by
  unfold iA
  rw [h]
theorem Cl0.mk' {K : PySem.W.Frag} {mg : Str → Option Value} {x : Str} {h : Heap} {C : Addr} (X : K.In h) (G : h.Ns mainGlobals mg) (a : PySem.W.nsIn K mainGlobals x = some (some (.ref C))) (k : PySem.W.keepIn K (.ref C) = true) (e : ExcC K C)
    (q : PySem.W.excIn K C [.type "ValueError", .type "Exception", .type "BaseException", .type "object"] "ValueError.__new__" = true) : Cl0 K mg x := by
  have m := PySem.W.mg_of X G a
  have c := fA_of m
  exact ⟨by rw [c]; exact m, by rw [c]; exact k, by rw [c]; exact e, by rw [c]; exact q⟩
theorem ClI.mk' {K : PySem.W.Frag} {mg : Str → Option Value} {x qual : Str} {st : Stmt} {ps fs : List Str} {h : Heap} {C f : Addr} {oc : Value} {od an : Option Addr} {osl : Array (Option Value)} {kV doc pm cdv ct : Value} (X : K.In h) (G : h.Ns mainGlobals mg)
    (a : PySem.W.nsIn K mainGlobals x = some (some (.ref C))) (e : ExcC K C) (o : OexC K C) (i : PySem.W.findIn K (.ref C) "__init__" = some (some (.ref f))) (t : PySem.W.typeIn K (.ref f) = some (.type "function"))
    (l : K.lookup f = some ⟨oc, od, .func (PySem.W.fnOf "__init__" qual (defArgs st) (defBody st) (defScope st) .none kV doc pm an cdv ct), osl⟩) (c : PySem.W.codeIn K cdv qual = true) (k : PySem.W.keepIn K (.ref f) = true)
    (bi : ∀ (kV doc pm : Value) (an : Option Addr) (cdv ct : Value) (us : List Value), us.length = ps.length → bindArgs (PySem.W.fnOf "__init__" qual (defArgs st) (defBody st) (defScope st) .none kV doc pm an cdv ct) ⟨us, []⟩ = pure (ps.zip us))
    (n : ∀ f ∈ fs, PySem.W.findIn K (.ref C) f = some none) : ClI K mg x qual st ps fs := by
  have m := PySem.W.mg_of X G a
  have c1 := fA_of m
  have c2 : iA K (fA mg x) = f := by rw [c1]; exact iA_of i
  have c3 := fDat_of l
  have F := fun_mk (st := st) l c k
  refine ⟨by rw [c1]; exact m, by rw [c1]; exact e, by rw [c1]; exact o, by rw [c2, c1]; exact i, by rw [c2]; exact t, by rw [c2, c3]; exact F, by rw [c2, c3]; exact F.binds bi, by rw [c1]; exact n⟩
def spI1 (C : Addr) (f : Str) : Sp := fun vs H Q _ => ∃ a v, vs = [.ref a, v] ∧ H a = some (exo a C none) ∧ ∀ dx, H dx = none → dx ≠ a → Q .non (upd (upd H dx (exd dx [(f, v)])) a (exo a C (some dx)))
def spI2 (C : Addr) (f g : Str) : Sp := fun vs H Q _ => ∃ a v u, vs = [.ref a, v, u] ∧ H a = some (exo a C none) ∧ ∀ dx, H dx = none → dx ≠ a → Q .non (upd (upd (upd H dx (exd dx [(f, v)])) a (exo a C (some dx))) dx (exd dx [(g, u), (f, v)]))
section
variable {K : PySem.W.Frag} {σ : L2.St} {H : Hp} {D : Ends} {a C dx : Addr} {f g : Str} {v u : V} {ta : TA} {Q : VK}
theorem s_ost1 (T : OexC K C) (n : PySem.W.findIn K (.ref C) f = some none) (h : H a = some (exo a C none)) (h0 : σ[0]? = some (some (.ref a))) {i : Nat} (h1 : σ[i]? = some (some v))
    (q : ∀ dx, H dx = none → dx ≠ a → D.nx σ (upd (upd H dx (exd dx [(f, v)])) a (exo a C (some dx)))) : tOst K f (tVar 0) (tVar i) D σ H := ⟨v, h1, _, h0, a, C, rfl, T, n, .inl ⟨h, q⟩⟩
theorem s_ost2 (T : OexC K C) (n : PySem.W.findIn K (.ref C) g = some none) (h : H a = some (exo a C (some dx))) (hd : H dx = some (exd dx [(f, v)])) (h0 : σ[0]? = some (some (.ref a))) {i : Nat} (h1 : σ[i]? = some (some u))
    (q : D.nx σ (upd H dx (exd dx [(g, u), (f, v)]))) : tOst K g (tVar 0) (tVar i) D σ H := ⟨u, h1, _, h0, a, C, rfl, T, n, .inr ⟨dx, _, h, hd, by show 1 ≤ 900; decide, q⟩⟩
/-- what the making of one hands on -/
theorem made1 (h : VA ta σ H [v]) (k : ∀ a H', Same H H' → IsEx H' a C [(f, v)] → Q (.ref a) H') : tExV C (spI1 C f) ta σ H Q :=
  h _ ⟨by show 1 ≤ 1000; decide, fun a ha => ⟨a, v, rfl, upd_same, fun dx hd ne => ⟨rfl, k a _ (fun b o e => by
    have hb : b ≠ a := ne_of_none e ha
    rw [upd_ne ne] at hd
    rw [upd_ne hb, upd_ne (ne_of_none e hd), upd_ne hb]
    exact e) (.full upd_same (by rw [upd_ne ne, upd_same]))⟩⟩⟩
theorem made2 (h : VA ta σ H [v, u]) (k : ∀ a H', Same H H' → IsEx H' a C [(g, u), (f, v)] → Q (.ref a) H') : tExV C (spI2 C f g) ta σ H Q :=
  h _ ⟨by show 2 ≤ 1000; decide, fun a ha => ⟨a, v, u, rfl, upd_same, fun dx hd ne => ⟨rfl, k a _ (fun b o e => by
    have hb : b ≠ a := ne_of_none e ha
    rw [upd_ne ne] at hd
    have hb2 : b ≠ dx := ne_of_none e hd
    rw [upd_ne hb2, upd_ne hb, upd_ne hb2, upd_ne hb]
    exact e) (.full (by rw [upd_ne (Ne.symm ne), upd_same]) upd_same)⟩⟩⟩
theorem made0 (k : ∀ a H', Same H H' → IsEx H' a C [] → Q (.ref a) H') : (fun (σ : L2.St) (H : Hp) (Q : VK) => ∀ a, H a = none → Q (.ref a) (upd H a (ExO (.ref C) a))) σ H Q :=
  fun a ha => k a _ (Same.new' ha) (.bare upd_same)
/-- isinstance of one -/
theorem v_isx {te : TE} {fs : List (Str × V)} {c : V} {cv : Value} {b : Bool} (h : Val te σ H (.ref a)) (x : IsEx H a C fs) (e : ExcC K C) (r : ∀ w, RelV c w → w = cv) (k : PySem.W.kitOne K (.ref C) cv = some b) :
    Val (tCB (rIsX K) (tCons te (tCons (tC c) tNil))) σ H (.bl b) := v_cb (va_cons h (va_cons val_c va_nil)) fun Q q => ⟨a, C, fs, c, cv, b, rfl, x, e, r, k, q⟩
theorem v_fldx {te : TE} {fs : List (Str × V)} (h : Val te σ H (.ref a)) (x : IsEx H a C fs) (hf : fs.lookup f = some v) (e : ExcC K C) (n : PySem.W.findIn K (.ref C) f = some none) : Val (tFldX K f te) σ H v := by
  intro Q q
  cases x with
  | bare _ => cases hf
  | full e1 e2 => exact h _ ⟨a, C, _, fs, v, rfl, e1, e2, e, n, hf, q⟩
end
end GL

/-! What data the heap holds, dicts among it, and what repr tells of it. -/
namespace GL
open PySem PySem.Spec PyProof.Rows L2

def keyD : Key → PyData
  | .inl i => .int i
  | .inr x => .str x
mutual
/-- the data of a value: as Dp, dicts too -/
inductive Dd (K : PySem.W.Frag) (H : Hp) : V → PyData → Prop
  | non : Dd K H .non .none
  | bl (b : Bool) : Dd K H (.bl b) (.bool b)
  | int (i : Int) : Dd K H (.int i) (.int i)
  | str (x : Str) : Dd K H (.str x) (.str x)
  | lst {a : Addr} {xs : List V} {ds : List PyData} : SqL K H a xs → DdAll K H xs ds → Dd K H (.ref a) (.list ds)
  | tup {a : Addr} {xs : List V} {ds : List PyData} : SqT K H a xs → DdAll K H xs ds → Dd K H (.ref a) (.tuple ds)
  | dic {a : Addr} {kvs : List (Key × V)} {ps : List (PyData × PyData)} : H a = some (.dK kvs) → DdKv K H kvs ps → Dd K H (.ref a) (.dict ps)
inductive DdAll (K : PySem.W.Frag) (H : Hp) : List V → List PyData → Prop
  | nil : DdAll K H [] []
  | cons {v : V} {vs : List V} {d : PyData} {ds : List PyData} : Dd K H v d → DdAll K H vs ds → DdAll K H (v :: vs) (d :: ds)
inductive DdKv (K : PySem.W.Frag) (H : Hp) : List (Key × V) → List (PyData × PyData) → Prop
  | nil : DdKv K H [] []
  | cons {k : Key} {v : V} {r : List (Key × V)} {d : PyData} {ps : List (PyData × PyData)} : Dd K H v d → DdKv K H r ps → DdKv K H ((k, v) :: r) ((keyD k, d) :: ps)
end
theorem sqt_same {K : PySem.W.Frag} {H H' : Hp} {a : Addr} {xs : List V} (e : Same H H') (h : SqT K H a xs) : SqT K H' a xs := by
  rcases h with (h | ⟨o, h⟩) | h
  · exact .inl (.inl (e _ _ h))
  · exact .inl (.inr ⟨o, e _ _ h⟩)
  · exact .inr h
mutual
theorem Dd.same {K : PySem.W.Frag} {H H' : Hp} (s : Same H H') : ∀ (d : PyData) (v : V), Dd K H v d → Dd K H' v d
  | .none, _, h => by cases h; exact .non
  | .bool _, _, h => by cases h; exact .bl _
  | .int _, _, h => by cases h; exact .int _
  | .str _, _, h => by cases h; exact .str _
  | .list ds, _, h => by
    cases h with
    | lst a b => exact .lst (s.seq a) (Dd.sameAll s ds _ b)
  | .tuple ds, _, h => by
    cases h with
    | tup a b => exact .tup (sqt_same s a) (Dd.sameAll s ds _ b)
  | .dict ps, _, h => by
    cases h with
    | dic a b => exact .dic (s _ _ a) (Dd.sameKv s ps _ b)
theorem Dd.sameAll {K : PySem.W.Frag} {H H' : Hp} (s : Same H H') : ∀ (ds : List PyData) (vs : List V), DdAll K H vs ds → DdAll K H' vs ds
  | [], _, h => by cases h; exact .nil
  | d :: ds, _, h => by
    cases h with
    | cons a b => exact .cons (Dd.same s d _ a) (Dd.sameAll s ds _ b)
theorem Dd.sameKv {K : PySem.W.Frag} {H H' : Hp} (s : Same H H') : ∀ (ps : List (PyData × PyData)) (kvs : List (Key × V)), DdKv K H kvs ps → DdKv K H' kvs ps
  | [], _, h => by cases h; exact .nil
  | (_, d) :: ps, _, h => by
    cases h with
    | cons a b => exact .cons (Dd.same s d _ a) (Dd.sameKv s ps _ b)
end
section
variable {X : Cx} {pins : List (Addr × Obj)} {σ : L2.St} {H : Hp} {s : Shared}
/-- what repr tells of a value whose data are known -/
def Shows (X : Cx) (h : Heap) (d : PyData) (u : Value) : Prop := (∃ as, Reads h u d as) ∧ ∃ bs, ReadAtMost h d.depth bs ∧ ReprK X.prog X.w bs h d.depth u d.shown
def ShowsAll (X : Cx) (h : Heap) (ds : List PyData) (us : List Value) : Prop := (∃ as, ReadsAll h us ds as) ∧ ∃ bs, ReadAtMost h (PyData.depthAll ds) bs ∧ ReprAllK X.prog X.w bs h (PyData.depthAll ds) us (PyData.shownAll ds)
theorem ShowsAll.nil {h : Heap} : ShowsAll X h [] [] := ⟨⟨_, .nil⟩, [], (fun _ z => nomatch z), .nil⟩
theorem ShowsAll.cons {h : Heap} {d : PyData} {ds : List PyData} {u : Value} {us : List Value} (a : Shows X h d u) (b : ShowsAll X h ds us) : ShowsAll X h (d :: ds) (u :: us) := by
  obtain ⟨⟨as1, r1⟩, b1, h1, k1⟩ := a
  obtain ⟨⟨as2, r2⟩, b2, h2, k2⟩ := b
  have m1 : d.depth ≤ PyData.depthAll (d :: ds) := Nat.le_max_left _ _
  have m2 : PyData.depthAll ds ≤ PyData.depthAll (d :: ds) := Nat.le_max_right _ _
  exact ⟨⟨_, .cons r1 r2⟩, b1 ++ b2, (h1.mono m1).append (h2.mono m2), .cons ((k1.more fun _ z => List.mem_append_left _ z).level_le m1) (k2.more_le (fun _ z => List.mem_append_right _ z) m2)⟩
theorem Shows.lst {h : Heap} {ds : List PyData} {us : List Value} {a : Addr} {o : Obj} {n : Nat} (ha : h.get? a = some o) (hc : o.cls = .type "list") (hd : o.data = .seq us.toArray n) (b : ShowsAll X h ds us) : Shows X h (.list ds) (.ref a) := by
  obtain ⟨⟨as, r⟩, bs, hb, k⟩ := b
  have R : Reads h (.ref a) (.list ds) _ := .list ha hc hd r
  have off : a ∉ bs := not_mem_of_deeper R (by simp only [PyData.depth]; omega) hb
  refine ⟨⟨_, R⟩, a :: bs, ReadAtMost.cons R (by simp only [PyData.depth]; omega) hb, ?_⟩
  cases us with
  | nil =>
    cases r
    exact ReprK.listEmpty ha hc hd
  | cons u us => exact ReprK.list ha hc hd off (by simpa using k.length_eq) fun i y e => k.item i y (by simpa using e)
theorem Shows.tup {h : Heap} {ds : List PyData} {us : List Value} {a : Addr} (ha : IsTup h a us.toArray) (b : ShowsAll X h ds us) : Shows X h (.tuple ds) (.ref a) := by
  obtain ⟨⟨as, r⟩, bs, hb, k⟩ := b
  obtain ⟨o, ho, hc, n, hd⟩ := ha
  have R : Reads h (.ref a) (.tuple ds) _ := .tuple ho hc hd r
  exact ⟨⟨_, R⟩, a :: bs, ReadAtMost.cons R (by simp only [PyData.depth]; omega) hb, ReprK.tuple ho hc hd (not_mem_of_deeper R (by simp only [PyData.depth]; omega) hb) k⟩
theorem shows_key {h : Heap} {k : Key} {u : Value} (e : keyIs k u = true) (hs : (keyD k).showable = true) (hz : (keyD k).shown.length ≤ sizeLine) : Shows X h (keyD k) u := by
  rcases keyIs_shape e with ⟨i, t, rfl, rfl⟩ | ⟨x, t, rfl, rfl⟩
  · exact ⟨⟨_, .int i t⟩, [], (fun _ z => nomatch z), .of_is (ReprIs.int t (of_decide_eq_true hs)) _ _ _⟩
  · exact ⟨⟨_, .str x t⟩, [], (fun _ z => nomatch z), .of_is (ReprIs.str x t hz) _ _ _⟩
theorem Shows.dic {h : Heap} {ps : List (PyData × PyData)} {es : Array DictEntry} {a : Addr} {o : Obj} {n : Nat} (ho : h.get? a = some o) (hc : o.cls = .type "dict") (hd : o.data = .dict es n) (hsys : (a == sysModules) = false)
    (b1 : ShowsAll X h (ps.map (·.1)) (es.toList.map (·.key))) (b2 : ShowsAll X h (ps.map (·.2)) (es.toList.map (·.val))) : Shows X h (.dict ps) (.ref a) := by
  obtain ⟨⟨as1, r1⟩, c1, h1, k1⟩ := b1
  obtain ⟨⟨as2, r2⟩, c2, h2, k2⟩ := b2
  have R : Reads h (.ref a) (.dict ps) _ := .dict ho hc hd r1 r2
  have hb : ReadAtMost h (PyData.depthKv ps) (c1 ++ c2) := (h1.mono (PyData.depthAll_keys_le ps)).append (h2.mono (PyData.depthAll_vals_le ps))
  refine ⟨⟨_, R⟩, a :: (c1 ++ c2), ReadAtMost.cons R (by simp only [PyData.depth]; omega) hb, ?_⟩
  simp only [PyData.depth, PyData.shown, PyData.shownKv_eq]
  exact ReprK.dict ho hc hd hsys (not_mem_of_deeper R (by simp only [PyData.depth]; omega) hb) (ReprEntriesK.of_two es.toList _ _
    (k1.more_le (fun _ z => List.mem_append_left _ z) (PyData.depthAll_keys_le ps)) (k2.more_le (fun _ z => List.mem_append_right _ z) (PyData.depthAll_vals_le ps)))
theorem all_le {ds : List PyData} {d : PyData} (hd : d ∈ ds) : d.shown ∈ PyData.shownAll ds := by
  induction ds with
  | nil => cases hd
  | cons x xs ih =>
    simp only [PyData.shownAll]
    rcases List.mem_cons.mp hd with e | e
    · rw [e]; exact List.mem_cons_self ..
    · exact List.mem_cons_of_mem _ (ih e)
mutual
theorem Dd.shows (I : Inv X pins σ H s) : ∀ (d : PyData) (v : V) (u : Value), Dd X.K H v d → RelV v u → d.showable = true → d.shown.length ≤ sizeLine → Shows X s.heap d u
  | .none, _, _, h, r, _, _ => by
    cases h; cases r
    exact ⟨⟨_, .none⟩, [], (fun _ z => nomatch z), .of_is ReprIs.none _ _ _⟩
  | .bool b, _, _, h, r, _, _ => by
    cases h; cases r
    exact ⟨⟨_, .bool b⟩, [], (fun _ z => nomatch z), .of_is (ReprIs.bool b) _ _ _⟩
  | .int i, _, _, h, r, hs, _ => by
    cases h
    obtain ⟨t, rfl⟩ := r
    exact ⟨⟨_, .int i t⟩, [], (fun _ z => nomatch z), .of_is (ReprIs.int t (of_decide_eq_true hs)) _ _ _⟩
  | .str x, _, _, h, r, _, hz => by
    cases h
    obtain ⟨t, rfl⟩ := r
    exact ⟨⟨_, .str x t⟩, [], (fun _ z => nomatch z), .of_is (ReprIs.str x t hz) _ _ _⟩
  | .list ds, _, _, h, r, hs, hz => by
    cases h with
    | lst hq ha =>
      cases r
      obtain ⟨its, rv, ⟨o, n, ho, hc, _, hd⟩, _⟩ := I.list hq
      have hz' : (listText (PyData.shownAll ds)).length ≤ sizeLine := by simpa only [PyData.shown] using hz
      exact Shows.lst ho hc hd (Dd.showsAll I ds _ its ha rv (by simpa [PyData.showable] using hs) fun t ht => Nat.le_trans (listText_mem_le ht) hz')
  | .tuple ds, _, _, h, r, hs, hz => by
    cases h with
    | tup hq ha =>
      cases r
      obtain ⟨its, rv, ⟨o, ho, hc, n, hd⟩, _⟩ := I.tuple hq
      have hz' : (tupleText (PyData.shownAll ds)).length ≤ sizeLine := by simpa only [PyData.shown] using hz
      exact Shows.tup ⟨o, ho, hc, n, hd⟩ (Dd.showsAll I ds _ its ha rv (by simpa [PyData.showable] using hs) fun t ht => Nat.le_trans (tupleText_mem_le ht) hz')
  | .dict ps, _, _, h, r, hs, hz => by
    cases h with
    | dic hq ha =>
      cases r
      obtain ⟨_, hsys, vs, kv, o, es, ep, ho, ⟨hc, _, _⟩, hd, _, pr, _⟩ := I.hok _ _ hq
      have hz' : (dictText (PyData.shownKv ps)).length ≤ sizeLine := by simpa only [PyData.shown] using hz
      obtain ⟨b1, b2⟩ := Dd.showsKv I ps _ vs es.toList ha kv pr (by simpa [PyData.showable] using hs) (fun t ht => Nat.le_trans (dictText_mem_le ht) hz')
      exact Shows.dic ho hc hd hsys b1 b2
theorem Dd.showsAll (I : Inv X pins σ H s) : ∀ (ds : List PyData) (vs : List V) (us : List Value), DdAll X.K H vs ds → Vals vs us → PyData.showableAll ds = true → (∀ t ∈ PyData.shownAll ds, t.length ≤ sizeLine) → ShowsAll X s.heap ds us
  | [], _, _, h, r, _, _ => by
    cases h; cases r
    exact .nil
  | d :: ds, _, _, h, r, hs, hz => by
    cases h with
    | cons h1 h2 => cases r with
      | cons r1 r2 =>
        have hs' : d.showable = true ∧ PyData.showableAll ds = true := by simpa [PyData.showableAll] using hs
        exact .cons (Dd.shows I d _ _ h1 r1 hs'.1 (hz _ (by simp only [PyData.shownAll]; exact List.mem_cons_self ..))) (Dd.showsAll I ds _ _ h2 r2 hs'.2 fun t ht => hz t (by simp only [PyData.shownAll]; exact List.mem_cons_of_mem _ ht))
theorem Dd.showsKv (I : Inv X pins σ H s) : ∀ (ps : List (PyData × PyData)) (kvs : List (Key × V)) (vs : List (Key × Value)) (es : List DictEntry), DdKv X.K H kvs ps → KV kvs vs → Pairs (mixKind X.prog X.w) es vs → PyData.showableKv ps = true →
    (∀ t ∈ PyData.shownKv ps, t.length ≤ sizeLine) → ShowsAll X s.heap (ps.map (·.1)) (es.map (·.key)) ∧ ShowsAll X s.heap (ps.map (·.2)) (es.map (·.val))
  | [], _, _, _, h, kv, pr, _, _ => by
    cases h; cases kv; cases pr
    exact ⟨.nil, .nil⟩
  | (k, d) :: ps, _, _, _, h, kv, pr, hs, hz => by
    cases h with
    | cons h1 h2 => cases kv with
      | cons e kv2 => cases pr with
        | cons p1 p2 p3 =>
          rename_i k0 v0 _ q _ en _
          have hs' : ((keyD k0).showable = true ∧ d.showable = true) ∧ PyData.showableKv ps = true := by simpa [PyData.showableKv] using hs
          have z0 := hz _ (by simp only [PyData.shownKv]; exact List.mem_cons_self ..)
          obtain ⟨e1, e2⟩ := e
          have z1 : (keyD k0).shown.length ≤ sizeLine := Nat.le_trans (by simp only [Str.length_append]; omega) z0
          have z2 : d.shown.length ≤ sizeLine := Nat.le_trans (by simp only [Str.length_append]; omega) z0
          obtain ⟨i1, i2⟩ := Dd.showsKv I ps _ _ _ h2 kv2 p3 hs'.2 fun t ht => hz t (by simp only [PyData.shownKv]; exact List.mem_cons_of_mem _ ht)
          have q1 : k0 = q.1 := e1
          have ky : keyIs k0 en.key = true := by rw [q1]; exact p1
          refine ⟨.cons (shows_key ky hs'.1.1 z1) i1, .cons (Dd.shows I d v0 _ h1 ?_ hs'.1.2 z2) i2⟩
          show RelV v0 en.val
          rw [p2]; exact e2
end
/-- repr of any such data -/
def rShow (K : PySem.W.Frag) : List V → Hp → VK → Prop := fun xs H Q => ∃ (v : V) (d : PyData), xs = [v] ∧ Dd K H v d ∧ d.showable = true ∧ d.depth ≤ 40 ∧ d.shown.length ≤ sizeLine ∧ Q (.str d.shown) H
theorem call_show (hq : Quiet X.A) (hu : X.A.units + 64 < cLine) : CallR X (.builtin "repr") (rShow X.K) := by
  intro pins s σ H xs us Q I r h
  obtain ⟨v, d, rfl, hd, hs, hp, hz, q⟩ := h
  cases r with
  | cons rv rn =>
    rename_i u us'
    cases rn
    have done : ∀ h' tk, (∀ b o, s.heap.get? b = some o → h'.get? b = some o) → ∀ z, EP X pins σ Q (.str d.shown z) { s with heap := h', toks := tk } := fun h' tk hk z => ⟨.str _, H, I.kept hk, ⟨z, rfl⟩, q⟩
    cases hd with
    | non => cases rv; exact PySem.P.repr_of_none ⟨.str _, H, I.tok _, ⟨_, rfl⟩, q⟩
    | bl b => cases rv; exact PySem.P.repr_of_bool ⟨.str _, H, I.tok _, ⟨_, rfl⟩, q⟩
    | int i =>
      obtain ⟨t, rfl⟩ := rv
      exact PySem.P.repr_of_int (of_decide_eq_true hs) ⟨.str _, H, I.tok _, ⟨_, rfl⟩, q⟩
    | str x =>
      obtain ⟨t, rfl⟩ := rv
      exact PySem.P.repr_of_str ⟨.str _, H, I.tok _, ⟨_, rfl⟩, q⟩
    | @lst a xs ds hq2 ha =>
      cases rv
      obtain ⟨its, rv2, ⟨o, n, ho, hc, _, hd2⟩, _⟩ := I.list hq2
      have hz' : (listText (PyData.shownAll ds)).length ≤ sizeLine := by simpa only [PyData.shown] using hz
      have hp' : PyData.depthAll ds + 1 ≤ 40 := by simpa only [PyData.depth] using hp
      obtain ⟨⟨as, r⟩, bs, hb, k⟩ := Dd.showsAll I ds _ its ha rv2 (by simpa [PyData.showable] using hs) fun t ht => Nat.le_trans (listText_mem_le ht) hz'
      have R : Reads s.heap (.ref a) (.list ds) _ := .list ho hc hd2 r
      have off : a ∉ bs := not_mem_of_deeper R (by simp only [PyData.depth]; omega) hb
      refine call_repr_slot (by omega) ⟨o, ho, hc⟩ F.slot_list_repr.toG ?_
      simp only [PyData.shown] at done
      cases its with
      | nil =>
        cases r
        simp only [PyData.shownAll, listText_nil] at done
        exact call_list_repr_empty ⟨o, ho, hc⟩ ho hd2 ⟨_, _, rfl, done s.heap _ (fun _ _ e => e) _⟩
      | cons u us => exact call_list_reprK ho hc hd2 off (by simpa using k.length_eq) (fun i y e => k.item i y (by simpa using e)) hq (fun b _ => Clear.nil b) (by show X.A.units + 1 + (PyData.depthAll ds + 1) < cLine; omega) (fun _ _ e => e) (fun h' u tk hk => ⟨_, _, rfl, done h' tk hk u⟩) hz'
    | @tup a xs ds hq2 ha =>
      cases rv
      obtain ⟨its, rv2, ⟨o, ho, hc, n, hd2⟩, _⟩ := I.tuple hq2
      have hz' : (tupleText (PyData.shownAll ds)).length ≤ sizeLine := by simpa only [PyData.shown] using hz
      have hp' : PyData.depthAll ds + 1 ≤ 40 := by simpa only [PyData.depth] using hp
      obtain ⟨⟨as, r⟩, bs, hb, k⟩ := Dd.showsAll I ds _ its ha rv2 (by simpa [PyData.showable] using hs) fun t ht => Nat.le_trans (tupleText_mem_le ht) hz'
      have R : Reads s.heap (.ref a) (.tuple ds) _ := .tuple ho hc hd2 r
      have off : a ∉ bs := not_mem_of_deeper R (by simp only [PyData.depth]; omega) hb
      simp only [PyData.shown] at done
      exact call_repr_slot (by omega) ⟨o, ho, hc⟩ F.slot_tuple_repr (call_tuple_reprK ho hc hd2 off k hq (fun b _ => Clear.nil b) (by show X.A.units + 1 + (PyData.depthAll ds + 1) < cLine; omega) (fun _ _ e => e) (fun h' u tk hk => ⟨_, _, rfl, done h' tk hk u⟩) hz')
    | @dic a kvs ps hq2 ha =>
      cases rv
      obtain ⟨_, hsys, vs, kv, o, es, ep, ho, ⟨hc, _, _⟩, hd2, _, pr, _⟩ := I.hok _ _ hq2
      have hz' : (dictText (PyData.shownKv ps)).length ≤ sizeLine := by simpa only [PyData.shown] using hz
      have hp' : PyData.depthKv ps + 1 ≤ 40 := by simpa only [PyData.depth] using hp
      obtain ⟨⟨⟨as1, r1⟩, c1, h1, k1⟩, ⟨as2, r2⟩, c2, h2, k2⟩ := Dd.showsKv I ps _ vs es.toList ha kv pr (by simpa [PyData.showable] using hs) (fun t ht => Nat.le_trans (dictText_mem_le ht) hz')
      have R : Reads s.heap (.ref a) (.dict ps) _ := .dict ho hc hd2 r1 r2
      have hb : ReadAtMost s.heap (PyData.depthKv ps) (c1 ++ c2) := (h1.mono (PyData.depthAll_keys_le ps)).append (h2.mono (PyData.depthAll_vals_le ps))
      have off : a ∉ c1 ++ c2 := not_mem_of_deeper R (by simp only [PyData.depth]; omega) hb
      simp only [PyData.shown] at done
      exact call_repr_slot (by omega) ⟨o, ho, hc⟩ F.slot_dict_repr (call_dict_reprK ho hc hd2 hsys off (ReprEntriesK.of_two es.toList _ _
        (k1.more_le (fun _ z => List.mem_append_left _ z) (PyData.depthAll_keys_le ps)) (k2.more_le (fun _ z => List.mem_append_right _ z) (PyData.depthAll_vals_le ps)) |> fun z => by rw [← PyData.shownKv_eq] at z; exact z)
        hq (fun b _ => Clear.nil b) (by show X.A.units + 1 + (PyData.depthKv ps + 1) < cLine; omega) (fun _ _ e => e) (fun h' u tk hk => ⟨_, _, rfl, done h' tk hk u⟩) hz')
end
section
variable {K : PySem.W.Frag} {σ : L2.St} {H : Hp} {te : TE} {v : V} {d : PyData}
theorem v_show (h : Val te σ H v) (hd : Dd K H v d) (hs : d.showable = true) (hp : d.depth ≤ 40) (hz : d.shown.length ≤ 100000) : Val (tCB (rShow K) (tCons te tNil)) σ H (.str d.shown) := v_cb (va_cons h va_nil) fun Q q => ⟨v, d, rfl, hd, hs, hp, Nat.le_trans hz (by decide), q⟩
end
end GL

namespace LW
open PySem PySem.Spec PyProof.Rows L2 GL
def top (i : Nat) : Stmt := PySem.Challenge.pw_flowpapers_k00_errors.main.body.getD i (.Pass ⟨0, 0, 0, 0⟩)

abbrev s_law_pen : Stmt := top 16
theorem sc_law_pen : FnScope ["_law_script", "_law_fold", "_law_cell"] ["_law_script"] (defScope s_law_pen) := ⟨rfl, rfl, rfl, by decide +kernel, rfl, by decide +kernel, by decide +kernel⟩
abbrev s_law_draw : Stmt := top 17
theorem sc_law_draw : FnScope ["_law_pen_here", "_law_many", "_law_cell", "_law_digit", "_law_mixed"] ["_law_pen_here", "_law_many"] (defScope s_law_draw) := ⟨rfl, rfl, rfl, by decide +kernel, rfl, by decide +kernel, by decide +kernel⟩
abbrev s_law_pick : Stmt := top 18
theorem sc_law_pick : FnScope ["_law_pen_here", "_law_some"] ["_law_pen_here", "_law_some"] (defScope s_law_pick) := ⟨rfl, rfl, rfl, by decide +kernel, rfl, by decide +kernel, by decide +kernel⟩
abbrev s_law_far : Stmt := top 19
theorem sc_law_far : FnScope ["_law_pen_here", "_law_found", "_law_k"] ["_law_pen_here"] (defScope s_law_far) := ⟨rfl, rfl, rfl, by decide +kernel, rfl, by decide +kernel, by decide +kernel⟩
abbrev s_law_kinds : Stmt := top 20
theorem sc_law_kinds : FnScope ["_law_e", "_law_first"] ["_law_e"] (defScope s_law_kinds) := ⟨rfl, rfl, rfl, by decide +kernel, rfl, by decide +kernel, by decide +kernel⟩
abbrev s_law_objects : Stmt := top 21
theorem sc_law_objects : FnScope ["_law_a", "_law_b", "_law_first"] ["_law_a", "_law_b"] (defScope s_law_objects) := ⟨rfl, rfl, rfl, by decide +kernel, rfl, by decide +kernel, by decide +kernel⟩
abbrev s_law_fields : Stmt := top 22
theorem sc_law_fields : FnScope ["_law_row", "_law_first"] ["_law_row"] (defScope s_law_fields) := ⟨rfl, rfl, rfl, by decide +kernel, rfl, by decide +kernel, by decide +kernel⟩
abbrev slaw : Stmt := top 23
theorem sclaw : FnScope ["_law_script", "_law_pen_here", "_law_given", "_law_k", "_law_far_here", "_law_row", "_law_e", "_law_j", "_law_fields_here", "_law_many"] ["_law_script"] (defScope slaw) := ⟨rfl, rfl, rfl, by decide +kernel, rfl, by decide +kernel, by decide +kernel⟩
/-! ### the pen -/
abbrev kCe : Key := Sum.inr ("cells" : Str)
abbrev kAt : Key := Sum.inr ("at" : Str)
abbrev kDi : Key := Sum.inr ("digits" : Str)
abbrev kCo : Key := Sum.inr ("count" : Str)
abbrev kFo : Key := Sum.inr ("fold" : Str)
def penK (c : Addr) (a d n f : Int) : List (Key × V) := [(kCe, .ref c), (kAt, .int a), (kDi, .int d), (kCo, .int n), (kFo, .int f)]
theorem sneCeAt : ¬ (("cells" : Str) = "at") := by decide +kernel
theorem neCeAt : ¬ (kCe = kAt) := by decide +kernel
theorem sneCeDi : ¬ (("cells" : Str) = "digits") := by decide +kernel
theorem neCeDi : ¬ (kCe = kDi) := by decide +kernel
theorem sneCeCo : ¬ (("cells" : Str) = "count") := by decide +kernel
theorem neCeCo : ¬ (kCe = kCo) := by decide +kernel
theorem sneCeFo : ¬ (("cells" : Str) = "fold") := by decide +kernel
theorem neCeFo : ¬ (kCe = kFo) := by decide +kernel
theorem sneAtCe : ¬ (("at" : Str) = "cells") := by decide +kernel
theorem neAtCe : ¬ (kAt = kCe) := by decide +kernel
theorem sneAtDi : ¬ (("at" : Str) = "digits") := by decide +kernel
theorem neAtDi : ¬ (kAt = kDi) := by decide +kernel
theorem sneAtCo : ¬ (("at" : Str) = "count") := by decide +kernel
theorem neAtCo : ¬ (kAt = kCo) := by decide +kernel
theorem sneAtFo : ¬ (("at" : Str) = "fold") := by decide +kernel
theorem neAtFo : ¬ (kAt = kFo) := by decide +kernel
theorem sneDiCe : ¬ (("digits" : Str) = "cells") := by decide +kernel
theorem neDiCe : ¬ (kDi = kCe) := by decide +kernel
theorem sneDiAt : ¬ (("digits" : Str) = "at") := by decide +kernel
theorem neDiAt : ¬ (kDi = kAt) := by decide +kernel
theorem sneDiCo : ¬ (("digits" : Str) = "count") := by decide +kernel
theorem neDiCo : ¬ (kDi = kCo) := by decide +kernel
theorem sneDiFo : ¬ (("digits" : Str) = "fold") := by decide +kernel
theorem neDiFo : ¬ (kDi = kFo) := by decide +kernel
theorem sneCoCe : ¬ (("count" : Str) = "cells") := by decide +kernel
theorem neCoCe : ¬ (kCo = kCe) := by decide +kernel
theorem sneCoAt : ¬ (("count" : Str) = "at") := by decide +kernel
theorem neCoAt : ¬ (kCo = kAt) := by decide +kernel
theorem sneCoDi : ¬ (("count" : Str) = "digits") := by decide +kernel
theorem neCoDi : ¬ (kCo = kDi) := by decide +kernel
theorem sneCoFo : ¬ (("count" : Str) = "fold") := by decide +kernel
theorem neCoFo : ¬ (kCo = kFo) := by decide +kernel
theorem sneFoCe : ¬ (("fold" : Str) = "cells") := by decide +kernel
theorem neFoCe : ¬ (kFo = kCe) := by decide +kernel
theorem sneFoAt : ¬ (("fold" : Str) = "at") := by decide +kernel
theorem neFoAt : ¬ (kFo = kAt) := by decide +kernel
theorem sneFoDi : ¬ (("fold" : Str) = "digits") := by decide +kernel
theorem neFoDi : ¬ (kFo = kDi) := by decide +kernel
theorem sneFoCo : ¬ (("fold" : Str) = "count") := by decide +kernel
theorem neFoCo : ¬ (kFo = kCo) := by decide +kernel
theorem pen_cells {c : Addr} {a d n f : Int} : valV (penK c a d n f) kCe = some (.ref c) := by
  unfold penK
  rw [valV_pos rfl]
theorem pen_at {c : Addr} {a d n f : Int} : valV (penK c a d n f) kAt = some (.int a) := by
  unfold penK
  rw [valV_neg neCeAt, valV_pos rfl]
theorem pen_digits {c : Addr} {a d n f : Int} : valV (penK c a d n f) kDi = some (.int d) := by
  unfold penK
  rw [valV_neg neCeDi, valV_neg neAtDi, valV_pos rfl]
theorem pen_count {c : Addr} {a d n f : Int} : valV (penK c a d n f) kCo = some (.int n) := by
  unfold penK
  rw [valV_neg neCeCo, valV_neg neAtCo, valV_neg neDiCo, valV_pos rfl]
theorem pen_fold {c : Addr} {a d n f : Int} : valV (penK c a d n f) kFo = some (.int f) := by
  unfold penK
  rw [valV_neg neCeFo, valV_neg neAtFo, valV_neg neDiFo, valV_neg neCoFo, valV_pos rfl]
theorem put_at {c : Addr} {a d n f x : Int} : putK (penK c a d n f) kAt (.int x) = penK c x d n f := by
  simp [putK, penK, sneCeAt, sneDiAt, sneCoAt, sneFoAt]
theorem put_digits {c : Addr} {a d n f x : Int} : putK (penK c a d n f) kDi (.int x) = penK c a x n f := by
  simp [putK, penK, sneCeDi, sneAtDi, sneCoDi, sneFoDi]
theorem put_count {c : Addr} {a d n f x : Int} : putK (penK c a d n f) kCo (.int x) = penK c a d x f := by
  simp [putK, penK, sneCeCo, sneAtCo, sneDiCo, sneFoCo]
theorem put_fold {c : Addr} {a d n f x : Int} : putK (penK c a d n f) kFo (.int x) = penK c a d n x := by
  simp [putK, penK, sneCeFo, sneAtFo, sneDiFo, sneCoFo]
theorem merge_pen {c : Addr} {f : Int} : mergeK [] (penK c 0 0 0 f) = penK c 0 0 0 f := by
  simp [mergeK, putK, penK, sneCeAt, sneCeDi, sneCeCo, sneCeFo, sneAtDi, sneAtCo, sneAtFo, sneDiCo, sneDiFo, sneCoFo]
/-- a pen stands at p: at most m draws were made -/
def PenAt (H : Hp) (p c : Addr) (m : Nat) : Prop := ∃ (a d n f : Int) (ns : List Int), H p = some (.dK (penK c a d n f)) ∧ H c = some (.lst (ns.map V.int)) ∧
  0 ≤ a ∧ a ≤ ns.length ∧ 0 ≤ d ∧ 0 ≤ n ∧ n ≤ m ∧ 0 ≤ f ∧ f < 2147483587
theorem PenAt.le {H : Hp} {p c : Addr} {m m' : Nat} (h : PenAt H p c m) (l : m ≤ m') : PenAt H p c m' := by
  obtain ⟨a, d, n, f, ns, h1, h2, h3, h4, h5, h6, h7, h8⟩ := h
  exact ⟨a, d, n, f, ns, h1, h2, h3, h4, h5, h6, by omega, h8⟩
/-- all that stood stands, but what the pen's own dict holds -/
def But (p : Addr) (H H' : Hp) : Prop := ∀ b o, H b = some o → b ≠ p → H' b = some o
theorem But.refl {p : Addr} {H : Hp} : But p H H := fun _ _ h _ => h
theorem But.trans {p : Addr} {H H1 H2 : Hp} (a : But p H H1) (b : But p H1 H2) : But p H H2 := fun c o h n => b c o (a c o h n) n
theorem But.of {p : Addr} {H H' : Hp} (a : Same H H') : But p H H' := fun b o h _ => a b o h
/-- a list of its own may change -/
theorem PenAt.off {H H' : Hp} {p c : Addr} {m : Nat} (h : PenAt H p c m) (s1 : ∀ o, H p = some o → H' p = some o) (s2 : ∀ o, H c = some o → H' c = some o) : PenAt H' p c m := by
  obtain ⟨a, d, n, f, ns, h1, h2, h3⟩ := h
  exact ⟨a, d, n, f, ns, s1 _ h1, s2 _ h2, h3⟩
theorem Same.new {H : Hp} {p : Addr} {o : HO} (h : H p = none) : Same H (upd H p o) := fun b u e => by
  rw [upd_ne (ne_of_none e h)]
  exact e
theorem PenAt.same {H H' : Hp} {p c : Addr} {m : Nat} (h : PenAt H p c m) (s : Same H H') : PenAt H' p c m := by
  obtain ⟨a, d, n, f, ns, h1, h2, h3⟩ := h
  exact ⟨a, d, n, f, ns, s _ _ h1, s _ _ h2, h3⟩

/-! ### what they promise -/
def spPen (K : PySem.W.Frag) : Sp := fun vs H Q _ => ∃ (a : Addr) (ns : List Int), vs = [.ref a] ∧ SqL K H a (ns.map V.int) ∧ ns.length ≤ 63 ∧ ∀ (p c : Addr) (H' : Hp), Same H H' → PenAt H' p c 0 → Q (.ref p) H'
/-- the number of draws that may have been made -/
def most : Nat := 1000000000
def spDraw : Sp := fun vs H Q _ => ∃ (p c : Addr) (many : Int) (m : Nat), vs = [.ref p, .int many] ∧ PenAt H p c m ∧ m < most ∧ 0 < many ∧ many < 1000000000 ∧
  ∀ (r : Int) (H' : Hp), 0 ≤ r → r < many → But p H H' → PenAt H' p c (m + 1) → Q (.int r) H'

/-! ### the classes -/
def Cs (mg : Str → Option Value) : List Addr := [fA mg "BadText", fA mg "BadLine", fA mg "BadNumber", fA mg "BadRow", fA mg "BadName", fA mg "Shared", fA mg "NoRest", fA mg "NotRound", fA mg "NoName", fA mg "TakenName", fA mg "NotKept", fA mg "NothingToUndo", fA mg "NothingToRedo"]
def kindsB (K : PySem.W.Frag) (l : List Addr) : Bool := (List.range l.length).all fun i => (List.range l.length).all fun j => PySem.W.kitOne K (.ref (l.getD i 0)) (.ref (l.getD j 0)) == some (decide (i = j))
def flowB (K : PySem.W.Frag) (f : Addr) (l : List Addr) : Bool := l.all fun a => PySem.W.kitOne K (.ref a) (.ref f) == some true && PySem.W.kitOne K (.ref a) (.type "ValueError") == some true

structure Txt (K : PySem.W.Frag) (mg : Str → Option Value) : Prop where
  int : mg "int" = none
  list : mg "list" = none
  len : mg "len" = none
  range : mg "range" = none
  str : mg "str" = none
  isinstance : mg "isinstance" = none
  enumerate : mg "enumerate" = none
  zip : mg "zip" = none
  repr : mg "repr" = none
  ValueError : mg "ValueError" = none
  _law_pen : Df K mg "_law_pen" s_law_pen ["_law_script"]
  _law_draw : Df K mg "_law_draw" s_law_draw ["_law_pen_here", "_law_many"]
  _law_pick : Df K mg "_law_pick" s_law_pick ["_law_pen_here", "_law_some"]
  _law_far : Df K mg "_law_far" s_law_far ["_law_pen_here"]
  _law_kinds : Df K mg "_law_kinds" s_law_kinds ["_law_e"]
  _law_objects : Df K mg "_law_objects" s_law_objects ["_law_a", "_law_b"]
  _law_fields : Df K mg "_law_fields" s_law_fields ["_law_row"]
  law : Df K mg "law" slaw ["_law_script"]
  FlowError : mg "FlowError" = some (.ref (fA mg "FlowError"))
  BadText : ClI K mg "BadText" "BadText.__init__" (inClass (top 2) 0) ["self", "column"] ["column"]
  BadLine : ClI K mg "BadLine" "BadLine.__init__" (inClass (top 3) 0) ["self", "line", "column"] ["line", "column"]
  BadNumber : ClI K mg "BadNumber" "BadNumber.__init__" (inClass (top 4) 0) ["self", "what", "number"] ["what", "number"]
  BadRow : ClI K mg "BadRow" "BadRow.__init__" (inClass (top 5) 0) ["self", "row"] ["row"]
  BadName : ClI K mg "BadName" "BadName.__init__" (inClass (top 6) 0) ["self", "name"] ["name"]
  Shared : ClI K mg "Shared" "Shared.__init__" (inClass (top 7) 0) ["self", "plane"] ["plane"]
  NoRest : ClI K mg "NoRest" "NoRest.__init__" (inClass (top 8) 0) ["self", "place"] ["place"]
  NotRound : Cl0 K mg "NotRound"
  NoName : ClI K mg "NoName" "NoName.__init__" (inClass (top 10) 0) ["self", "name"] ["name"]
  TakenName : ClI K mg "TakenName" "TakenName.__init__" (inClass (top 11) 0) ["self", "name"] ["name"]
  NotKept : ClI K mg "NotKept" "NotKept.__init__" (inClass (top 12) 0) ["self", "promise", "witness"] ["promise", "witness"]
  NothingToUndo : Cl0 K mg "NothingToUndo"
  NothingToRedo : Cl0 K mg "NothingToRedo"
  kk : kindsB K (Cs mg) = true
  kf : flowB K (fA mg "FlowError") (Cs mg) = true
  lb : ∀ (s : PySem.Shared) (u : PySem.Value), BindsTo s (fDat K (fA mg "law")) ⟨[u], []⟩ [("_law_script", u)]
section
variable {P : Program} {w : World} {K : PySem.W.Frag} {mg : Str → Option Value} {base : Heap}

theorem ok_pen {f : Addr} {fd : FuncData} (F : Fun K "_law_pen" "_law_pen" s_law_pen f fd) (T : Txt K mg) : FnOk P w K mg base CX0 1 f fd ["_law_script"] (spPen K) := by
  refine F.ok sc_law_pen (fun vs H Q E h => ?_) (fun cdv A outer s H vs Q E hr h => ?_)
  · obtain ⟨a, ns, rfl, _⟩ := h
    rfl
  · obtain ⟨a, ns, rfl, hS, hl, k⟩ := h
    refine ⟨_, pss_cons (ps_set (i := 1) sc_law_pen.nd rfl (Or.inl rfl) pe_int)
      (pss_cons (ps_for PassesOwn.never rfl (pi_list (pv 0)) (pg_name (i := 2) sc_law_pen.nd rfl (Or.inl rfl))
        (pss_one (ps_set (i := 1) sc_law_pen.nd rfl (Or.inl rfl) (pe_op op_mod (pe_callTy call_int1 (by rfl) T.int (by decide +kernel) (pa_cons (pe_op op_add (pe_op op_mul (pv 1) pe_int) (pv 2)) pa_nil)) pe_int))))
      (pss_one (ps_ret (pe_disp (pps_cons pe_str (pe_callTy call_list_of (by rfl) T.list (by decide +kernel) (pa_cons (pv 0) pa_nil)) (pps_cons pe_str pe_int (pps_cons pe_str pe_int (pps_cons pe_str pe_int (pps_cons pe_str (pv 1) pps_nil))))) (by rfl) (by rfl) (fun z => by cases z) (by decide))))), ?_⟩
    refine ⟨_, rfl, a, rfl, ⟨_, hS⟩, for_list (K := K) (a := a) (xs := ns.map V.int) (fun i σ H' => ∃ (v : Int) (c : Option V), σ = [some (.ref a), some (.int v), c] ∧ H' = H ∧ 0 ≤ v ∧ v < 1000000007)
      ⟨0, none, rfl, rfl, by decide, by decide⟩ (fun i σ H' _ ⟨_, _, _, e, _⟩ => e ▸ hS) ?_ ?_⟩
    · rintro i y σ H' hi ⟨v, c, rfl, rfl, h0, h1⟩
      obtain ⟨z, rfl⟩ : ∃ z, y = V.int z := by
        rw [List.getElem?_map] at hi
        cases e : ns[i]? with
        | none => rw [e] at hi; cases hi
        | some z => rw [e] at hi; exact ⟨z, (Option.some.inj hi).symm⟩
      refine ⟨_, rfl, _, _, rfl, rfl, .inl ⟨by omega, by omega⟩, _, rfl, _, _, rfl, rfl, .inl ⟨_, rfl, ?_⟩⟩
      refine ⟨_, _, rfl, rfl, (by show (0 : Int) < 1000000007; decide), ?_⟩
      exact ⟨_, _, rfl, rfl, Int.emod_nonneg _ (by decide), Int.emod_lt_of_pos _ (by decide)⟩
    · rintro σ H' ⟨v, c, rfl, rfl, h0, h1⟩
      intro p hp
      refine ⟨_, rfl, a, _, rfl, .inl (Same.seq (Same.new hp) hS), fun l hl' => ?_⟩
      refine ⟨_, rfl, ?_⟩
      have npl : p ≠ l := ne_of_none upd_same hl'
      refine ⟨by rw [upd_ne npl, upd_same], penK l 0 0 0 v, rfl, (by show 5 ≤ 15; decide), ?_⟩
      rw [merge_pen]
      have hl0 : H' l = none := (Same.new hp).free hl'
      refine k p l _ (fun b o e => ?_) ⟨0, 0, 0, v, ns, upd_same, ?_, by decide, by omega, by decide, by decide, by decide, h0, by omega⟩
      · rw [upd_ne (ne_of_none e hp), upd_ne (ne_of_none e hl0), upd_ne (ne_of_none e hp)]
        exact e
      · rw [upd_ne npl.symm, upd_same]
theorem ok_draw {f : Addr} {fd : FuncData} (F : Fun K "_law_draw" "_law_draw" s_law_draw f fd) (T : Txt K mg) : FnOk P w K mg base CX0 1 f fd ["_law_pen_here", "_law_many"] spDraw := by
  refine F.ok sc_law_draw (fun vs H Q E h => ?_) (fun cdv A outer s H vs Q E hr h => ?_)
  · obtain ⟨p, c, many, m, rfl, _⟩ := h
    rfl
  · obtain ⟨p, c, many, m, rfl, hP, hm, h0, h1, k⟩ := h
    have hu := hu_of hr
    refine ⟨_, pss_cons (ps_dput hu (pv 0) pe_str (pe_op op_add (pe_dget hu (pv 0) pe_str (fun _ _ => rfl)) pe_int) rfl)
      (C8.pss_cut (ps_if (PW.pt (pw_and (pt_cmpR op_eq (pe_dget hu (pv 0) pe_str (fun _ _ => rfl)) pe_int (nomark _))
          (pw_and1 (pt_cmpR op_lt (pe_dget hu (pv 0) pe_str (fun _ _ => rfl)) (pe_callB call_len_seq (by rfl) T.len PySem.boot_len (pa_cons (pe_dget hu (pv 0) pe_str (fun _ _ => rfl)) pa_nil)) (nomark _)))))
        (pss_cons (ps_set (i := 2) sc_law_draw.nd rfl (Or.inl rfl) (pe_ix ix_list (pe_dget hu (pv 0) pe_str (fun _ _ => rfl)) (pe_dget hu (pv 0) pe_str (fun _ _ => rfl)) (fun _ _ => rfl)))
        (pss_cons (ps_dput hu (pv 0) pe_str (pe_op op_add (pe_dget hu (pv 0) pe_str (fun _ _ => rfl)) pe_int) rfl)
        (pss_one (ps_if (pt_cmpR op_ge (pv 2) (pe_op op_pow pe_int pe_int) (nomark _))
          (pss_one (ps_dput hu (pv 0) pe_str (pe_op op_sub (pv 2) (pe_op op_pow pe_int pe_int)) rfl))
          (pss_one (ps_dput hu (pv 0) pe_str (pe_op op_mod (pe_callTy call_int1 (by rfl) T.int (by decide +kernel) (pa_cons (pe_op op_add (pe_op op_mul (pe_dget hu (pv 0) pe_str (fun _ _ => rfl)) pe_int) (pv 2)) pa_nil)) pe_int) rfl))))))
        pss_nil)
      (pss_cons (ps_if (pt_cmpR op_gt (pe_dget hu (pv 0) pe_str (fun _ _ => rfl)) pe_int (nomark _))
        (pss_cons (ps_set (i := 3) sc_law_draw.nd rfl (Or.inl rfl) (pe_op op_modN (pe_callTy call_int1 (by rfl) T.int (by decide +kernel) (pa_cons (pe_dget hu (pv 0) pe_str (fun _ _ => rfl)) pa_nil)) (pv 1)))
        (pss_cons (ps_dput hu (pv 0) pe_str (pe_op op_fdivN (pe_dget hu (pv 0) pe_str (fun _ _ => rfl)) (pv 1)) rfl)
        (pss_one (ps_ret (pv 3)))))
        pss_nil)
      (pss_cons (ps_set (i := 4) sc_law_draw.nd rfl (Or.inl rfl) (pe_op op_add (pe_op op_add (pe_dget hu (pv 0) pe_str (fun _ _ => rfl)) (pe_op op_mul (pe_dget hu (pv 0) pe_str (fun _ _ => rfl)) pe_int)) pe_int))
      (pss_one (ps_ret (pe_op op_modN (pe_op op_fdiv (pe_callTy call_int1 (by rfl) T.int (by decide +kernel) (pa_cons (pe_op op_mod (pe_op op_pow (pv 4) pe_int) pe_int) pa_nil)) pe_int) (pv 1))))))), ?_⟩
    obtain ⟨a, d, n, fo, ns, hp, hc, b1, b2, b3, b4, b5, b6, b7⟩ := hP
    have npc : c ≠ p := ne_of hc hp (by intro z; cases z)
    have get : ∀ {z1 z2 z3 : Option V} {H1 : Hp} {c : Addr} {a d n f : Int} {k : Key} {v : V}, H1 p = some (.dK (penK c a d n f)) → valV (penK c a d n f) k = some v →
      Val (tDGet (tVar 0) (tC (kV k))) [some (.ref p), some (.int many), z1, z2, z3] H1 v := fun h1 h2 => v_get (val_var rfl) h1 h2
    have pn : ∀ {H1 : Hp} {o : HO}, H1 c = some (.lst (ns.map V.int)) → upd H1 p o c = some (.lst (ns.map V.int)) := fun e => by rw [upd_ne npc]; exact e
    have bu : ∀ {H1 : Hp} {o : HO}, But p H H1 → But p H (upd H1 p o) := fun e b o h ne => by rw [upd_ne ne]; exact e b o h ne
    -- count
    refine s_put (k := kCo) (val_var rfl) (v_I0 (get (k := kCo) hp pen_count) val_c) hp (by show 5 ≤ 100; decide) ?_
    rw [put_count]
    have hp1 : upd H p (HO.dK (penK c a d (n + 1) fo)) p = some (.dK (penK c a d (n + 1) fo)) := upd_same
    have hc1 : upd H p (HO.dK (penK c a d (n + 1) fo)) c = some (.lst (ns.map V.int)) := pn hc
    have bt : But p H (upd H p (HO.dK (penK c a d (n + 1) fo))) := bu But.refl
    generalize upd H p (HO.dK (penK c a d (n + 1) fo)) = H1 at hp1 hc1 bt
    refine ⟨fun σ' H' => ∃ (a' d' f' : Int) (z : Option V), σ' = [some (.ref p), some (.int many), z, none, none] ∧ But p H H' ∧ H' p = some (.dK (penK c a' d' (n + 1) f')) ∧ H' c = some (.lst (ns.map V.int)) ∧
      0 ≤ a' ∧ a' ≤ ns.length ∧ 0 ≤ d' ∧ 0 ≤ f' ∧ f' < 2147483587, ?_, ?_⟩
    · -- a cell is taken
      refine st_if (b := decide (d = 0) && decide (a < ns.length)) (ans_and2 ((ans_eq (get (k := kDi) hp1 pen_digits) val_c rfl rfl).to (by simp)) ((a_I (get (k := kAt) hp1 pen_at) (v_len (get (k := kCe) hp1 pen_cells) (.inl (SqL.of hc1)))).to (by simp))) (fun e => ?_) (fun e => ?_)
      · have e1 : d = 0 ∧ a < ns.length := by simpa using e
        obtain ⟨i, rfl⟩ : ∃ i : Nat, a = i := ⟨a.toNat, by omega⟩
        have hi : i < ns.length := by omega
        refine st_set (v := .int ns[i]) (v_ixL (get (k := kCe) hp1 pen_cells) (get (k := kAt) hp1 pen_at) (SqL.of hc1) (by simp [hi])) ?_
        refine s_put (k := kAt) (val_var rfl) (v_I0 (get (k := kAt) hp1 pen_at) val_c) hp1 (by show 5 ≤ 100; decide) ?_
        rw [put_at]
        refine st_if (b := decide (ns[i] ≥ 10 ^ 18)) ((a_I (val_var rfl) (v_pow val_c val_c ⟨by decide, by decide, by decide⟩)).to ?_) (fun e2 => ?_) (fun e2 => ?_)
        · simp
        · refine s_put (k := kDi) (val_var rfl) (v_I0 (val_var rfl) (v_pow val_c val_c ⟨by decide, by decide, by decide⟩)) upd_same (by show 5 ≤ 100; decide) ?_
          rw [put_digits]
          exact ⟨_, _, _, _, rfl, bu (bu bt), upd_same, pn (pn hc1), by omega, by omega, by simp at e2; simp; omega, b6, b7⟩
        · refine s_put (k := kFo) (val_var rfl) (v_I (v_int1 (v_I0 (v_I (get (k := kFo) upd_same pen_fold) val_c (.inl ⟨by omega, by omega⟩)) (val_var rfl))) val_c (by decide)) upd_same (by show 5 ≤ 100; decide) ?_
          rw [put_fold]
          exact ⟨_, _, _, _, rfl, bu (bu bt), upd_same, pn (pn hc1), by omega, by omega, b3, Int.emod_nonneg _ (by decide), Int.emod_lt_of_pos _ (by decide)⟩
      · exact ⟨a, d, fo, none, rfl, bt, hp1, hc1, b1, b2, b3, b6, b7⟩
    · rintro σ' H' ⟨a', d', f', z, rfl, bt', hp', hc', g1, g2, g3, g4, g5⟩
      refine st_if (b := decide (0 < d')) ((a_I (get (k := kDi) hp' pen_digits) val_c).to (by simp)) (fun e => ?_) (fun e => ?_)
      · have e1 : 0 < d' := by simpa using e
        refine st_set (v_I (v_int1 (get (k := kDi) hp' pen_digits)) (val_var rfl) (by omega)) ?_
        refine s_put (k := kDi) (val_var rfl) (v_I (get (k := kDi) hp' pen_digits) (val_var rfl) ⟨by omega, by omega⟩) hp' (by show 5 ≤ 100; decide) ?_
        rw [put_digits]
        refine st_ret (val_var rfl) ?_
        refine k _ _ (Int.fmod_nonneg_of_pos _ h0) (Int.fmod_lt_of_pos _ h0) (bu bt') ⟨_, _, _, _, _, upd_same, pn hc', g1, g2, Int.fdiv_nonneg (by omega) (by omega), by omega, by omega, g4, g5⟩
      · refine st_set (v_add (v_add (get (k := kFo) hp' pen_fold) (v_mul (get (k := kCo) hp' pen_count) val_c (.inl ⟨by omega, by unfold most at hm; omega⟩))) val_c) ?_
        refine st_ret (v_fmod (v_div (v_int1 (v_mod (v_pow (val_var rfl) val_c ⟨by decide, by decide, by unfold most at hm; omega⟩) val_c (by decide))) val_c ⟨by decide, by decide⟩) (val_var rfl) (by omega)) ?_
        exact k _ _ (Int.fmod_nonneg_of_pos _ h0) (Int.fmod_lt_of_pos _ h0) bt' ⟨_, _, _, _, _, hp', hc', g1, g2, g3, by omega, by omega, g4, g5⟩
theorem scI_BadText : FnScope ["self", "column"] ["self", "column"] (defScope (inClass (top 2) 0)) := ⟨rfl, rfl, rfl, by decide +kernel, rfl, by decide +kernel, by decide +kernel⟩
theorem init_BadText (T : Txt K mg) : FnOk P w K mg base CX0 1 (iA K (fA mg "BadText")) (fDat K (iA K (fA mg "BadText"))) ["self", "column"] (spI1 (fA mg "BadText") "column") := by
  refine T.BadText.F.ok scI_BadText (fun vs H Q E h => ?_) (fun cdv A outer s H vs Q E hr h => ?_)
  · obtain ⟨a, v, rfl, _⟩ := h
    rfl
  · obtain ⟨a, v, rfl, ha, k⟩ := h
    exact ⟨_, pss_one (ps_ost (pv 0) (pv 1)), s_ost1 T.BadText.o (T.BadText.n _ (by simp)) ha rfl rfl k⟩
theorem scI_BadLine : FnScope ["self", "line", "column"] ["self", "line", "column"] (defScope (inClass (top 3) 0)) := ⟨rfl, rfl, rfl, by decide +kernel, rfl, by decide +kernel, by decide +kernel⟩
theorem init_BadLine (T : Txt K mg) : FnOk P w K mg base CX0 1 (iA K (fA mg "BadLine")) (fDat K (iA K (fA mg "BadLine"))) ["self", "line", "column"] (spI2 (fA mg "BadLine") "line" "column") := by
  refine T.BadLine.F.ok scI_BadLine (fun vs H Q E h => ?_) (fun cdv A outer s H vs Q E hr h => ?_)
  · obtain ⟨a, v, u, rfl, _⟩ := h
    rfl
  · obtain ⟨a, v, u, rfl, ha, k⟩ := h
    refine ⟨_, pss_cons (ps_ost (pv 0) (pv 1)) (pss_one (ps_ost (pv 0) (pv 2))), s_ost1 T.BadLine.o (T.BadLine.n _ (by simp)) ha rfl rfl fun dx hd ne => ?_⟩
    exact s_ost2 T.BadLine.o (T.BadLine.n _ (by simp)) upd_same (by rw [upd_ne ne, upd_same]) rfl rfl (k dx hd ne)
theorem scI_BadNumber : FnScope ["self", "what", "number"] ["self", "what", "number"] (defScope (inClass (top 4) 0)) := ⟨rfl, rfl, rfl, by decide +kernel, rfl, by decide +kernel, by decide +kernel⟩
theorem init_BadNumber (T : Txt K mg) : FnOk P w K mg base CX0 1 (iA K (fA mg "BadNumber")) (fDat K (iA K (fA mg "BadNumber"))) ["self", "what", "number"] (spI2 (fA mg "BadNumber") "what" "number") := by
  refine T.BadNumber.F.ok scI_BadNumber (fun vs H Q E h => ?_) (fun cdv A outer s H vs Q E hr h => ?_)
  · obtain ⟨a, v, u, rfl, _⟩ := h
    rfl
  · obtain ⟨a, v, u, rfl, ha, k⟩ := h
    refine ⟨_, pss_cons (ps_ost (pv 0) (pv 1)) (pss_one (ps_ost (pv 0) (pv 2))), s_ost1 T.BadNumber.o (T.BadNumber.n _ (by simp)) ha rfl rfl fun dx hd ne => ?_⟩
    exact s_ost2 T.BadNumber.o (T.BadNumber.n _ (by simp)) upd_same (by rw [upd_ne ne, upd_same]) rfl rfl (k dx hd ne)
theorem scI_BadRow : FnScope ["self", "row"] ["self", "row"] (defScope (inClass (top 5) 0)) := ⟨rfl, rfl, rfl, by decide +kernel, rfl, by decide +kernel, by decide +kernel⟩
theorem init_BadRow (T : Txt K mg) : FnOk P w K mg base CX0 1 (iA K (fA mg "BadRow")) (fDat K (iA K (fA mg "BadRow"))) ["self", "row"] (spI1 (fA mg "BadRow") "row") := by
  refine T.BadRow.F.ok scI_BadRow (fun vs H Q E h => ?_) (fun cdv A outer s H vs Q E hr h => ?_)
  · obtain ⟨a, v, rfl, _⟩ := h
    rfl
  · obtain ⟨a, v, rfl, ha, k⟩ := h
    exact ⟨_, pss_one (ps_ost (pv 0) (pv 1)), s_ost1 T.BadRow.o (T.BadRow.n _ (by simp)) ha rfl rfl k⟩
theorem scI_BadName : FnScope ["self", "name"] ["self", "name"] (defScope (inClass (top 6) 0)) := ⟨rfl, rfl, rfl, by decide +kernel, rfl, by decide +kernel, by decide +kernel⟩
theorem init_BadName (T : Txt K mg) : FnOk P w K mg base CX0 1 (iA K (fA mg "BadName")) (fDat K (iA K (fA mg "BadName"))) ["self", "name"] (spI1 (fA mg "BadName") "name") := by
  refine T.BadName.F.ok scI_BadName (fun vs H Q E h => ?_) (fun cdv A outer s H vs Q E hr h => ?_)
  · obtain ⟨a, v, rfl, _⟩ := h
    rfl
  · obtain ⟨a, v, rfl, ha, k⟩ := h
    exact ⟨_, pss_one (ps_ost (pv 0) (pv 1)), s_ost1 T.BadName.o (T.BadName.n _ (by simp)) ha rfl rfl k⟩
theorem scI_Shared : FnScope ["self", "plane"] ["self", "plane"] (defScope (inClass (top 7) 0)) := ⟨rfl, rfl, rfl, by decide +kernel, rfl, by decide +kernel, by decide +kernel⟩
theorem init_Shared (T : Txt K mg) : FnOk P w K mg base CX0 1 (iA K (fA mg "Shared")) (fDat K (iA K (fA mg "Shared"))) ["self", "plane"] (spI1 (fA mg "Shared") "plane") := by
  refine T.Shared.F.ok scI_Shared (fun vs H Q E h => ?_) (fun cdv A outer s H vs Q E hr h => ?_)
  · obtain ⟨a, v, rfl, _⟩ := h
    rfl
  · obtain ⟨a, v, rfl, ha, k⟩ := h
    exact ⟨_, pss_one (ps_ost (pv 0) (pv 1)), s_ost1 T.Shared.o (T.Shared.n _ (by simp)) ha rfl rfl k⟩
theorem scI_NoRest : FnScope ["self", "place"] ["self", "place"] (defScope (inClass (top 8) 0)) := ⟨rfl, rfl, rfl, by decide +kernel, rfl, by decide +kernel, by decide +kernel⟩
theorem init_NoRest (T : Txt K mg) : FnOk P w K mg base CX0 1 (iA K (fA mg "NoRest")) (fDat K (iA K (fA mg "NoRest"))) ["self", "place"] (spI1 (fA mg "NoRest") "place") := by
  refine T.NoRest.F.ok scI_NoRest (fun vs H Q E h => ?_) (fun cdv A outer s H vs Q E hr h => ?_)
  · obtain ⟨a, v, rfl, _⟩ := h
    rfl
  · obtain ⟨a, v, rfl, ha, k⟩ := h
    exact ⟨_, pss_one (ps_ost (pv 0) (pv 1)), s_ost1 T.NoRest.o (T.NoRest.n _ (by simp)) ha rfl rfl k⟩
theorem scI_NoName : FnScope ["self", "name"] ["self", "name"] (defScope (inClass (top 10) 0)) := ⟨rfl, rfl, rfl, by decide +kernel, rfl, by decide +kernel, by decide +kernel⟩
theorem init_NoName (T : Txt K mg) : FnOk P w K mg base CX0 1 (iA K (fA mg "NoName")) (fDat K (iA K (fA mg "NoName"))) ["self", "name"] (spI1 (fA mg "NoName") "name") := by
  refine T.NoName.F.ok scI_NoName (fun vs H Q E h => ?_) (fun cdv A outer s H vs Q E hr h => ?_)
  · obtain ⟨a, v, rfl, _⟩ := h
    rfl
  · obtain ⟨a, v, rfl, ha, k⟩ := h
    exact ⟨_, pss_one (ps_ost (pv 0) (pv 1)), s_ost1 T.NoName.o (T.NoName.n _ (by simp)) ha rfl rfl k⟩
theorem scI_TakenName : FnScope ["self", "name"] ["self", "name"] (defScope (inClass (top 11) 0)) := ⟨rfl, rfl, rfl, by decide +kernel, rfl, by decide +kernel, by decide +kernel⟩
theorem init_TakenName (T : Txt K mg) : FnOk P w K mg base CX0 1 (iA K (fA mg "TakenName")) (fDat K (iA K (fA mg "TakenName"))) ["self", "name"] (spI1 (fA mg "TakenName") "name") := by
  refine T.TakenName.F.ok scI_TakenName (fun vs H Q E h => ?_) (fun cdv A outer s H vs Q E hr h => ?_)
  · obtain ⟨a, v, rfl, _⟩ := h
    rfl
  · obtain ⟨a, v, rfl, ha, k⟩ := h
    exact ⟨_, pss_one (ps_ost (pv 0) (pv 1)), s_ost1 T.TakenName.o (T.TakenName.n _ (by simp)) ha rfl rfl k⟩
theorem scI_NotKept : FnScope ["self", "promise", "witness"] ["self", "promise", "witness"] (defScope (inClass (top 12) 0)) := ⟨rfl, rfl, rfl, by decide +kernel, rfl, by decide +kernel, by decide +kernel⟩
theorem init_NotKept (T : Txt K mg) : FnOk P w K mg base CX0 1 (iA K (fA mg "NotKept")) (fDat K (iA K (fA mg "NotKept"))) ["self", "promise", "witness"] (spI2 (fA mg "NotKept") "promise" "witness") := by
  refine T.NotKept.F.ok scI_NotKept (fun vs H Q E h => ?_) (fun cdv A outer s H vs Q E hr h => ?_)
  · obtain ⟨a, v, u, rfl, _⟩ := h
    rfl
  · obtain ⟨a, v, u, rfl, ha, k⟩ := h
    refine ⟨_, pss_cons (ps_ost (pv 0) (pv 1)) (pss_one (ps_ost (pv 0) (pv 2))), s_ost1 T.NotKept.o (T.NotKept.n _ (by simp)) ha rfl rfl fun dx hd ne => ?_⟩
    exact s_ost2 T.NotKept.o (T.NotKept.n _ (by simp)) upd_same (by rw [upd_ne ne, upd_same]) rfl rfl (k dx hd ne)
theorem But.seq {K : PySem.W.Frag} {H H' : Hp} {p q : Addr} {kvs : List (Key × V)} {xs : List V} (b : But p H H') (hp : H p = some (.dK kvs)) (h : SqL K H q xs) : SqL K H' q xs := by
  rcases h with (h | ⟨o, h⟩) | h
  · exact .inl (.inl (b _ _ h (ne_of h hp (by intro z; cases z))))
  · exact .inl (.inr ⟨o, b _ _ h (ne_of h hp (by intro z; cases z))⟩)
  · exact .inr h
theorem PenAt.dk {H : Hp} {p c : Addr} {m : Nat} (h : PenAt H p c m) : ∃ kvs, H p = some (.dK kvs) := by
  obtain ⟨a, d, n, f, ns, h1, _⟩ := h
  exact ⟨_, h1⟩
/-- one item of a list is drawn -/
def spPick (K : PySem.W.Frag) : Sp := fun vs H Q _ => ∃ (p c q : Addr) (xs : List V) (m : Nat), vs = [.ref p, .ref q] ∧ PenAt H p c m ∧ m < most ∧ SqL K H q xs ∧ 0 < xs.length ∧ xs.length < 1000000000 ∧
  ∀ (v : V) (H' : Hp), v ∈ xs → But p H H' → PenAt H' p c (m + 1) → Q v H'
theorem ok_pick (T : Txt K mg) : FnOk P w K mg base CX0 3 (fA mg "_law_pick") (fDat K (fA mg "_law_pick")) ["_law_pen_here", "_law_some"] (spPick K) := by
  have G_law_draw := ok_draw (P := P) (w := w) (base := base) T._law_draw.F T
  refine T._law_pick.F.ok sc_law_pick (fun vs H Q E h => ?_) (fun cdv A outer s H vs Q E hr h => ?_)
  · obtain ⟨p, c, q, xs, m, rfl, _⟩ := h
    rfl
  · obtain ⟨p, c, q, xs, m, rfl, hP, hm, hS, h0, h1, k⟩ := h
    refine ⟨_, (pss_one (ps_ret (pe_ix ix_list (pv 1) (pe_c T._law_draw G_law_draw (hr.mono (by decide)) (pa_cons (pv 0) (pa_cons (pe_callB call_len_seq (by rfl) T.len PySem.boot_len (pa_cons (pv 1) pa_nil)) pa_nil))) (fun _ _ => rfl)))), ?_⟩
    refine ⟨_, rfl, c_call (va_cons (val_var rfl) (va_cons (v_len (val_var rfl) (.inl hS)) va_nil)) ⟨p, c, _, m, rfl, hP, hm, by omega, by omega, fun r H' r0 r1 b P' => ?_⟩⟩
    obtain ⟨kvs, hd⟩ := hP.dk
    obtain ⟨i, rfl⟩ : ∃ i : Nat, r = i := ⟨r.toNat, by omega⟩
    have hi : i < xs.length := by omega
    exact ⟨q, xs, i, xs[i], rfl, rfl, b.seq hd hS, atI_nat (List.getElem?_eq_getElem hi), k _ _ (List.getElem_mem hi) b P'⟩
/-- a number of any of some sizes -/
def big : Int := 1000000000000000000
def spFar : Sp := fun vs H Q _ => ∃ (p c : Addr) (m : Nat), vs = [.ref p] ∧ PenAt H p c m ∧ m + 8 < most ∧ ∀ (n : Int) (H' : Hp), -big < n → n < big → But p H H' → PenAt H' p c (m + 8) → Q (.int n) H'
theorem ok_far (T : Txt K mg) : FnOk P w K mg base CX0 5 (fA mg "_law_far") (fDat K (fA mg "_law_far")) ["_law_pen_here"] spFar := by
  have G_law_draw := ok_draw (P := P) (w := w) (base := base) T._law_draw.F T
  have G_law_pick := ok_pick (P := P) (w := w) (base := base) T
  refine T._law_far.F.ok sc_law_far (fun vs H Q E h => ?_) (fun cdv A outer s H vs Q E hr h => ?_)
  · obtain ⟨p, c, m, rfl, _⟩ := h
    rfl
  · obtain ⟨p, c, m, rfl, hP, hm, k⟩ := h
    refine ⟨_, (pss_cons (ps_set (i := 1) sc_law_far.nd rfl (Or.inl rfl) pe_int)
  (pss_cons (ps_for PassesOwn.never rfl (pi_range1 (by rfl) T.range (pa_cons (pe_c T._law_pick G_law_pick (hr.mono (by decide)) (pa_cons (pv 0) (pa_cons (pe_lst (pa_cons pe_int (pa_cons pe_int (pa_cons pe_int (pa_cons pe_int (pa_cons pe_int pa_nil)))))) pa_nil))) pa_nil)) (pg_name (i := 2) sc_law_far.nd rfl (Or.inl rfl))
  (pss_one (ps_set (i := 1) sc_law_far.nd rfl (Or.inl rfl) (pe_op op_add (pe_op op_mul (pv 1) pe_int) (pe_c T._law_draw G_law_draw (hr.mono (by decide)) (pa_cons (pv 0) (pa_cons pe_int pa_nil)))))))
  (pss_one (ps_ret (pe_ifExp (pt_cmpR op_gt (pe_c T._law_draw G_law_draw (hr.mono (by decide)) (pa_cons (pv 0) (pa_cons pe_int pa_nil))) pe_int (nomark _)) (pv 1) (pe_un un_neg (pv 1))))))), ?_⟩
    -- how many groups of three figures
    refine ⟨_, rfl, l_lst (va_cons val_c (va_cons val_c (va_cons val_c (va_cons val_c (va_cons val_c va_nil))))) (by decide) fun q hq => ?_⟩
    refine ⟨p, c, q, _, m, rfl, hP.same (Same.new hq), by omega, SqL.of upd_same, by decide, by decide, fun v H1 hv b1 P1 => ?_⟩
    obtain ⟨j, rfl, hj⟩ : ∃ j : Nat, v = .int j ∧ j ≤ 6 := by
      simp at hv
      rcases hv with e | e | e | e
      · exact ⟨0, e, by decide⟩
      · exact ⟨1, e, by decide⟩
      · exact ⟨2, e, by decide⟩
      · exact ⟨6, e, by decide⟩
    have b0 : But p H H1 := (But.of (Same.new hq)).trans b1
    refine ⟨(j : Int), rfl, by omega, by omega, for_range (lo := 0) (n := (j : Int).toNat) (fun i σ H' => ∃ (v : Int) (z : Option V), σ = [some (.ref p), some (.int v), z] ∧ But p H H' ∧ PenAt H' p c (m + 1 + i) ∧ 0 ≤ v ∧ v < ((1000 ^ i : Nat) : Int))
      ⟨0, none, rfl, b0, P1, by decide, by decide⟩ ?_ ?_⟩
    · rintro i σ H' hi ⟨v, z, rfl, b, P', v0, v1⟩
      have hi6 : i < 6 := by omega
      have hv : v < 1000000000000000 := by
        have : 1000 ^ i ≤ 1000 ^ 5 := Nat.pow_le_pow_right (by decide) (by omega)
        omega
      refine (v_mul (C := CMul) (val_var rfl) val_c (.inl ⟨by omega, by omega⟩)) _ ?_
      refine c_call (va_cons (val_var rfl) (va_cons val_c va_nil)) ⟨p, c, 1000, m + 1 + i, rfl, P', by omega, by decide, by decide, fun r H2 r0 r1 b2 P2 => ?_⟩
      refine ⟨_, _, rfl, rfl, _, _, rfl, b.trans b2, P2, by omega, ?_⟩
      rw [Nat.pow_succ]
      omega
    · rintro σ H' ⟨v, z, rfl, b, P', v0, v1⟩
      have hv : v < big := by
        have : 1000 ^ (j : Int).toNat ≤ 1000 ^ 6 := Nat.pow_le_pow_right (by decide) (by omega)
        unfold big
        omega
      refine c_call (va_cons (val_var rfl) (va_cons val_c va_nil)) ⟨p, c, 3, m + 1 + (j : Int).toNat, rfl, P', by omega, by decide, by decide, fun r H2 r0 r1 b2 P2 => ?_⟩
      refine ⟨_, _, rfl, rfl, _, rfl, ?_⟩
      refine ite2 (fun _ => ?_) (fun _ => ?_)
      · exact ⟨_, rfl, k _ _ (by unfold big at *; omega) hv (b.trans b2) (P2.le (by omega))⟩
      · exact ⟨_, rfl, _, rfl, k _ _ (by omega) (by unfold big at *; omega) (b.trans b2) (P2.le (by omega))⟩

/-! ### which class -/
theorem cs_0 (mg : Str → Option Value) : (Cs mg).getD 0 0 = fA mg "BadText" := rfl
theorem cs_1 (mg : Str → Option Value) : (Cs mg).getD 1 0 = fA mg "BadLine" := rfl
theorem cs_2 (mg : Str → Option Value) : (Cs mg).getD 2 0 = fA mg "BadNumber" := rfl
theorem cs_3 (mg : Str → Option Value) : (Cs mg).getD 3 0 = fA mg "BadRow" := rfl
theorem cs_4 (mg : Str → Option Value) : (Cs mg).getD 4 0 = fA mg "BadName" := rfl
theorem cs_5 (mg : Str → Option Value) : (Cs mg).getD 5 0 = fA mg "Shared" := rfl
theorem cs_6 (mg : Str → Option Value) : (Cs mg).getD 6 0 = fA mg "NoRest" := rfl
theorem cs_7 (mg : Str → Option Value) : (Cs mg).getD 7 0 = fA mg "NotRound" := rfl
theorem cs_8 (mg : Str → Option Value) : (Cs mg).getD 8 0 = fA mg "NoName" := rfl
theorem cs_9 (mg : Str → Option Value) : (Cs mg).getD 9 0 = fA mg "TakenName" := rfl
theorem cs_10 (mg : Str → Option Value) : (Cs mg).getD 10 0 = fA mg "NotKept" := rfl
theorem cs_11 (mg : Str → Option Value) : (Cs mg).getD 11 0 = fA mg "NothingToUndo" := rfl
theorem cs_12 (mg : Str → Option Value) : (Cs mg).getD 12 0 = fA mg "NothingToRedo" := rfl
def bools (k : Nat) : List V := (List.range 13).map fun j => V.bl (decide (k = j))
theorem bools_eq (k : Nat) : bools k = [.bl (decide (k = 0)), .bl (decide (k = 1)), .bl (decide (k = 2)), .bl (decide (k = 3)), .bl (decide (k = 4)), .bl (decide (k = 5)), .bl (decide (k = 6)), .bl (decide (k = 7)), .bl (decide (k = 8)), .bl (decide (k = 9)), .bl (decide (k = 10)), .bl (decide (k = 11)), .bl (decide (k = 12))] := by
  simp [bools, List.range, List.range.loop]
theorem Txt.exc (T : Txt K mg) : ∀ k, k < 13 → ExcC K ((Cs mg).getD k 0)
  | 0, _ => T.BadText.e
  | 1, _ => T.BadLine.e
  | 2, _ => T.BadNumber.e
  | 3, _ => T.BadRow.e
  | 4, _ => T.BadName.e
  | 5, _ => T.Shared.e
  | 6, _ => T.NoRest.e
  | 7, _ => T.NotRound.e
  | 8, _ => T.NoName.e
  | 9, _ => T.TakenName.e
  | 10, _ => T.NotKept.e
  | 11, _ => T.NothingToUndo.e
  | 12, _ => T.NothingToRedo.e
  | k + 13, h => absurd h (by omega)
theorem Txt.kinds (T : Txt K mg) {i j : Nat} (hi : i < 13) (hj : j < 13) : PySem.W.kitOne K (.ref ((Cs mg).getD i 0)) (.ref ((Cs mg).getD j 0)) = some (decide (i = j)) := by
  have h := T.kk
  unfold kindsB at h
  have h1 := List.all_eq_true.mp h i (List.mem_range.mpr (by simpa [Cs] using hi))
  have h2 := List.all_eq_true.mp h1 j (List.mem_range.mpr (by simpa [Cs] using hj))
  exact eq_of_beq h2
theorem Txt.flow (T : Txt K mg) {i : Nat} (hi : i < 13) : PySem.W.kitOne K (.ref ((Cs mg).getD i 0)) (.ref (fA mg "FlowError")) = some true ∧ PySem.W.kitOne K (.ref ((Cs mg).getD i 0)) (.type "ValueError") = some true := by
  have h := T.kf
  unfold flowB at h
  have hl : i < (Cs mg).length := by simpa [Cs] using hi
  have e : (Cs mg).getD i 0 = (Cs mg)[i] := by simp [List.getD, List.getElem?_eq_getElem hl]
  have h1 := List.all_eq_true.mp h (Cs mg)[i] (List.getElem_mem hl)
  rw [← e] at h1
  obtain ⟨a, b⟩ := Bool.and_eq_true_iff.mp h1
  exact ⟨eq_of_beq a, eq_of_beq b⟩
def spKinds (mg : Str → Option Value) : Sp := fun vs H Q _ => ∃ (a : Addr) (k : Nat) (fs : List (Str × V)), vs = [.ref a] ∧ k < 13 ∧ IsEx H a ((Cs mg).getD k 0) fs ∧ ∀ (p : Addr) (H' : Hp), Same H H' → H' p = some (.lst (bools k)) → Q (.ref p) H'
theorem ok_kinds (T : Txt K mg) : FnOk P w K mg base CX0 2 (fA mg "_law_kinds") (fDat K (fA mg "_law_kinds")) ["_law_e"] (spKinds mg) := by
  refine T._law_kinds.F.ok sc_law_kinds (fun vs H Q E h => ?_) (fun cdv A outer s H vs Q E hr h => ?_)
  · obtain ⟨a, k, fs, rfl, _⟩ := h
    rfl
  · obtain ⟨a, k, fs, rfl, hk, hx, kk⟩ := h
    refine ⟨_, (pss_cons (ps_set (i := 1) sc_law_kinds.nd rfl (Or.inl rfl) (pe_lst (pa_cons (pe_callB call_isX (by rfl) T.isinstance (by decide +kernel) (pa_cons (pv 0) (pa_cons (pe_cls T.BadText.g) pa_nil))) (pa_cons (pe_callB call_isX (by rfl) T.isinstance (by decide +kernel) (pa_cons (pv 0) (pa_cons (pe_cls T.BadLine.g) pa_nil))) (pa_cons (pe_callB call_isX (by rfl) T.isinstance (by decide +kernel) (pa_cons (pv 0) (pa_cons (pe_cls T.BadNumber.g) pa_nil))) (pa_cons (pe_callB call_isX (by rfl) T.isinstance (by decide +kernel) (pa_cons (pv 0) (pa_cons (pe_cls T.BadRow.g) pa_nil))) pa_nil))))))
  (pss_cons (ps_set (i := 1) sc_law_kinds.nd rfl (Or.inl rfl) (pe_op op_cat (pv 1) (pe_lst (pa_cons (pe_callB call_isX (by rfl) T.isinstance (by decide +kernel) (pa_cons (pv 0) (pa_cons (pe_cls T.BadName.g) pa_nil))) (pa_cons (pe_callB call_isX (by rfl) T.isinstance (by decide +kernel) (pa_cons (pv 0) (pa_cons (pe_cls T.Shared.g) pa_nil))) (pa_cons (pe_callB call_isX (by rfl) T.isinstance (by decide +kernel) (pa_cons (pv 0) (pa_cons (pe_cls T.NoRest.g) pa_nil))) (pa_cons (pe_callB call_isX (by rfl) T.isinstance (by decide +kernel) (pa_cons (pv 0) (pa_cons (pe_cls T.NotRound.g) pa_nil))) pa_nil)))))))
  (pss_cons (ps_set (i := 1) sc_law_kinds.nd rfl (Or.inl rfl) (pe_op op_cat (pv 1) (pe_lst (pa_cons (pe_callB call_isX (by rfl) T.isinstance (by decide +kernel) (pa_cons (pv 0) (pa_cons (pe_cls T.NoName.g) pa_nil))) pa_nil))))
  (pss_cons (ps_set (i := 1) sc_law_kinds.nd rfl (Or.inl rfl) (pe_op op_cat (pv 1) (pe_lst (pa_cons (pe_callB call_isX (by rfl) T.isinstance (by decide +kernel) (pa_cons (pv 0) (pa_cons (pe_cls T.TakenName.g) pa_nil))) (pa_cons (pe_callB call_isX (by rfl) T.isinstance (by decide +kernel) (pa_cons (pv 0) (pa_cons (pe_cls T.NotKept.g) pa_nil))) pa_nil)))))
  (pss_one (ps_ret (pe_op op_cat (pv 1) (pe_lst (pa_cons (pe_callB call_isX (by rfl) T.isinstance (by decide +kernel) (pa_cons (pv 0) (pa_cons (pe_cls T.NothingToUndo.g) pa_nil))) (pa_cons (pe_callB call_isX (by rfl) T.isinstance (by decide +kernel) (pa_cons (pv 0) (pa_cons (pe_cls T.NothingToRedo.g) pa_nil))) pa_nil)))))))))), ?_⟩
    have isj : ∀ (j : Nat) {C : Addr} (hj : j < 13) (hC : (Cs mg).getD j 0 = C) {z : Option V} {H1 : Hp}, Same H H1 → Val (tCB (rIsX K) (tCons (tVar 0) (tCons (tC (.ref C)) tNil))) [some (.ref a), z] H1 (.bl (decide (k = j))) := fun j C hj hC z H1 s => by
      subst hC
      exact v_isx (val_var rfl) (hx.keep s) (T.exc k hk) (fun w e => e) (T.kinds hk hj)
    refine' q_lst ?b1 ?z1 ?k1
    case b1 => exact va_cons (isj 0 (by decide) (cs_0 mg) (Same.refl H)) (va_cons (isj 1 (by decide) (cs_1 mg) (Same.refl H)) (va_cons (isj 2 (by decide) (cs_2 mg) (Same.refl H)) (va_cons (isj 3 (by decide) (cs_3 mg) (Same.refl H)) va_nil)))
    case z1 => simp
    intro p1 H1 s1 e1
    refine' q_catL (l := p1) (val_var rfl) e1 ?b2 ?y2 ?z2 ?k2
    case b2 => exact va_cons (isj 4 (by decide) (cs_4 mg) s1) (va_cons (isj 5 (by decide) (cs_5 mg) s1) (va_cons (isj 6 (by decide) (cs_6 mg) s1) (va_cons (isj 7 (by decide) (cs_7 mg) s1) va_nil)))
    case y2 => simp
    case z2 => simp
    intro p2 H2 s2 e2
    have t2 := s1.trans s2
    refine' q_catL (l := p2) (val_var rfl) e2 ?b3 ?y3 ?z3 ?k3
    case b3 => exact va_cons (isj 8 (by decide) (cs_8 mg) t2) va_nil
    case y3 => simp
    case z3 => simp
    intro p3 H3 s3 e3
    have t3 := t2.trans s3
    refine' q_catL (l := p3) (val_var rfl) e3 ?b4 ?y4 ?z4 ?k4
    case b4 => exact va_cons (isj 9 (by decide) (cs_9 mg) t3) (va_cons (isj 10 (by decide) (cs_10 mg) t3) va_nil)
    case y4 => simp
    case z4 => simp
    intro p4 H4 s4 e4
    have t4 := t3.trans s4
    refine' r_catL (l := p4) (val_var rfl) e4 ?b5 ?y5 ?z5 ?k5
    case b5 => exact va_cons (isj 11 (by decide) (cs_11 mg) t4) (va_cons (isj 12 (by decide) (cs_12 mg) t4) va_nil)
    case y5 => simp
    case z5 => simp
    intro p5 H5 s5 e5
    refine kk p5 H5 (t4.trans s5) ?_
    rw [bools_eq]
    exact e5

/-! ### one object of each class -/
def flds (a b : V) : Nat → List (Str × V)
  | 0 => [("column", a)]
  | 1 => [("column", b), ("line", a)]
  | 2 => [("number", b), ("what", a)]
  | 3 => [("row", a)]
  | 4 => [("name", a)]
  | 5 => [("plane", a)]
  | 6 => [("place", a)]
  | 7 => []
  | 8 => [("name", a)]
  | 9 => [("name", a)]
  | 10 => [("witness", b), ("promise", a)]
  | 11 => []
  | 12 => []
  | _ => []
def ObjAt (mg : Str → Option Value) (a b : V) (k : Nat) (v : V) (H : Hp) : Prop := ∃ e, v = .ref e ∧ IsEx H e ((Cs mg).getD k 0) (flds a b k)
theorem ObjAt.stays {mg : Str → Option Value} {a b : V} (k : Nat) : Stays (ObjAt mg a b k) := fun v H1 H2 s ⟨e, h1, h2⟩ => ⟨e, h1, h2.keep s⟩
def spObjs (mg : Str → Option Value) : Sp := fun vs H Q _ => ∃ (a b : V), vs = [a, b] ∧ ∀ (p : Addr) (xs : List V) (H' : Hp), Same H H' → H' p = some (.lst xs) → Rows (ObjAt mg a b) 0 13 xs H' → Q (.ref p) H'
theorem em1 {mg : Str → Option Value} {σ : L2.St} {H : Hp} {a b v : V} {k : Nat} {C : Addr} {f : Str} {ta : TA} (h : VA ta σ H [v]) (hC : (Cs mg).getD k 0 = C) (hf : flds a b k = [(f, v)]) : EM (tExV C (spI1 C f) ta) σ H (ObjAt mg a b k) := fun Q q =>
  made1 h fun e H' s x => q _ _ s ⟨e, rfl, by rw [hC, hf]; exact x⟩
theorem em2 {mg : Str → Option Value} {σ : L2.St} {H : Hp} {a b v u : V} {k : Nat} {C : Addr} {f g : Str} {ta : TA} (h : VA ta σ H [v, u]) (hC : (Cs mg).getD k 0 = C) (hf : flds a b k = [(g, u), (f, v)]) : EM (tExV C (spI2 C f g) ta) σ H (ObjAt mg a b k) := fun Q q =>
  made2 h fun e H' s x => q _ _ s ⟨e, rfl, by rw [hC, hf]; exact x⟩
theorem em0 {mg : Str → Option Value} {σ : L2.St} {H : Hp} {a b : V} {k : Nat} {C : Addr} (hC : (Cs mg).getD k 0 = C) (hf : flds a b k = []) : EM (fun (σ : L2.St) (H : Hp) (Q : VK) => ∀ a, H a = none → Q (.ref a) (upd H a (ExO (.ref C) a))) σ H (ObjAt mg a b k) := fun Q q =>
  fun e he => q _ _ (Same.new' he) ⟨e, rfl, by rw [hC, hf]; exact .bare upd_same⟩
theorem ok_objs (T : Txt K mg) : FnOk P w K mg base CX0 4 (fA mg "_law_objects") (fDat K (fA mg "_law_objects")) ["_law_a", "_law_b"] (spObjs mg) := by
  have Gi_BadText := init_BadText (P := P) (w := w) (base := base) T
  have Gi_BadLine := init_BadLine (P := P) (w := w) (base := base) T
  have Gi_BadNumber := init_BadNumber (P := P) (w := w) (base := base) T
  have Gi_BadRow := init_BadRow (P := P) (w := w) (base := base) T
  have Gi_BadName := init_BadName (P := P) (w := w) (base := base) T
  have Gi_Shared := init_Shared (P := P) (w := w) (base := base) T
  have Gi_NoRest := init_NoRest (P := P) (w := w) (base := base) T
  have Gi_NoName := init_NoName (P := P) (w := w) (base := base) T
  have Gi_TakenName := init_TakenName (P := P) (w := w) (base := base) T
  have Gi_NotKept := init_NotKept (P := P) (w := w) (base := base) T
  refine T._law_objects.F.ok sc_law_objects (fun vs H Q E h => ?_) (fun cdv A outer s H vs Q E hr h => ?_)
  · obtain ⟨a, b, rfl, _⟩ := h
    rfl
  · obtain ⟨a, b, rfl, k⟩ := h
    refine ⟨_, (pss_cons (ps_set (i := 2) sc_law_objects.nd rfl (Or.inl rfl) (pe_lst (pa_cons (pe_exV T.BadText.o T.BadText.i T.BadText.t Gi_BadText (hr.mono (by decide)) T.BadText.b (by rfl) T.BadText.g (pa_cons (pv 0) pa_nil)) (pa_cons (pe_exV T.BadLine.o T.BadLine.i T.BadLine.t Gi_BadLine (hr.mono (by decide)) T.BadLine.b (by rfl) T.BadLine.g (pa_cons (pv 0) (pa_cons (pv 1) pa_nil))) (pa_cons (pe_exV T.BadNumber.o T.BadNumber.i T.BadNumber.t Gi_BadNumber (hr.mono (by decide)) T.BadNumber.b (by rfl) T.BadNumber.g (pa_cons (pv 0) (pa_cons (pv 1) pa_nil))) (pa_cons (pe_exV T.BadRow.o T.BadRow.i T.BadRow.t Gi_BadRow (hr.mono (by decide)) T.BadRow.b (by rfl) T.BadRow.g (pa_cons (pv 0) pa_nil)) (pa_cons (pe_exV T.BadName.o T.BadName.i T.BadName.t Gi_BadName (hr.mono (by decide)) T.BadName.b (by rfl) T.BadName.g (pa_cons (pv 0) pa_nil)) (pa_cons (pe_exV T.Shared.o T.Shared.i T.Shared.t Gi_Shared (hr.mono (by decide)) T.Shared.b (by rfl) T.Shared.g (pa_cons (pv 0) pa_nil)) (pa_cons (pe_exV T.NoRest.o T.NoRest.i T.NoRest.t Gi_NoRest (hr.mono (by decide)) T.NoRest.b (by rfl) T.NoRest.g (pa_cons (pv 0) pa_nil)) (pa_cons (pe_exV0 PySem.F.excBase_ValueError T.NotRound.q T.NotRound.g T.NotRound.k (by rfl)) pa_nil))))))))))
  (pss_cons (ps_set (i := 2) sc_law_objects.nd rfl (Or.inl rfl) (pe_op op_cat (pv 2) (pe_lst (pa_cons (pe_exV T.NoName.o T.NoName.i T.NoName.t Gi_NoName (hr.mono (by decide)) T.NoName.b (by rfl) T.NoName.g (pa_cons (pv 0) pa_nil)) (pa_cons (pe_exV T.TakenName.o T.TakenName.i T.TakenName.t Gi_TakenName (hr.mono (by decide)) T.TakenName.b (by rfl) T.TakenName.g (pa_cons (pv 0) pa_nil)) (pa_cons (pe_exV T.NotKept.o T.NotKept.i T.NotKept.t Gi_NotKept (hr.mono (by decide)) T.NotKept.b (by rfl) T.NotKept.g (pa_cons (pv 0) (pa_cons (pv 1) pa_nil))) pa_nil))))))
  (pss_one (ps_ret (pe_op op_cat (pv 2) (pe_lst (pa_cons (pe_exV0 PySem.F.excBase_ValueError T.NothingToUndo.q T.NothingToUndo.g T.NothingToUndo.k (by rfl)) (pa_cons (pe_exV0 PySem.F.excBase_ValueError T.NothingToRedo.q T.NothingToRedo.g T.NothingToRedo.k (by rfl)) pa_nil)))))))), ?_⟩
    have big : ∀ {n m : Nat}, n ≤ 1000 → ∀ vs H', Rows (ObjAt mg a b) m n vs H' → vs.length ≤ 1000 := fun h vs H' r => by rw [r.2]; exact h
    refine' q_lstM (R := Rows (ObjAt mg a b) 0 8) (Rows.stays ObjAt.stays) ?m1 (big (by decide)) ?k1
    case m1 => exact vm_cons ObjAt.stays (em1 (va_cons (val_var rfl) va_nil) (cs_0 mg) rfl) fun _ _ => vm_cons ObjAt.stays (em2 (va_cons (val_var rfl) (va_cons (val_var rfl) va_nil)) (cs_1 mg) rfl) fun _ _ => vm_cons ObjAt.stays (em2 (va_cons (val_var rfl) (va_cons (val_var rfl) va_nil)) (cs_2 mg) rfl) fun _ _ => vm_cons ObjAt.stays (em1 (va_cons (val_var rfl) va_nil) (cs_3 mg) rfl) fun _ _ => vm_cons ObjAt.stays (em1 (va_cons (val_var rfl) va_nil) (cs_4 mg) rfl) fun _ _ => vm_cons ObjAt.stays (em1 (va_cons (val_var rfl) va_nil) (cs_5 mg) rfl) fun _ _ => vm_cons ObjAt.stays (em1 (va_cons (val_var rfl) va_nil) (cs_6 mg) rfl) fun _ _ => vm_cons ObjAt.stays (em0 (cs_7 mg) rfl) fun _ _ => vm_nil
    intro p1 xs1 H1 s1 e1 r1
    refine' q_catM (R := Rows (ObjAt mg a b) 8 3) (l := p1) (Rows.stays ObjAt.stays) (val_var rfl) e1 (big (by decide) _ _ r1) ?m2 (big (by decide)) ?k2
    case m2 => exact vm_cons ObjAt.stays (em1 (va_cons (val_var rfl) va_nil) (cs_8 mg) rfl) fun _ _ => vm_cons ObjAt.stays (em1 (va_cons (val_var rfl) va_nil) (cs_9 mg) rfl) fun _ _ => vm_cons ObjAt.stays (em2 (va_cons (val_var rfl) (va_cons (val_var rfl) va_nil)) (cs_10 mg) rfl) fun _ _ => vm_nil
    intro p2 xs2 H2 s2 e2 r2
    have t2 : Rows (ObjAt mg a b) 0 11 (xs1 ++ xs2) H2 := ⟨Run.app (Run.keep ObjAt.stays s2 r1.1) (by rw [r1.2]; exact r2.1), by rw [List.length_append, r1.2, r2.2]⟩
    refine' r_catM (R := Rows (ObjAt mg a b) 11 2) (l := p2) (Rows.stays ObjAt.stays) (val_var rfl) e2 (big (by decide) _ _ t2) ?m3 (big (by decide)) ?k3
    case m3 => exact vm_cons ObjAt.stays (em0 (cs_11 mg) rfl) fun _ _ => vm_cons ObjAt.stays (em0 (cs_12 mg) rfl) fun _ _ => vm_nil
    intro p3 xs3 H3 s3 e3 r3
    exact k p3 _ H3 ((s1.trans s2).trans s3) e3 ⟨Run.app (Run.keep ObjAt.stays s3 t2.1) (by rw [t2.2]; exact r3.1), by rw [List.length_append, t2.2, r3.2]⟩

/-! ### their fields -/
def want (a b : V) : Nat → List V
  | 0 => [a]
  | 1 => [a, b]
  | 2 => [a, b]
  | 3 => [a]
  | 4 => [a]
  | 5 => [a]
  | 6 => [a]
  | 7 => []
  | 8 => [a]
  | 9 => [a]
  | 10 => [a, b]
  | 11 => []
  | 12 => []
  | _ => []
def LstAt (a b : V) (k : Nat) (v : V) (H : Hp) : Prop := ∃ q, v = .ref q ∧ H q = some (.lst (want a b k))
theorem LstAt.stays {a b : V} (k : Nat) : Stays (LstAt a b k) := fun v H1 H2 s ⟨q, h1, h2⟩ => ⟨q, h1, s _ _ h2⟩
def spFields (K : PySem.W.Frag) (mg : Str → Option Value) : Sp := fun vs H Q _ => ∃ (a b : V) (p : Addr) (xs : List V), vs = [.ref p] ∧ H p = some (.lst xs) ∧ Rows (ObjAt mg a b) 0 13 xs H ∧
  ∀ (l : Addr) (ys : List V) (H' : Hp), Same H H' → H' l = some (.lst ys) → Rows (LstAt a b) 0 13 ys H' → Q (.ref l) H'
theorem ok_fields (T : Txt K mg) : FnOk P w K mg base CX0 2 (fA mg "_law_fields") (fDat K (fA mg "_law_fields")) ["_law_row"] (spFields K mg) := by
  refine T._law_fields.F.ok sc_law_fields (fun vs H Q E h => ?_) (fun cdv A outer s H vs Q E hr h => ?_)
  · obtain ⟨a, b, p, xs, rfl, _⟩ := h
    rfl
  · obtain ⟨a, b, p, xs, rfl, hp, hx, k⟩ := h
    refine ⟨_, (pss_cons (ps_set (i := 1) sc_law_fields.nd rfl (Or.inl rfl) (pe_lst (pa_cons (pe_lst (pa_cons (pe_fldX (pe_ix ix_list (pv 0) pe_int (fun _ _ => rfl))) pa_nil)) (pa_cons (pe_lst (pa_cons (pe_fldX (pe_ix ix_list (pv 0) pe_int (fun _ _ => rfl))) (pa_cons (pe_fldX (pe_ix ix_list (pv 0) pe_int (fun _ _ => rfl))) pa_nil))) (pa_cons (pe_lst (pa_cons (pe_fldX (pe_ix ix_list (pv 0) pe_int (fun _ _ => rfl))) (pa_cons (pe_fldX (pe_ix ix_list (pv 0) pe_int (fun _ _ => rfl))) pa_nil))) (pa_cons (pe_lst (pa_cons (pe_fldX (pe_ix ix_list (pv 0) pe_int (fun _ _ => rfl))) pa_nil)) pa_nil))))))
  (pss_cons (ps_set (i := 1) sc_law_fields.nd rfl (Or.inl rfl) (pe_op op_cat (pv 1) (pe_lst (pa_cons (pe_lst (pa_cons (pe_fldX (pe_ix ix_list (pv 0) pe_int (fun _ _ => rfl))) pa_nil)) (pa_cons (pe_lst (pa_cons (pe_fldX (pe_ix ix_list (pv 0) pe_int (fun _ _ => rfl))) pa_nil)) (pa_cons (pe_lst (pa_cons (pe_fldX (pe_ix ix_list (pv 0) pe_int (fun _ _ => rfl))) pa_nil)) (pa_cons (pe_lst pa_nil) (pa_cons (pe_lst (pa_cons (pe_fldX (pe_ix ix_list (pv 0) pe_int (fun _ _ => rfl))) pa_nil)) (pa_cons (pe_lst (pa_cons (pe_fldX (pe_ix ix_list (pv 0) pe_int (fun _ _ => rfl))) pa_nil)) pa_nil)))))))))
  (pss_one (ps_ret (pe_op op_cat (pv 1) (pe_lst (pa_cons (pe_lst (pa_cons (pe_fldX (pe_ix ix_list (pv 0) pe_int (fun _ _ => rfl))) (pa_cons (pe_fldX (pe_ix ix_list (pv 0) pe_int (fun _ _ => rfl))) pa_nil))) (pa_cons (pe_lst pa_nil) (pa_cons (pe_lst pa_nil) pa_nil))))))))), ?_⟩
    have big : ∀ {n m : Nat}, n ≤ 1000 → ∀ vs H', Rows (LstAt a b) m n vs H' → vs.length ≤ 1000 := fun h vs H' r => by rw [r.2]; exact h
    -- a field of the object at a place
    have fld : ∀ (j : Nat) {C : Addr} {f : Str} {v : V} {z : Option V} {H1 : Hp}, j < 13 → (Cs mg).getD j 0 = C → Same H H1 → PySem.W.findIn K (.ref C) f = some none → (flds a b j).lookup f = some v →
        Val (tFldX K f (tOp (rIxL K) (tVar 0) (tC (.int (j : Int))))) [some (.ref p), z] H1 v := fun j C f v z H1 hj hC s hn hl => by
      subst hC
      have hlt : j < xs.length := by rw [hx.2]; exact hj
      obtain ⟨e, he, x⟩ := Run.get hx.1 (List.getElem?_eq_getElem hlt)
      rw [Nat.zero_add] at x
      exact v_fldx (v_ixL (val_var rfl) val_c (SqL.of (s _ _ hp)) (by rw [List.getElem?_eq_getElem hlt, he])) (x.keep s) hl (T.exc j hj) hn
    refine' q_lstM (R := Rows (LstAt a b) 0 4) (Rows.stays LstAt.stays) ?m1 (big (by decide)) ?k1
    case m1 => exact vm_cons LstAt.stays (fun Q q => em_lst (va_cons (fld 0 (by decide) (cs_0 mg) (Same.refl H) (T.BadText.n _ (by simp)) rfl) va_nil) (by show 1 ≤ 100000; decide) Q fun v H' s ⟨l, h1, h2⟩ => q v H' s ⟨l, h1, h2⟩) fun H0x s0x => vm_cons LstAt.stays (fun Q q => em_lst (va_cons (fld 1 (by decide) (cs_1 mg) ((Same.refl H).trans s0x) (T.BadLine.n _ (by simp)) rfl) (va_cons (fld 1 (by decide) (cs_1 mg) ((Same.refl H).trans s0x) (T.BadLine.n _ (by simp)) rfl) va_nil)) (by show 2 ≤ 100000; decide) Q fun v H' s ⟨l, h1, h2⟩ => q v H' s ⟨l, h1, h2⟩) fun H1x s1x => vm_cons LstAt.stays (fun Q q => em_lst (va_cons (fld 2 (by decide) (cs_2 mg) (((Same.refl H).trans s0x).trans s1x) (T.BadNumber.n _ (by simp)) rfl) (va_cons (fld 2 (by decide) (cs_2 mg) (((Same.refl H).trans s0x).trans s1x) (T.BadNumber.n _ (by simp)) rfl) va_nil)) (by show 2 ≤ 100000; decide) Q fun v H' s ⟨l, h1, h2⟩ => q v H' s ⟨l, h1, h2⟩) fun H2x s2x => vm_cons LstAt.stays (fun Q q => em_lst (va_cons (fld 3 (by decide) (cs_3 mg) ((((Same.refl H).trans s0x).trans s1x).trans s2x) (T.BadRow.n _ (by simp)) rfl) va_nil) (by show 1 ≤ 100000; decide) Q fun v H' s ⟨l, h1, h2⟩ => q v H' s ⟨l, h1, h2⟩) fun H3x s3x => vm_nil
    intro p1 xs1 H1 s1 e1 r1
    refine' q_catM (R := Rows (LstAt a b) 4 6) (l := p1) (Rows.stays LstAt.stays) (val_var rfl) e1 (big (by decide) _ _ r1) ?m2 (big (by decide)) ?k2
    case m2 => exact vm_cons LstAt.stays (fun Q q => em_lst (va_cons (fld 4 (by decide) (cs_4 mg) s1 (T.BadName.n _ (by simp)) rfl) va_nil) (by show 1 ≤ 100000; decide) Q fun v H' s ⟨l, h1, h2⟩ => q v H' s ⟨l, h1, h2⟩) fun H4x s4x => vm_cons LstAt.stays (fun Q q => em_lst (va_cons (fld 5 (by decide) (cs_5 mg) (s1.trans s4x) (T.Shared.n _ (by simp)) rfl) va_nil) (by show 1 ≤ 100000; decide) Q fun v H' s ⟨l, h1, h2⟩ => q v H' s ⟨l, h1, h2⟩) fun H5x s5x => vm_cons LstAt.stays (fun Q q => em_lst (va_cons (fld 6 (by decide) (cs_6 mg) ((s1.trans s4x).trans s5x) (T.NoRest.n _ (by simp)) rfl) va_nil) (by show 1 ≤ 100000; decide) Q fun v H' s ⟨l, h1, h2⟩ => q v H' s ⟨l, h1, h2⟩) fun H6x s6x => vm_cons LstAt.stays (fun Q q => em_lst va_nil (by show 0 ≤ 100000; decide) Q fun v H' s ⟨l, h1, h2⟩ => q v H' s ⟨l, h1, h2⟩) fun H7x s7x => vm_cons LstAt.stays (fun Q q => em_lst (va_cons (fld 8 (by decide) (cs_8 mg) ((((s1.trans s4x).trans s5x).trans s6x).trans s7x) (T.NoName.n _ (by simp)) rfl) va_nil) (by show 1 ≤ 100000; decide) Q fun v H' s ⟨l, h1, h2⟩ => q v H' s ⟨l, h1, h2⟩) fun H8x s8x => vm_cons LstAt.stays (fun Q q => em_lst (va_cons (fld 9 (by decide) (cs_9 mg) (((((s1.trans s4x).trans s5x).trans s6x).trans s7x).trans s8x) (T.TakenName.n _ (by simp)) rfl) va_nil) (by show 1 ≤ 100000; decide) Q fun v H' s ⟨l, h1, h2⟩ => q v H' s ⟨l, h1, h2⟩) fun H9x s9x => vm_nil
    intro p2 xs2 H2 s2 e2 r2
    have t2 : Rows (LstAt a b) 0 10 (xs1 ++ xs2) H2 := ⟨Run.app (Run.keep LstAt.stays s2 r1.1) (by rw [r1.2]; exact r2.1), by rw [List.length_append, r1.2, r2.2]⟩
    refine' r_catM (R := Rows (LstAt a b) 10 3) (l := p2) (Rows.stays LstAt.stays) (val_var rfl) e2 (big (by decide) _ _ t2) ?m3 (big (by decide)) ?k3
    case m3 => exact vm_cons LstAt.stays (fun Q q => em_lst (va_cons (fld 10 (by decide) (cs_10 mg) (s1.trans s2) (T.NotKept.n _ (by simp)) rfl) (va_cons (fld 10 (by decide) (cs_10 mg) (s1.trans s2) (T.NotKept.n _ (by simp)) rfl) va_nil)) (by show 2 ≤ 100000; decide) Q fun v H' s ⟨l, h1, h2⟩ => q v H' s ⟨l, h1, h2⟩) fun H10x s10x => vm_cons LstAt.stays (fun Q q => em_lst va_nil (by show 0 ≤ 100000; decide) Q fun v H' s ⟨l, h1, h2⟩ => q v H' s ⟨l, h1, h2⟩) fun H11x s11x => vm_cons LstAt.stays (fun Q q => em_lst va_nil (by show 0 ≤ 100000; decide) Q fun v H' s ⟨l, h1, h2⟩ => q v H' s ⟨l, h1, h2⟩) fun H12x s12x => vm_nil
    intro p3 xs3 H3 s3 e3 r3
    exact k p3 _ H3 ((s1.trans s2).trans s3) e3 ⟨Run.app (Run.keep LstAt.stays s3 t2.1) (by rw [t2.2]; exact r3.1), by rw [List.length_append, t2.2, r3.2]⟩

/-! ### what is drawn -/
/-- data that repr shows in few signs -/
def Fine (K : PySem.W.Frag) (H : Hp) (v : V) (d : PyData) : Prop := Dd K H v d ∧ d.showable = true ∧ d.depth ≤ 3 ∧ d.shown.length ≤ 1000
def aK : Key := Sum.inr ("a" : Str)
/-- the shapes of what is given -/
inductive Good (H : Hp) : V → Prop
  | int {n : Int} (h : -big < n ∧ n < big) : Good H (.int n)
  | str {x : Str} (h : x.length ≤ 40) (c : ∀ c ∈ x.cps.toList, c < 16 ^ 8) : Good H (.str x)
  | non : Good H .non
  | bl (b : Bool) : Good H (.bl b)
  | tup {q : Addr} {n : Int} (h : -big < n ∧ n < big) (e : H q = some (.tup [.int n, .str "a"])) : Good H (.ref q)
  | lst {q : Addr} {n : Int} (h : -big < n ∧ n < big) (e : H q = some (.lst [.int n, .non])) : Good H (.ref q)
  | dic {q : Addr} {n : Int} (h : -big < n ∧ n < big) (e : H q = some (.dK [(aK, .int n)])) : Good H (.ref q)
theorem Good.same {H H' : Hp} {v : V} (g : Good H v) (s : Same H H') : Good H' v := by
  cases g with
  | int h => exact .int h
  | str h c => exact .str h c
  | non => exact .non
  | bl b => exact .bl b
  | tup h e => exact .tup h (s _ _ e)
  | lst h e => exact .lst h (s _ _ e)
  | dic h e => exact .dic h (s _ _ e)
/-- the pen and a list of less than two items may change -/
theorem Good.off {H H' : Hp} {v : V} {p l : Addr} {c : Addr} {a d n f : Int} {xs : List V} (g : Good H v) (hp : H p = some (.dK (penK c a d n f))) (hl : H l = some (.lst xs)) (hx : xs.length < 2) (s : ∀ b o, H b = some o → b ≠ p → b ≠ l → H' b = some o) : Good H' v := by
  have k1 : ∀ {q : Addr} {o : HO}, H q = some o → (∀ kvs, o = .dK kvs → kvs.length < 5) → (∀ ys, o = .lst ys → 2 ≤ ys.length) → H' q = some o := fun {q o} e h1 h2 =>
    s q o e (fun z => by
      rw [z, hp] at e
      have := h1 _ (Option.some.inj e).symm
      exact absurd this (by show ¬ 5 < 5; decide)) (fun z => by
      rw [z, hl] at e
      have := h2 _ (Option.some.inj e).symm
      omega)
  cases g with
  | int h => exact .int h
  | str h c => exact .str h c
  | non => exact .non
  | bl b => exact .bl b
  | tup h e => exact .tup h (k1 e (fun _ z => by cases z) (fun _ z => by cases z))
  | lst h e => exact .lst h (k1 e (fun _ z => by cases z) (fun _ z => by cases z; exact Nat.le_refl 2))
  | dic h e => exact .dic h (k1 e (fun _ z => by cases z; show 1 < 5; decide) (fun _ z => by cases z))
theorem int_short {n : Int} (h : -big < n ∧ n < big) : (PyData.shown (.int n)).length ≤ 20 := by
  have e := int_text_length_le10 (a := n) (k := 18) (by decide) (by unfold big at h; omega)
  show (Str.ofString (toString n)).length ≤ 20
  rw [PySem.ofString_length]
  omega
theorem int_showable {n : Int} (h : -big < n ∧ n < big) : PyData.showable (.int n) = true := by
  refine decide_eq_true ?_
  have : n.natAbs < 2 ^ 60 := by unfold big at h; omega
  rcases Nat.eq_zero_or_pos n.natAbs with z | z
  · rw [z]; decide
  · have := (Nat.log2_lt (by omega)).mpr this
    omega
theorem Good.fine {H : Hp} {v : V} (g : Good H v) : ∃ d, Fine K H v d := by
  cases g with
  | int h => exact ⟨_, .int _, int_showable h, by simp [PyData.depth], Nat.le_trans (int_short h) (by decide)⟩
  | @str x h c =>
    refine ⟨_, .str _, rfl, by simp [PyData.depth], ?_⟩
    have := StrLaws.reprText_len x c
    show (reprText x).length ≤ 1000
    omega
  | non => exact ⟨_, .non, rfl, by simp [PyData.depth], by decide +kernel⟩
  | bl b => exact ⟨_, .bl _, rfl, by simp [PyData.depth], by cases b <;> decide +kernel⟩
  | @tup q n h e =>
    refine ⟨_, .tup (SqT.of e) (.cons (.int _) (.cons (.str _) .nil)), by simp only [PyData.showable, PyData.showableAll, Bool.and_true, Bool.and_eq_true]; exact int_showable h, by simp [PyData.depth, PyData.depthAll], ?_⟩
    have := int_short h
    have e2 : (PyData.shown (.str "a")).length ≤ 12 := by decide +kernel
    have := tupleText_len_le (PyData.shownAll [.int n, .str "a"])
    simp only [PyData.shown, PyData.shownAll, List.map_cons, List.map_nil, List.sum_cons, List.sum_nil, List.length_cons, List.length_nil] at *
    omega
  | @lst q n h e =>
    refine ⟨_, .lst (SqL.of e) (.cons (.int _) (.cons .non .nil)), by simp only [PyData.showable, PyData.showableAll, Bool.and_true, Bool.and_eq_true]; exact int_showable h, by simp [PyData.depth, PyData.depthAll], ?_⟩
    have := int_short h
    have e2 : (PyData.shown .none).length ≤ 12 := by decide +kernel
    have := listText_len_le (PyData.shownAll [.int n, .none])
    simp only [PyData.shown, PyData.shownAll, List.map_cons, List.map_nil, List.sum_cons, List.sum_nil, List.length_cons, List.length_nil] at *
    omega
  | @dic q n h e =>
    refine ⟨_, .dic e (.cons (.int _) .nil), by simp only [PyData.showable, PyData.showableKv, Bool.and_true, Bool.and_eq_true]; exact ⟨rfl, int_showable h⟩, by simp [PyData.depth, PyData.depthKv, keyD, aK], ?_⟩
    have := int_short h
    have e2 : (PyData.shown (keyD aK)).length ≤ 12 := by decide +kernel
    have := dictText_len_le (PyData.shownKv [(keyD aK, .int n)])
    simp only [PyData.shown, PyData.shownKv, List.map_cons, List.map_nil, List.sum_cons, List.sum_nil, List.length_cons, List.length_nil, Str.length_append] at *
    have e3 : (": " : Str).length = 2 := by decide +kernel
    omega
/-- two rows of the same good things are shown alike -/
theorem fine_row {H : Hp} {xs : List V} (hx : xs.length ≤ 2) (g : ∀ v ∈ xs, Good H v) : ∃ ds, DdAll K H xs ds ∧ (PyData.list ds).showable = true ∧ (PyData.list ds).depth ≤ 40 ∧ (PyData.list ds).shown.length ≤ 3000 := by
  match xs, hx with
  | [], _ => exact ⟨[], .nil, rfl, by decide, by decide +kernel⟩
  | [a], _ =>
    obtain ⟨d, h1, h2, h3, h4⟩ := (g a (by simp)).fine (K := K)
    refine ⟨[d], .cons h1 .nil, by simp [PyData.showable, PyData.showableAll, h2], by simp only [PyData.depth, PyData.depthAll]; omega, ?_⟩
    have := listText_len_le (PyData.shownAll [d])
    simp only [PyData.shown, PyData.shownAll, List.map_cons, List.map_nil, List.sum_cons, List.sum_nil, List.length_cons, List.length_nil] at *
    omega
  | [a, b], _ =>
    obtain ⟨d, h1, h2, h3, h4⟩ := (g a (by simp)).fine (K := K)
    obtain ⟨e, i1, i2, i3, i4⟩ := (g b (by simp)).fine (K := K)
    refine ⟨[d, e], .cons h1 (.cons i1 .nil), by simp [PyData.showable, PyData.showableAll, h2, i2], by simp only [PyData.depth, PyData.depthAll]; omega, ?_⟩
    have := listText_len_le (PyData.shownAll [d, e])
    simp only [PyData.shown, PyData.shownAll, List.map_cons, List.map_nil, List.sum_cons, List.sum_nil, List.length_cons, List.length_nil] at *
    omega

/-! ### the law -/
/-- the k-th of the things that one is picked from -/
def Shape (n : Int) (v : V) (H : Hp) : Prop := Good H v
theorem codes_lt (s : String) : ∀ c ∈ (Str.ofString s).cps.toList, c < 16 ^ 8 := by
  intro c hc
  rw [Str.ofString_eq_toList] at hc
  obtain ⟨d, _, rfl⟩ := List.mem_map.mp (by simpa using hc)
  have := d.val.toNat_lt
  exact this
theorem x_codes (n : Int) : ∀ c ∈ (("x" : Str) ++ ((toString n : String) : Str)).cps.toList, c < 16 ^ 8 := by
  intro c hc
  have hc' : c ∈ ("x" : Str).cps.toList ++ (Str.ofString (toString n)).cps.toList := by
    have e : (("x" : Str) ++ ((toString n : String) : Str)).cps.toList = ("x" : Str).cps.toList ++ (Str.ofString (toString n)).cps.toList := Array.toList_append
    rw [← e]
    exact hc
  rcases List.mem_append.mp hc' with h | h
  · exact codes_lt "x" c h
  · exact codes_lt _ c h
theorem x_len {n : Int} (h : -big < n ∧ n < big) : (("x" : Str) ++ ((toString n : String) : Str)).length ≤ 40 := by
  have e := int_text_length_le10 (a := n) (k := 18) (by decide) (by unfold big at h; omega)
  have e1 : ("x" : Str).length = 1 := by decide +kernel
  have e2 := PySem.ofString_length (toString n)
  rw [Str.length_append]
  omega
def GoodAll (vs : List V) (H : Hp) : Prop := (∀ v ∈ vs, Good H v) ∧ vs.length = 9
/-- values and things, good ones, one behind the other -/
def Goods (n : Nat) (vs : List V) (H : Hp) : Prop := (∀ v ∈ vs, Good H v) ∧ vs.length = n
theorem Goods.stays {n : Nat} : Stays (Goods n) := fun vs H1 H2 s h => ⟨fun v hv => (h.1 v hv).same s, h.2⟩
theorem gm_nil {σ : L2.St} {H : Hp} : VM tNil σ H (Goods 0) := fun Q q => q [] H (Same.refl H) ⟨(fun _ h => nomatch h), rfl⟩
theorem gm_cons {σ : L2.St} {H : Hp} {te : TE} {tr : TA} {n : Nat} (h : EM te σ H (fun v H' => Good H' v)) (hr : ∀ H1, Same H H1 → VM tr σ H1 (Goods n)) : VM (tCons te tr) σ H (Goods (n + 1)) := fun Q q =>
  h _ fun v H1 s1 p1 => hr H1 s1 _ fun r H2 s2 ⟨r2, e2⟩ => q (v :: r) H2 (s1.trans s2) ⟨fun x hx => by
    rcases List.mem_cons.mp hx with e | e
    · rw [e]; exact p1.same s2
    · exact r2 x e, by rw [List.length_cons, e2]⟩
theorem gm_val {σ : L2.St} {H : Hp} {te : TE} {v : V} (h : Val te σ H v) (g : Good H v) : EM te σ H (fun v H' => Good H' v) := fun Q q => h _ (q v H (Same.refl H) g)
def spLaw (K : PySem.W.Frag) : Sp := fun vs H Q _ => ∃ (a : Addr) (ns : List Int), vs = [.ref a] ∧ SqL K H a (ns.map V.int) ∧ ns.length ≤ 63 ∧ ∀ H', Q (.bl true) H'
/-- which many items are asked -/
def manys : List Int := [1, 2, 2, 1, 1, 1, 1, 0, 1, 1, 2, 0, 0]
theorem ok_law (T : Txt K mg) : OkG P w K mg base CX0 9 (fA mg "law") (fDat K (fA mg "law")) ["_law_script"] (spLaw K) := by
  have G_law_pen := ok_pen (P := P) (w := w) (base := base) T._law_pen.F T
  have G_law_far := ok_far (P := P) (w := w) (base := base) T
  have G_law_pick := ok_pick (P := P) (w := w) (base := base) T
  have G_law_objects := ok_objs (P := P) (w := w) (base := base) T
  have G_law_kinds := ok_kinds (P := P) (w := w) (base := base) T
  have G_law_fields := ok_fields (P := P) (w := w) (base := base) T
  refine okG0 T.law.F sclaw (fun vs H Q E h => ?_) (fun cdv A outer s H vs Q E hr hq h => ?_)
  · obtain ⟨a, ns, rfl, _⟩ := h
    rfl
  · obtain ⟨a, ns, rfl, hS, hlen, k⟩ := h
    refine ⟨_, (pss_cons (ps_set (i := 1) sclaw.nd rfl (Or.inl rfl) (pe_c T._law_pen G_law_pen (hr.mono (by decide)) (pa_cons (pv 0) pa_nil)))
  (pss_cons (ps_set (i := 2) sclaw.nd rfl (Or.inl rfl) (pe_lst pa_nil))
  (pss_cons (ps_for PassesOwn.never rfl (pi_range1 (by rfl) T.range (pa_cons pe_int pa_nil)) (pg_name (i := 3) sclaw.nd rfl (Or.inr rfl))
  (pss_cons (ps_set (i := 4) sclaw.nd rfl (Or.inl rfl) (pe_c T._law_far G_law_far (hr.mono (by decide)) (pa_cons (pv 1) pa_nil)))
  (pss_one (ps_expr (pe_bm PySem.F.plainAttrs_list PySem.F.slot_list_append PySem.F.type_list_append mt_append (pv 2) (pa_cons (pe_c T._law_pick G_law_pick (hr.mono (by decide)) (pa_cons (pv 1) (pa_cons (pe_lst (pa_cons (pv 4) (pa_cons (pe_un un_neg (pv 4)) (pa_cons (pe_op op_add_str pe_str (pe_callTy call_str_int (by rfl) T.str (by decide +kernel) (pa_cons (pv 4) pa_nil))) (pa_cons pe_non (pa_cons (pe_tup (pa_cons (pv 4) (pa_cons pe_str pa_nil))) (pa_cons (pe_lst (pa_cons (pv 4) (pa_cons pe_non pa_nil))) (pa_cons pe_bl (pa_cons pe_str (pa_cons (pe_disp (pps_cons pe_str (pv 4) pps_nil) (by rfl) (by rfl) (fun z => by cases z) (by decide)) pa_nil)))))))))) pa_nil))) pa_nil))))))
  (pss_cons (ps_set (i := 5) sclaw.nd rfl (Or.inl rfl) (pe_c T._law_objects G_law_objects (hr.mono (by decide)) (pa_cons (pe_ix ix_list (pv 2) pe_int (fun _ _ => rfl)) (pa_cons (pe_ix ix_list (pv 2) pe_int (fun _ _ => rfl)) pa_nil))))
  (pss_cons (ps_for PassesOwn.never rfl (pi_enum (by rfl) T.enumerate (pa_cons (pv 5) pa_nil)) (pg_tup rfl (pgs_cons (pg_name (i := 3) sclaw.nd rfl (Or.inr rfl)) (pgs_cons (pg_name (i := 6) sclaw.nd rfl (Or.inl rfl)) pgs_nil)))
  (pss_cons (ps_if (PW.pt (pw_or (pt_not (pt_val (pe_callB call_isX (by rfl) T.isinstance (by decide +kernel) (pa_cons (pv 6) (pa_cons (pe_cls T.FlowError) pa_nil))))) (pw_or1 (pt_not (pt_val (pe_callB call_isX (by rfl) T.isinstance (by decide +kernel) (pa_cons (pv 6) (pa_cons (pe_bltn (v := .ty "ValueError") (by rfl) T.ValueError (by decide +kernel) rfl) pa_nil)))))))) (pss_one (ps_ret pe_bl)) pss_nil)
  (pss_one (ps_if (pt_cmpR (op_neD (hu64 hr)) (pe_c T._law_kinds G_law_kinds (hr.mono (by decide)) (pa_cons (pv 6) pa_nil)) (pe_lc (own := [("_law_j", 7)]) (g := gName 7) (tt := tYes) (by rfl) sclaw.nd (pi_range1 (by rfl) T.range (pa_cons (pe_callB call_len_seq (by rfl) T.len PySem.boot_len (pa_cons (pv 5) pa_nil)) pa_nil)) (blkOk_by (own := [("_law_j", 7)]) (N := ["_law_script", "_law_pen_here", "_law_given", "_law_k", "_law_far_here", "_law_row", "_law_e", "_law_j", "_law_fields_here", "_law_many"]) (sc := defScope slaw) (by decide +kernel)) (fun _ _ _ _ _ => pg_name (i := 7) sclaw.nd rfl (Or.inl rfl)) (fun _ _ _ _ _ => pts_nil) (fun _ _ _ _ _ => (pe_cmpR op_eq (pv 7) (pv 3) (nomark _)))) (nomark _)) (pss_one (ps_ret pe_bl)) pss_nil))))
  (pss_cons (ps_for PassesOwn.never rfl (pi_zip (by rfl) T.zip (pa_cons (pe_c T._law_fields G_law_fields (hr.mono (by decide)) (pa_cons (pv 5) pa_nil)) (pa_cons (pe_lst (pa_cons pe_int (pa_cons pe_int (pa_cons pe_int (pa_cons pe_int (pa_cons pe_int (pa_cons pe_int (pa_cons pe_int (pa_cons pe_int (pa_cons pe_int (pa_cons pe_int (pa_cons pe_int (pa_cons pe_int (pa_cons pe_int pa_nil)))))))))))))) pa_nil))) (pg_tup rfl (pgs_cons (pg_name (i := 8) sclaw.nd rfl (Or.inl rfl)) (pgs_cons (pg_name (i := 9) sclaw.nd rfl (Or.inl rfl)) pgs_nil)))
  (pss_one (ps_if (pt_cmpR op_ne (pe_callB (call_show hq (hu64 hr)) (by rfl) T.repr (by decide +kernel) (pa_cons (pv 8) pa_nil)) (pe_callB (call_show hq (hu64 hr)) (by rfl) T.repr (by decide +kernel) (pa_cons (pe_slice sl_list (pv 2) po_none (po_some (pv 9))) pa_nil)) (nomark _)) (pss_one (ps_ret pe_bl)) pss_nil)))
  (pss_one (ps_ret pe_bl)))))))), ?_⟩
    refine q_asg (c_call (va_cons (val_var rfl) va_nil) ⟨a, ns, rfl, hS, hlen, fun p c H1 s1 P1 => ?_⟩)
    refine q_lst0 va_nil (by decide) fun gl ngl => ?_
    have ncg : c ≠ gl := by
      obtain ⟨_, _, _, _, _, _, q2, _⟩ := P1
      exact ne_of_none q2 ngl
    have s2 : Same H1 (upd H1 gl (.lst [])) := Same.new' ngl
    have e2 : upd H1 gl (.lst []) gl = some (.lst []) := upd_same
    generalize upd H1 gl (.lst []) = H2 at s2 e2
    refine q_forR1 (n := 2) (va_cons val_c va_nil) (by decide) (fun i σ H' => ∃ (xs : List V) (z1 z2 : Option V), σ = [some (.ref a), some (.ref p), some (.ref gl), z1, z2, none, none, none, none, none] ∧ PenAt H' p c (16 * i) ∧
      H' gl = some (.lst xs) ∧ xs.length = i ∧ ∀ v ∈ xs, Good H' v) ⟨[], none, none, rfl, P1.same s2, e2, rfl, fun _ h => nomatch h⟩ ?_ ?_
    · rintro i σ H' hi ⟨xs, z1, z2, rfl, P', hg, hx, gx⟩
      refine g_name ?_
      refine q_asg (c_call (va_cons (val_var rfl) va_nil) ⟨p, c, 16 * i, rfl, P', by unfold most; omega, fun n H3 n0 n1 b3 P3 => ?_⟩)
      have hn : -big < n ∧ n < big := ⟨n0, n1⟩
      have hm : -big < -n ∧ -n < big := by omega
      obtain ⟨kvs, hd⟩ := P'.dk
      have npg : gl ≠ p := ne_of hg hd (by intro z; cases z)
      have hg3 : H3 gl = some (.lst xs) := b3 _ _ hg npg
      have g3 : ∀ v ∈ xs, Good H3 v := fun v hv => by
        obtain ⟨_, _, _, _, _, q1, _⟩ := P'
        exact (gx v hv).off q1 hg (by omega) fun b o e h1 h2 => b3 b o e h1
      refine s_appC (val_var rfl) hg3 ?_
      refine' c_callL (R := Goods 9) (val_var rfl) Goods.stays ?items (fun vs H' r => by rw [r.2]; decide) ?after
      case items =>
        exact gm_cons (gm_val (val_var rfl) (.int hn)) fun _ _ => gm_cons (gm_val (v_neg (val_var rfl)) (.int hm)) fun _ _ =>
          gm_cons (gm_val (v_cats val_c (v_str (val_var rfl) (of_decide_eq_true (int_showable hn))) (by have := x_len hn; rw [Str.length_append] at this; omega)) (.str (x_len hn) (x_codes n))) fun _ _ =>
          gm_cons (gm_val val_c .non) fun _ _ => gm_cons (em_tup (va_cons (val_var rfl) (va_cons val_c va_nil)) (by show 2 ≤ 100000; decide) fun a H' e => .tup hn e) fun _ _ =>
          gm_cons (em_lst' (va_cons (val_var rfl) (va_cons val_c va_nil)) (by show 2 ≤ 100000; decide) fun a H' e => .lst hn e) fun _ _ => gm_cons (gm_val val_c (.bl _)) fun _ _ =>
          gm_cons (gm_val val_c (.str (by decide +kernel) (codes_lt ""))) fun _ _ => gm_cons (em_dic1 (key := aK) (fun _ => val_var rfl) fun a H' e => .dic hn e) fun _ _ => gm_nil
      case after =>
        intro l vs H4 s4 e4 ⟨gv, lv⟩
        refine ⟨p, c, l, vs, 16 * i + 8, rfl, P3.same s4, by unfold most; omega, SqL.of e4, by omega, by omega, fun v H5 hv b5 P5 => ?_⟩
        have hg5 : H5 gl = some (.lst xs) := b5 _ _ (s4 _ _ hg3) npg
        refine ⟨gl, xs, v, rfl, rfl, hg5, by rw [hx]; exact Nat.lt_of_lt_of_le (show i < 2 from hi) (by decide), ?_⟩
        refine ⟨xs ++ [v], _, _, rfl, (P5.le (by omega)).off (fun o e => by rw [upd_ne npg.symm]; exact e) (fun o e => by rw [upd_ne ncg]; exact e), upd_same, by rw [List.length_append, hx]; rfl, fun z hz => ?_⟩
        obtain ⟨_, _, _, _, _, q1, _⟩ := P3.same s4
        have g4 : Good H4 z := by
          rcases List.mem_append.mp hz with h | h
          · exact (g3 z h).same s4
          · rw [List.mem_singleton.mp h]; exact gv v hv
        exact g4.off q1 (s4 _ _ hg3) (by omega) fun b o e h1 h2 => by rw [upd_ne h2]; exact b5 b o e h1
    · rintro σ H' ⟨xs, z1, z2, rfl, P', hg, hx, gx⟩
      obtain ⟨ga, gb, rfl⟩ : ∃ ga gb, xs = [ga, gb] := by
        match xs, hx with
        | [x, y], _ => exact ⟨x, y, rfl⟩
      refine q_asg (c_call (va_cons (v_ixL (n := 0) (val_var rfl) val_c (SqL.of hg) rfl) (va_cons (v_ixL (n := 1) (val_var rfl) val_c (SqL.of hg) rfl) va_nil)) ⟨ga, gb, rfl, fun row xs1 H3 s3 e3 r3 => ?_⟩)
      have hg3 : H3 gl = some (.lst [ga, gb]) := s3 _ _ hg
      have gg : ∀ v ∈ [ga, gb], Good H3 v := fun v hv => (gx v hv).same s3
      -- each object is of its own class alone
      refine q_forE (va_cons (val_var rfl) va_nil) (SqL.of e3) (fun i σ H' => ∃ (z3 z4 z6 : Option V), σ = [some (.ref a), some (.ref p), some (.ref gl), z3, z4, some (.ref row), z6, none, none, none] ∧ Same H3 H') ⟨_, _, _, rfl, Same.refl _⟩
        (fun i σ H' ⟨_, _, _, _, s⟩ => SqL.of (s _ _ e3)) ?_ ?_
      · rintro i x Tt σ H' hi ⟨z3, z4, z6, rfl, s4⟩ nT
        have hi13 : i < 13 := by rw [← r3.2]; exact (List.getElem?_eq_some_iff.mp hi).1
        obtain ⟨e, rfl, ex⟩ := Run.get r3.1 hi
        rw [Nat.zero_add] at ex
        refine g_two (SqT.of upd_same) ?_
        have s5 : Same H3 (upd H' Tt (.tup [.int (i : Nat), .ref e])) := s4.trans (Same.new' nT)
        have e5 : upd H' Tt (.tup [.int (i : Nat), .ref e]) row = some (.lst xs1) := s5 _ _ e3
        have ex5 := ex.keep s5
        generalize upd H' Tt (.tup [.int (i : Nat), .ref e]) = H5 at s5 e5 ex5
        obtain ⟨f1, f2⟩ := T.flow (K := K) hi13
        refine' q_unless ?ask ?_
        case ask =>
          refine ans_or (Ans.to (ans_not (ans_val (v_isx (val_var rfl) ex5 (T.exc i hi13) (fun w h => h) f1))) rfl) (Ans.to (ans_not (ans_val (v_isx (val_var rfl) ex5 (T.exc i hi13) (fun w h => h) f2))) rfl)
        refine st_cmp ?_
        refine c_call (va_cons (val_var rfl) va_nil) ⟨e, i, _, rfl, hi13, ex5, fun kq H6 s6 e6 => ?_⟩
        refine' l_lcR1 (n := 13) ?len (by decide) (fun j => .bl (decide (i = j))) (fun x => rfl) ?turn ?done
        case len =>
          have q := v_len (K := K) (te := tVar 5) (σ := [some (.ref a), some (.ref p), some (.ref gl), some (.int (i : Nat)), z4, some (.ref row), some (.ref e), none, none, none]) (H := H6) (val_var rfl) (.inl (SqL.of (s6 _ _ e5)))
          rw [r3.2] at q
          exact va_cons q va_nil
        case turn =>
          intro j H7 hj s7
          refine Val.is (v_eq (val_var rfl) (val_var rfl) rfl) ?_
          congr 1
          by_cases q : i = j
          · subst q; simp
          · have q2 : ¬ (V.int (j : Int) = V.int (i : Int)) := fun z => q (by injection z with z; omega)
            rw [decide_eq_false q, decide_eq_false q2]
        case done =>
          intro q2 H7 s7 e7
          have dd : ∀ {Hx : Hp} {xs : List Nat}, DpAll K Hx (xs.map fun j => V.bl (decide (i = j))) (xs.map fun j => PyData.bool (decide (i = j))) := fun {Hx xs} => by
            induction xs with
            | nil => exact .nil
            | cons y ys ih => exact .cons (.bl _) ih
          have sh : SeqAt.shaped (.list ((List.range 13).map fun j => PyData.bool (decide (i = j)))) = true := by
            simp [SeqAt.shaped, PyData.canLay0, PyData.canLayAll0, PyData.depth, PyData.depthAll, List.range, List.range.loop]
          have ev : PyData.eqv (.list ((List.range 13).map fun j => PyData.bool (decide (i = j)))) (.list ((List.range 13).map fun j => PyData.bool (decide (i = j)))) = true := SeqAt.eqv_refl _ (SeqAt.canLay_of_shaped sh)
          refine ⟨_, _, .lst (SqL.of (s7 _ _ e6)) dd, .lst (SqL.of e7) dd, sh, sh, _, rfl, ?_⟩
          rw [ev]
          refine iteF ?_
          exact ⟨_, _, _, rfl, (s5.trans s6).trans s7⟩
      · rintro σ H' ⟨z3, z4, z6, rfl, s4⟩
        refine q_forZ' ?_
        refine ta_two ?_
        refine c_call (va_cons (val_var rfl) va_nil) ⟨ga, gb, row, xs1, rfl, s4 _ _ e3, (Rows.stays ObjAt.stays) _ _ _ s4 r3, fun fl ys H5 s5 e5 r5 => ?_⟩
        refine' l_lst (vs := manys.map V.int) ?consts (by decide) ?next
        case consts => exact va_cons val_c (va_cons val_c (va_cons val_c (va_cons val_c (va_cons val_c (va_cons val_c (va_cons val_c (va_cons val_c (va_cons val_c (va_cons val_c (va_cons val_c (va_cons val_c (va_cons val_c va_nil))))))))))))
        intro ml nml
        have s6 : Same H5 (upd H5 ml (.lst (manys.map V.int))) := Same.new' nml
        have t5 : Same H3 H5 := s4.trans s5
        refine ⟨fl, ml, ys, manys.map V.int, rfl, SqL.of (s6 _ _ e5), SqL.of upd_same, ?_⟩
        have eml : upd H5 ml (.lst (manys.map V.int)) ml = some (.lst (manys.map V.int)) := upd_same
        generalize upd H5 ml (.lst (manys.map V.int)) = H6 at s6 eml
        refine zipW (a := fl) (b := ml) (xs := ys) (ys := manys.map V.int) (by rw [r5.2]; rfl) (fun i σ H' => ∃ (z3 z4 z6 z8 z9 : Option V), σ = [some (.ref a), some (.ref p), some (.ref gl), z3, z4, some (.ref row), z6, none, z8, z9] ∧ Same H6 H')
          ⟨_, _, _, _, _, rfl, Same.refl _⟩ (fun i σ H' ⟨_, _, _, _, _, _, s⟩ => ⟨SqL.of (s _ _ (s6 _ _ e5)), SqL.of (s _ _ eml)⟩) ?_ ?_
        · rintro i x y Tt σ H' hi hy ⟨z3, z4, z6, z8, z9, rfl, s7⟩ nT
          obtain ⟨q, rfl, eq⟩ := Run.get r5.1 hi
          rw [Nat.zero_add] at eq
          have hi13 : i < 13 := by rw [← r5.2]; exact (List.getElem?_eq_some_iff.mp hi).1
          obtain ⟨n, rfl, hw⟩ : ∃ n : Int, y = .int n ∧ cutV [ga, gb] none (some n) = want ga gb i := by
            match i, hi13, hy with
            | 0, _, hy => exact ⟨1, (Option.some.inj hy).symm, rfl⟩
            | 1, _, hy => exact ⟨2, (Option.some.inj hy).symm, rfl⟩
            | 2, _, hy => exact ⟨2, (Option.some.inj hy).symm, rfl⟩
            | 3, _, hy => exact ⟨1, (Option.some.inj hy).symm, rfl⟩
            | 4, _, hy => exact ⟨1, (Option.some.inj hy).symm, rfl⟩
            | 5, _, hy => exact ⟨1, (Option.some.inj hy).symm, rfl⟩
            | 6, _, hy => exact ⟨1, (Option.some.inj hy).symm, rfl⟩
            | 7, _, hy => exact ⟨0, (Option.some.inj hy).symm, rfl⟩
            | 8, _, hy => exact ⟨1, (Option.some.inj hy).symm, rfl⟩
            | 9, _, hy => exact ⟨1, (Option.some.inj hy).symm, rfl⟩
            | 10, _, hy => exact ⟨2, (Option.some.inj hy).symm, rfl⟩
            | 11, _, hy => exact ⟨0, (Option.some.inj hy).symm, rfl⟩
            | 12, _, hy => exact ⟨0, (Option.some.inj hy).symm, rfl⟩
            | i + 13, h, _ => exact absurd h (by omega)
          refine g_two (SqT.of upd_same) ?_
          have s8 : Same H3 (upd H' Tt (.tup [.ref q, .int n])) := ((t5.trans s6).trans s7).trans (Same.new' nT)
          have e8 : upd H' Tt (.tup [.ref q, .int n]) q = some (.lst (want ga gb i)) := ((s6.trans s7).trans (Same.new' nT)) _ _ eq
          have k8 : Same H6 (upd H' Tt (.tup [.ref q, .int n])) := s7.trans (Same.new' nT)
          generalize upd H' Tt (.tup [.ref q, .int n]) = H8 at s8 e8 k8
          have g8 : ∀ v ∈ want ga gb i, Good H8 v := fun v hv => by
            refine (gg v ?_).same s8
            have e := congrArg (fun l => v ∈ l) hw
            have hv' : v ∈ cutV [ga, gb] none (some n) := by rw [hw]; exact hv
            unfold cutV at hv'
            exact List.mem_of_mem_drop (List.mem_of_mem_take hv')
          have l8 : (want ga gb i).length ≤ 2 := by
            rw [← hw]
            exact cutV_length _ _ _
          obtain ⟨ds, d1, d2, d3, d4⟩ := fine_row (K := K) l8 g8
          refine st_cmp ?_
          refine (v_show (val_var rfl) (.lst (SqL.of e8) d1) d2 d3 (Nat.le_trans d4 (by decide))) _ ?_
          refine cb_one ?_
          refine l_slHi (val_var rfl) (SqL.of (s8 _ _ hg3)) (val_var rfl) fun np H9 s9 e9 => ?_
          rw [hw] at e9
          refine ⟨_, _, rfl, .lst (SqL.of e9) (Dd.sameAll s9 _ _ d1), d2, d3, Nat.le_trans d4 (by decide), ?_⟩
          refine ⟨rfl, _, rfl, ?_⟩
          refine iteNS rfl ?_
          exact ⟨_, _, _, _, _, rfl, k8.trans s9⟩
        · rintro σ H' ⟨z3, z4, z6, z8, z9, rfl, s7⟩
          exact st_ret val_c (k H')
end
theorem facts {K : PySem.W.Frag} {h : Heap} {mg : Str → Option Value} {Z : Prop} (X : K.In h) (G : h.Ns mainGlobals mg)
    {f_law_pen : Addr} {od_law_pen an_law_pen : Option Addr} {sl_law_pen : Array (Option Value)} {oc_law_pen kV_law_pen dc_law_pen pm_law_pen cd_law_pen ct_law_pen : Value} {f_law_draw : Addr} {od_law_draw an_law_draw : Option Addr} {sl_law_draw : Array (Option Value)} {oc_law_draw kV_law_draw dc_law_draw pm_law_draw cd_law_draw ct_law_draw : Value} {f_law_pick : Addr} {od_law_pick an_law_pick : Option Addr} {sl_law_pick : Array (Option Value)} {oc_law_pick kV_law_pick dc_law_pick pm_law_pick cd_law_pick ct_law_pick : Value} {f_law_far : Addr} {od_law_far an_law_far : Option Addr} {sl_law_far : Array (Option Value)} {oc_law_far kV_law_far dc_law_far pm_law_far cd_law_far ct_law_far : Value} {f_law_kinds : Addr} {od_law_kinds an_law_kinds : Option Addr} {sl_law_kinds : Array (Option Value)} {oc_law_kinds kV_law_kinds dc_law_kinds pm_law_kinds cd_law_kinds ct_law_kinds : Value} {f_law_objects : Addr} {od_law_objects an_law_objects : Option Addr} {sl_law_objects : Array (Option Value)} {oc_law_objects kV_law_objects dc_law_objects pm_law_objects cd_law_objects ct_law_objects : Value} {f_law_fields : Addr} {od_law_fields an_law_fields : Option Addr} {sl_law_fields : Array (Option Value)} {oc_law_fields kV_law_fields dc_law_fields pm_law_fields cd_law_fields ct_law_fields : Value} {f_law : Addr} {od_law an_law : Option Addr} {sl_law : Array (Option Value)} {oc_law kV_law dc_law pm_law cd_law ct_law : Value} {C_FlowError : Addr} {C_BadText : Addr} {fI_BadText : Addr} {odI_BadText anI_BadText : Option Addr} {slI_BadText : Array (Option Value)} {ocI_BadText kVI_BadText dcI_BadText pmI_BadText cdI_BadText ctI_BadText : Value} {nmI_BadText qI_BadText : Str} {NI_BadText : Addr} {bsI_BadText bmI_BadText : List Value} {snI_BadText : List Str} {subI_BadText : List Value} {abI_BadText : Bool} {colI_BadText : Option Bool} {ddI_BadText : Option Addr} {m0I_BadText m1I_BadText m2I_BadText m3I_BadText m5I_BadText : Option Value} {C_BadLine : Addr} {fI_BadLine : Addr} {odI_BadLine anI_BadLine : Option Addr} {slI_BadLine : Array (Option Value)} {ocI_BadLine kVI_BadLine dcI_BadLine pmI_BadLine cdI_BadLine ctI_BadLine : Value} {nmI_BadLine qI_BadLine : Str} {NI_BadLine : Addr} {bsI_BadLine bmI_BadLine : List Value} {snI_BadLine : List Str} {subI_BadLine : List Value} {abI_BadLine : Bool} {colI_BadLine : Option Bool} {ddI_BadLine : Option Addr} {m0I_BadLine m1I_BadLine m2I_BadLine m3I_BadLine m5I_BadLine : Option Value} {C_BadNumber : Addr} {fI_BadNumber : Addr} {odI_BadNumber anI_BadNumber : Option Addr} {slI_BadNumber : Array (Option Value)} {ocI_BadNumber kVI_BadNumber dcI_BadNumber pmI_BadNumber cdI_BadNumber ctI_BadNumber : Value} {nmI_BadNumber qI_BadNumber : Str} {NI_BadNumber : Addr} {bsI_BadNumber bmI_BadNumber : List Value} {snI_BadNumber : List Str} {subI_BadNumber : List Value} {abI_BadNumber : Bool} {colI_BadNumber : Option Bool} {ddI_BadNumber : Option Addr} {m0I_BadNumber m1I_BadNumber m2I_BadNumber m3I_BadNumber m5I_BadNumber : Option Value} {C_BadRow : Addr} {fI_BadRow : Addr} {odI_BadRow anI_BadRow : Option Addr} {slI_BadRow : Array (Option Value)} {ocI_BadRow kVI_BadRow dcI_BadRow pmI_BadRow cdI_BadRow ctI_BadRow : Value} {nmI_BadRow qI_BadRow : Str} {NI_BadRow : Addr} {bsI_BadRow bmI_BadRow : List Value} {snI_BadRow : List Str} {subI_BadRow : List Value} {abI_BadRow : Bool} {colI_BadRow : Option Bool} {ddI_BadRow : Option Addr} {m0I_BadRow m1I_BadRow m2I_BadRow m3I_BadRow m5I_BadRow : Option Value} {C_BadName : Addr} {fI_BadName : Addr} {odI_BadName anI_BadName : Option Addr} {slI_BadName : Array (Option Value)} {ocI_BadName kVI_BadName dcI_BadName pmI_BadName cdI_BadName ctI_BadName : Value} {nmI_BadName qI_BadName : Str} {NI_BadName : Addr} {bsI_BadName bmI_BadName : List Value} {snI_BadName : List Str} {subI_BadName : List Value} {abI_BadName : Bool} {colI_BadName : Option Bool} {ddI_BadName : Option Addr} {m0I_BadName m1I_BadName m2I_BadName m3I_BadName m5I_BadName : Option Value} {C_Shared : Addr} {fI_Shared : Addr} {odI_Shared anI_Shared : Option Addr} {slI_Shared : Array (Option Value)} {ocI_Shared kVI_Shared dcI_Shared pmI_Shared cdI_Shared ctI_Shared : Value} {nmI_Shared qI_Shared : Str} {NI_Shared : Addr} {bsI_Shared bmI_Shared : List Value} {snI_Shared : List Str} {subI_Shared : List Value} {abI_Shared : Bool} {colI_Shared : Option Bool} {ddI_Shared : Option Addr} {m0I_Shared m1I_Shared m2I_Shared m3I_Shared m5I_Shared : Option Value} {C_NoRest : Addr} {fI_NoRest : Addr} {odI_NoRest anI_NoRest : Option Addr} {slI_NoRest : Array (Option Value)} {ocI_NoRest kVI_NoRest dcI_NoRest pmI_NoRest cdI_NoRest ctI_NoRest : Value} {nmI_NoRest qI_NoRest : Str} {NI_NoRest : Addr} {bsI_NoRest bmI_NoRest : List Value} {snI_NoRest : List Str} {subI_NoRest : List Value} {abI_NoRest : Bool} {colI_NoRest : Option Bool} {ddI_NoRest : Option Addr} {m0I_NoRest m1I_NoRest m2I_NoRest m3I_NoRest m5I_NoRest : Option Value} {C_NotRound : Addr} {C_NoName : Addr} {fI_NoName : Addr} {odI_NoName anI_NoName : Option Addr} {slI_NoName : Array (Option Value)} {ocI_NoName kVI_NoName dcI_NoName pmI_NoName cdI_NoName ctI_NoName : Value} {nmI_NoName qI_NoName : Str} {NI_NoName : Addr} {bsI_NoName bmI_NoName : List Value} {snI_NoName : List Str} {subI_NoName : List Value} {abI_NoName : Bool} {colI_NoName : Option Bool} {ddI_NoName : Option Addr} {m0I_NoName m1I_NoName m2I_NoName m3I_NoName m5I_NoName : Option Value} {C_TakenName : Addr} {fI_TakenName : Addr} {odI_TakenName anI_TakenName : Option Addr} {slI_TakenName : Array (Option Value)} {ocI_TakenName kVI_TakenName dcI_TakenName pmI_TakenName cdI_TakenName ctI_TakenName : Value} {nmI_TakenName qI_TakenName : Str} {NI_TakenName : Addr} {bsI_TakenName bmI_TakenName : List Value} {snI_TakenName : List Str} {subI_TakenName : List Value} {abI_TakenName : Bool} {colI_TakenName : Option Bool} {ddI_TakenName : Option Addr} {m0I_TakenName m1I_TakenName m2I_TakenName m3I_TakenName m5I_TakenName : Option Value} {C_NotKept : Addr} {fI_NotKept : Addr} {odI_NotKept anI_NotKept : Option Addr} {slI_NotKept : Array (Option Value)} {ocI_NotKept kVI_NotKept dcI_NotKept pmI_NotKept cdI_NotKept ctI_NotKept : Value} {nmI_NotKept qI_NotKept : Str} {NI_NotKept : Addr} {bsI_NotKept bmI_NotKept : List Value} {snI_NotKept : List Str} {subI_NotKept : List Value} {abI_NotKept : Bool} {colI_NotKept : Option Bool} {ddI_NotKept : Option Addr} {m0I_NotKept m1I_NotKept m2I_NotKept m3I_NotKept m5I_NotKept : Option Value} {C_NothingToUndo : Addr} {C_NothingToRedo : Addr}
    (z_int : PySem.W.nsIn K mainGlobals "int" = some none)
    (z_list : PySem.W.nsIn K mainGlobals "list" = some none)
    (z_len : PySem.W.nsIn K mainGlobals "len" = some none)
    (z_range : PySem.W.nsIn K mainGlobals "range" = some none)
    (z_str : PySem.W.nsIn K mainGlobals "str" = some none)
    (z_isinstance : PySem.W.nsIn K mainGlobals "isinstance" = some none)
    (z_enumerate : PySem.W.nsIn K mainGlobals "enumerate" = some none)
    (z_zip : PySem.W.nsIn K mainGlobals "zip" = some none)
    (z_repr : PySem.W.nsIn K mainGlobals "repr" = some none)
    (z_ValueError : PySem.W.nsIn K mainGlobals "ValueError" = some none)
    (a_law_pen : PySem.W.nsIn K mainGlobals "_law_pen" = some (some (.ref f_law_pen)))
    (l_law_pen : K.lookup f_law_pen = some ⟨oc_law_pen, od_law_pen, .func (PySem.W.fnOf "_law_pen" "_law_pen" (defArgs s_law_pen) (defBody s_law_pen) (defScope s_law_pen) .none kV_law_pen dc_law_pen pm_law_pen an_law_pen cd_law_pen ct_law_pen), sl_law_pen⟩)
    (c_law_pen : PySem.W.codeIn K cd_law_pen "_law_pen" = true)
    (k_law_pen : PySem.W.keepIn K (.ref f_law_pen) = true)
    (a_law_draw : PySem.W.nsIn K mainGlobals "_law_draw" = some (some (.ref f_law_draw)))
    (l_law_draw : K.lookup f_law_draw = some ⟨oc_law_draw, od_law_draw, .func (PySem.W.fnOf "_law_draw" "_law_draw" (defArgs s_law_draw) (defBody s_law_draw) (defScope s_law_draw) .none kV_law_draw dc_law_draw pm_law_draw an_law_draw cd_law_draw ct_law_draw), sl_law_draw⟩)
    (c_law_draw : PySem.W.codeIn K cd_law_draw "_law_draw" = true)
    (k_law_draw : PySem.W.keepIn K (.ref f_law_draw) = true)
    (a_law_pick : PySem.W.nsIn K mainGlobals "_law_pick" = some (some (.ref f_law_pick)))
    (l_law_pick : K.lookup f_law_pick = some ⟨oc_law_pick, od_law_pick, .func (PySem.W.fnOf "_law_pick" "_law_pick" (defArgs s_law_pick) (defBody s_law_pick) (defScope s_law_pick) .none kV_law_pick dc_law_pick pm_law_pick an_law_pick cd_law_pick ct_law_pick), sl_law_pick⟩)
    (c_law_pick : PySem.W.codeIn K cd_law_pick "_law_pick" = true)
    (k_law_pick : PySem.W.keepIn K (.ref f_law_pick) = true)
    (a_law_far : PySem.W.nsIn K mainGlobals "_law_far" = some (some (.ref f_law_far)))
    (l_law_far : K.lookup f_law_far = some ⟨oc_law_far, od_law_far, .func (PySem.W.fnOf "_law_far" "_law_far" (defArgs s_law_far) (defBody s_law_far) (defScope s_law_far) .none kV_law_far dc_law_far pm_law_far an_law_far cd_law_far ct_law_far), sl_law_far⟩)
    (c_law_far : PySem.W.codeIn K cd_law_far "_law_far" = true)
    (k_law_far : PySem.W.keepIn K (.ref f_law_far) = true)
    (a_law_kinds : PySem.W.nsIn K mainGlobals "_law_kinds" = some (some (.ref f_law_kinds)))
    (l_law_kinds : K.lookup f_law_kinds = some ⟨oc_law_kinds, od_law_kinds, .func (PySem.W.fnOf "_law_kinds" "_law_kinds" (defArgs s_law_kinds) (defBody s_law_kinds) (defScope s_law_kinds) .none kV_law_kinds dc_law_kinds pm_law_kinds an_law_kinds cd_law_kinds ct_law_kinds), sl_law_kinds⟩)
    (c_law_kinds : PySem.W.codeIn K cd_law_kinds "_law_kinds" = true)
    (k_law_kinds : PySem.W.keepIn K (.ref f_law_kinds) = true)
    (a_law_objects : PySem.W.nsIn K mainGlobals "_law_objects" = some (some (.ref f_law_objects)))
    (l_law_objects : K.lookup f_law_objects = some ⟨oc_law_objects, od_law_objects, .func (PySem.W.fnOf "_law_objects" "_law_objects" (defArgs s_law_objects) (defBody s_law_objects) (defScope s_law_objects) .none kV_law_objects dc_law_objects pm_law_objects an_law_objects cd_law_objects ct_law_objects), sl_law_objects⟩)
    (c_law_objects : PySem.W.codeIn K cd_law_objects "_law_objects" = true)
    (k_law_objects : PySem.W.keepIn K (.ref f_law_objects) = true)
    (a_law_fields : PySem.W.nsIn K mainGlobals "_law_fields" = some (some (.ref f_law_fields)))
    (l_law_fields : K.lookup f_law_fields = some ⟨oc_law_fields, od_law_fields, .func (PySem.W.fnOf "_law_fields" "_law_fields" (defArgs s_law_fields) (defBody s_law_fields) (defScope s_law_fields) .none kV_law_fields dc_law_fields pm_law_fields an_law_fields cd_law_fields ct_law_fields), sl_law_fields⟩)
    (c_law_fields : PySem.W.codeIn K cd_law_fields "_law_fields" = true)
    (k_law_fields : PySem.W.keepIn K (.ref f_law_fields) = true)
    (a_law : PySem.W.nsIn K mainGlobals "law" = some (some (.ref f_law)))
    (l_law : K.lookup f_law = some ⟨oc_law, od_law, .func (PySem.W.fnOf "law" "law" (defArgs slaw) (defBody slaw) (defScope slaw) .none kV_law dc_law pm_law an_law cd_law ct_law), sl_law⟩)
    (c_law : PySem.W.codeIn K cd_law "law" = true)
    (k_law : PySem.W.keepIn K (.ref f_law) = true)
    (a_FlowError : PySem.W.nsIn K mainGlobals "FlowError" = some (some (.ref C_FlowError)))
    (hn_ : PySem.W.specialIn K (.builtin "object.__class__") "__get__" = some (some (.builtin "getset_descriptor.__get__")))
    (ht_ : PySem.W.takesIn K (.builtin "object.__class__") = some true)
    (a_BadText : PySem.W.nsIn K mainGlobals "BadText" = some (some (.ref C_BadText)))
    (ga_BadText : PySem.W.findIn K (.ref C_BadText) "__getattribute__" = some (some (.builtin "BaseException.__getattribute__")))
    (gg_BadText : PySem.W.findIn K (.ref C_BadText) "__getattr__" = some none)
    (sb_BadText : PySem.W.subIn K (.ref C_BadText) (.type "BaseException") = some true)
    (hd_BadText : PySem.W.hasDictIn K C_BadText = true)
    (ca_BadText : PySem.W.findIn K (.ref C_BadText) "__class__" = some (some (.builtin "object.__class__")))
    (mo_BadText : PySem.W.mroIn K C_BadText (.type "object") = some true)
    (kp_BadText : PySem.W.keepIn K (.ref C_BadText) = true)
    (xL_BadText : K.lookup C_BadText = some (excClassObj nmI_BadText qI_BadText C_BadText NI_BadText bsI_BadText bmI_BadText true snI_BadText subI_BadText abI_BadText colI_BadText ddI_BadText m0I_BadText m1I_BadText m2I_BadText m3I_BadText m5I_BadText "ValueError.__new__"))
    (rb_BadText : PySem.HandSPX.refsVE bmI_BadText = true)
    (sa_BadText : PySem.W.findIn K (.ref C_BadText) "__setattr__" = some (some (.builtin "object.__setattr__")))
    (ty_BadText : PySem.W.typeIn K (.ref C_BadText) = some (.type "type"))
    (i_BadText : PySem.W.findIn K (.ref C_BadText) "__init__" = some (some (.ref fI_BadText)))
    (t_BadText : PySem.W.typeIn K (.ref fI_BadText) = some (.type "function"))
    (lI_BadText : K.lookup fI_BadText = some ⟨ocI_BadText, odI_BadText, .func (PySem.W.fnOf "__init__" "BadText.__init__" (defArgs (inClass (top 2) 0)) (defBody (inClass (top 2) 0)) (defScope (inClass (top 2) 0)) .none kVI_BadText dcI_BadText pmI_BadText anI_BadText cdI_BadText ctI_BadText), slI_BadText⟩)
    (cI_BadText : PySem.W.codeIn K cdI_BadText "BadText.__init__" = true)
    (kI_BadText : PySem.W.keepIn K (.ref fI_BadText) = true)
    (n_BadText_column : PySem.W.findIn K (.ref C_BadText) "column" = some none)
    (a_BadLine : PySem.W.nsIn K mainGlobals "BadLine" = some (some (.ref C_BadLine)))
    (ga_BadLine : PySem.W.findIn K (.ref C_BadLine) "__getattribute__" = some (some (.builtin "BaseException.__getattribute__")))
    (gg_BadLine : PySem.W.findIn K (.ref C_BadLine) "__getattr__" = some none)
    (sb_BadLine : PySem.W.subIn K (.ref C_BadLine) (.type "BaseException") = some true)
    (hd_BadLine : PySem.W.hasDictIn K C_BadLine = true)
    (ca_BadLine : PySem.W.findIn K (.ref C_BadLine) "__class__" = some (some (.builtin "object.__class__")))
    (mo_BadLine : PySem.W.mroIn K C_BadLine (.type "object") = some true)
    (kp_BadLine : PySem.W.keepIn K (.ref C_BadLine) = true)
    (xL_BadLine : K.lookup C_BadLine = some (excClassObj nmI_BadLine qI_BadLine C_BadLine NI_BadLine bsI_BadLine bmI_BadLine true snI_BadLine subI_BadLine abI_BadLine colI_BadLine ddI_BadLine m0I_BadLine m1I_BadLine m2I_BadLine m3I_BadLine m5I_BadLine "ValueError.__new__"))
    (rb_BadLine : PySem.HandSPX.refsVE bmI_BadLine = true)
    (sa_BadLine : PySem.W.findIn K (.ref C_BadLine) "__setattr__" = some (some (.builtin "object.__setattr__")))
    (ty_BadLine : PySem.W.typeIn K (.ref C_BadLine) = some (.type "type"))
    (i_BadLine : PySem.W.findIn K (.ref C_BadLine) "__init__" = some (some (.ref fI_BadLine)))
    (t_BadLine : PySem.W.typeIn K (.ref fI_BadLine) = some (.type "function"))
    (lI_BadLine : K.lookup fI_BadLine = some ⟨ocI_BadLine, odI_BadLine, .func (PySem.W.fnOf "__init__" "BadLine.__init__" (defArgs (inClass (top 3) 0)) (defBody (inClass (top 3) 0)) (defScope (inClass (top 3) 0)) .none kVI_BadLine dcI_BadLine pmI_BadLine anI_BadLine cdI_BadLine ctI_BadLine), slI_BadLine⟩)
    (cI_BadLine : PySem.W.codeIn K cdI_BadLine "BadLine.__init__" = true)
    (kI_BadLine : PySem.W.keepIn K (.ref fI_BadLine) = true)
    (n_BadLine_line : PySem.W.findIn K (.ref C_BadLine) "line" = some none)
    (n_BadLine_column : PySem.W.findIn K (.ref C_BadLine) "column" = some none)
    (a_BadNumber : PySem.W.nsIn K mainGlobals "BadNumber" = some (some (.ref C_BadNumber)))
    (ga_BadNumber : PySem.W.findIn K (.ref C_BadNumber) "__getattribute__" = some (some (.builtin "BaseException.__getattribute__")))
    (gg_BadNumber : PySem.W.findIn K (.ref C_BadNumber) "__getattr__" = some none)
    (sb_BadNumber : PySem.W.subIn K (.ref C_BadNumber) (.type "BaseException") = some true)
    (hd_BadNumber : PySem.W.hasDictIn K C_BadNumber = true)
    (ca_BadNumber : PySem.W.findIn K (.ref C_BadNumber) "__class__" = some (some (.builtin "object.__class__")))
    (mo_BadNumber : PySem.W.mroIn K C_BadNumber (.type "object") = some true)
    (kp_BadNumber : PySem.W.keepIn K (.ref C_BadNumber) = true)
    (xL_BadNumber : K.lookup C_BadNumber = some (excClassObj nmI_BadNumber qI_BadNumber C_BadNumber NI_BadNumber bsI_BadNumber bmI_BadNumber true snI_BadNumber subI_BadNumber abI_BadNumber colI_BadNumber ddI_BadNumber m0I_BadNumber m1I_BadNumber m2I_BadNumber m3I_BadNumber m5I_BadNumber "ValueError.__new__"))
    (rb_BadNumber : PySem.HandSPX.refsVE bmI_BadNumber = true)
    (sa_BadNumber : PySem.W.findIn K (.ref C_BadNumber) "__setattr__" = some (some (.builtin "object.__setattr__")))
    (ty_BadNumber : PySem.W.typeIn K (.ref C_BadNumber) = some (.type "type"))
    (i_BadNumber : PySem.W.findIn K (.ref C_BadNumber) "__init__" = some (some (.ref fI_BadNumber)))
    (t_BadNumber : PySem.W.typeIn K (.ref fI_BadNumber) = some (.type "function"))
    (lI_BadNumber : K.lookup fI_BadNumber = some ⟨ocI_BadNumber, odI_BadNumber, .func (PySem.W.fnOf "__init__" "BadNumber.__init__" (defArgs (inClass (top 4) 0)) (defBody (inClass (top 4) 0)) (defScope (inClass (top 4) 0)) .none kVI_BadNumber dcI_BadNumber pmI_BadNumber anI_BadNumber cdI_BadNumber ctI_BadNumber), slI_BadNumber⟩)
    (cI_BadNumber : PySem.W.codeIn K cdI_BadNumber "BadNumber.__init__" = true)
    (kI_BadNumber : PySem.W.keepIn K (.ref fI_BadNumber) = true)
    (n_BadNumber_what : PySem.W.findIn K (.ref C_BadNumber) "what" = some none)
    (n_BadNumber_number : PySem.W.findIn K (.ref C_BadNumber) "number" = some none)
    (a_BadRow : PySem.W.nsIn K mainGlobals "BadRow" = some (some (.ref C_BadRow)))
    (ga_BadRow : PySem.W.findIn K (.ref C_BadRow) "__getattribute__" = some (some (.builtin "BaseException.__getattribute__")))
    (gg_BadRow : PySem.W.findIn K (.ref C_BadRow) "__getattr__" = some none)
    (sb_BadRow : PySem.W.subIn K (.ref C_BadRow) (.type "BaseException") = some true)
    (hd_BadRow : PySem.W.hasDictIn K C_BadRow = true)
    (ca_BadRow : PySem.W.findIn K (.ref C_BadRow) "__class__" = some (some (.builtin "object.__class__")))
    (mo_BadRow : PySem.W.mroIn K C_BadRow (.type "object") = some true)
    (kp_BadRow : PySem.W.keepIn K (.ref C_BadRow) = true)
    (xL_BadRow : K.lookup C_BadRow = some (excClassObj nmI_BadRow qI_BadRow C_BadRow NI_BadRow bsI_BadRow bmI_BadRow true snI_BadRow subI_BadRow abI_BadRow colI_BadRow ddI_BadRow m0I_BadRow m1I_BadRow m2I_BadRow m3I_BadRow m5I_BadRow "ValueError.__new__"))
    (rb_BadRow : PySem.HandSPX.refsVE bmI_BadRow = true)
    (sa_BadRow : PySem.W.findIn K (.ref C_BadRow) "__setattr__" = some (some (.builtin "object.__setattr__")))
    (ty_BadRow : PySem.W.typeIn K (.ref C_BadRow) = some (.type "type"))
    (i_BadRow : PySem.W.findIn K (.ref C_BadRow) "__init__" = some (some (.ref fI_BadRow)))
    (t_BadRow : PySem.W.typeIn K (.ref fI_BadRow) = some (.type "function"))
    (lI_BadRow : K.lookup fI_BadRow = some ⟨ocI_BadRow, odI_BadRow, .func (PySem.W.fnOf "__init__" "BadRow.__init__" (defArgs (inClass (top 5) 0)) (defBody (inClass (top 5) 0)) (defScope (inClass (top 5) 0)) .none kVI_BadRow dcI_BadRow pmI_BadRow anI_BadRow cdI_BadRow ctI_BadRow), slI_BadRow⟩)
    (cI_BadRow : PySem.W.codeIn K cdI_BadRow "BadRow.__init__" = true)
    (kI_BadRow : PySem.W.keepIn K (.ref fI_BadRow) = true)
    (n_BadRow_row : PySem.W.findIn K (.ref C_BadRow) "row" = some none)
    (a_BadName : PySem.W.nsIn K mainGlobals "BadName" = some (some (.ref C_BadName)))
    (ga_BadName : PySem.W.findIn K (.ref C_BadName) "__getattribute__" = some (some (.builtin "BaseException.__getattribute__")))
    (gg_BadName : PySem.W.findIn K (.ref C_BadName) "__getattr__" = some none)
    (sb_BadName : PySem.W.subIn K (.ref C_BadName) (.type "BaseException") = some true)
    (hd_BadName : PySem.W.hasDictIn K C_BadName = true)
    (ca_BadName : PySem.W.findIn K (.ref C_BadName) "__class__" = some (some (.builtin "object.__class__")))
    (mo_BadName : PySem.W.mroIn K C_BadName (.type "object") = some true)
    (kp_BadName : PySem.W.keepIn K (.ref C_BadName) = true)
    (xL_BadName : K.lookup C_BadName = some (excClassObj nmI_BadName qI_BadName C_BadName NI_BadName bsI_BadName bmI_BadName true snI_BadName subI_BadName abI_BadName colI_BadName ddI_BadName m0I_BadName m1I_BadName m2I_BadName m3I_BadName m5I_BadName "ValueError.__new__"))
    (rb_BadName : PySem.HandSPX.refsVE bmI_BadName = true)
    (sa_BadName : PySem.W.findIn K (.ref C_BadName) "__setattr__" = some (some (.builtin "object.__setattr__")))
    (ty_BadName : PySem.W.typeIn K (.ref C_BadName) = some (.type "type"))
    (i_BadName : PySem.W.findIn K (.ref C_BadName) "__init__" = some (some (.ref fI_BadName)))
    (t_BadName : PySem.W.typeIn K (.ref fI_BadName) = some (.type "function"))
    (lI_BadName : K.lookup fI_BadName = some ⟨ocI_BadName, odI_BadName, .func (PySem.W.fnOf "__init__" "BadName.__init__" (defArgs (inClass (top 6) 0)) (defBody (inClass (top 6) 0)) (defScope (inClass (top 6) 0)) .none kVI_BadName dcI_BadName pmI_BadName anI_BadName cdI_BadName ctI_BadName), slI_BadName⟩)
    (cI_BadName : PySem.W.codeIn K cdI_BadName "BadName.__init__" = true)
    (kI_BadName : PySem.W.keepIn K (.ref fI_BadName) = true)
    (n_BadName_name : PySem.W.findIn K (.ref C_BadName) "name" = some none)
    (a_Shared : PySem.W.nsIn K mainGlobals "Shared" = some (some (.ref C_Shared)))
    (ga_Shared : PySem.W.findIn K (.ref C_Shared) "__getattribute__" = some (some (.builtin "BaseException.__getattribute__")))
    (gg_Shared : PySem.W.findIn K (.ref C_Shared) "__getattr__" = some none)
    (sb_Shared : PySem.W.subIn K (.ref C_Shared) (.type "BaseException") = some true)
    (hd_Shared : PySem.W.hasDictIn K C_Shared = true)
    (ca_Shared : PySem.W.findIn K (.ref C_Shared) "__class__" = some (some (.builtin "object.__class__")))
    (mo_Shared : PySem.W.mroIn K C_Shared (.type "object") = some true)
    (kp_Shared : PySem.W.keepIn K (.ref C_Shared) = true)
    (xL_Shared : K.lookup C_Shared = some (excClassObj nmI_Shared qI_Shared C_Shared NI_Shared bsI_Shared bmI_Shared true snI_Shared subI_Shared abI_Shared colI_Shared ddI_Shared m0I_Shared m1I_Shared m2I_Shared m3I_Shared m5I_Shared "ValueError.__new__"))
    (rb_Shared : PySem.HandSPX.refsVE bmI_Shared = true)
    (sa_Shared : PySem.W.findIn K (.ref C_Shared) "__setattr__" = some (some (.builtin "object.__setattr__")))
    (ty_Shared : PySem.W.typeIn K (.ref C_Shared) = some (.type "type"))
    (i_Shared : PySem.W.findIn K (.ref C_Shared) "__init__" = some (some (.ref fI_Shared)))
    (t_Shared : PySem.W.typeIn K (.ref fI_Shared) = some (.type "function"))
    (lI_Shared : K.lookup fI_Shared = some ⟨ocI_Shared, odI_Shared, .func (PySem.W.fnOf "__init__" "Shared.__init__" (defArgs (inClass (top 7) 0)) (defBody (inClass (top 7) 0)) (defScope (inClass (top 7) 0)) .none kVI_Shared dcI_Shared pmI_Shared anI_Shared cdI_Shared ctI_Shared), slI_Shared⟩)
    (cI_Shared : PySem.W.codeIn K cdI_Shared "Shared.__init__" = true)
    (kI_Shared : PySem.W.keepIn K (.ref fI_Shared) = true)
    (n_Shared_plane : PySem.W.findIn K (.ref C_Shared) "plane" = some none)
    (a_NoRest : PySem.W.nsIn K mainGlobals "NoRest" = some (some (.ref C_NoRest)))
    (ga_NoRest : PySem.W.findIn K (.ref C_NoRest) "__getattribute__" = some (some (.builtin "BaseException.__getattribute__")))
    (gg_NoRest : PySem.W.findIn K (.ref C_NoRest) "__getattr__" = some none)
    (sb_NoRest : PySem.W.subIn K (.ref C_NoRest) (.type "BaseException") = some true)
    (hd_NoRest : PySem.W.hasDictIn K C_NoRest = true)
    (ca_NoRest : PySem.W.findIn K (.ref C_NoRest) "__class__" = some (some (.builtin "object.__class__")))
    (mo_NoRest : PySem.W.mroIn K C_NoRest (.type "object") = some true)
    (kp_NoRest : PySem.W.keepIn K (.ref C_NoRest) = true)
    (xL_NoRest : K.lookup C_NoRest = some (excClassObj nmI_NoRest qI_NoRest C_NoRest NI_NoRest bsI_NoRest bmI_NoRest true snI_NoRest subI_NoRest abI_NoRest colI_NoRest ddI_NoRest m0I_NoRest m1I_NoRest m2I_NoRest m3I_NoRest m5I_NoRest "ValueError.__new__"))
    (rb_NoRest : PySem.HandSPX.refsVE bmI_NoRest = true)
    (sa_NoRest : PySem.W.findIn K (.ref C_NoRest) "__setattr__" = some (some (.builtin "object.__setattr__")))
    (ty_NoRest : PySem.W.typeIn K (.ref C_NoRest) = some (.type "type"))
    (i_NoRest : PySem.W.findIn K (.ref C_NoRest) "__init__" = some (some (.ref fI_NoRest)))
    (t_NoRest : PySem.W.typeIn K (.ref fI_NoRest) = some (.type "function"))
    (lI_NoRest : K.lookup fI_NoRest = some ⟨ocI_NoRest, odI_NoRest, .func (PySem.W.fnOf "__init__" "NoRest.__init__" (defArgs (inClass (top 8) 0)) (defBody (inClass (top 8) 0)) (defScope (inClass (top 8) 0)) .none kVI_NoRest dcI_NoRest pmI_NoRest anI_NoRest cdI_NoRest ctI_NoRest), slI_NoRest⟩)
    (cI_NoRest : PySem.W.codeIn K cdI_NoRest "NoRest.__init__" = true)
    (kI_NoRest : PySem.W.keepIn K (.ref fI_NoRest) = true)
    (n_NoRest_place : PySem.W.findIn K (.ref C_NoRest) "place" = some none)
    (a_NotRound : PySem.W.nsIn K mainGlobals "NotRound" = some (some (.ref C_NotRound)))
    (ga_NotRound : PySem.W.findIn K (.ref C_NotRound) "__getattribute__" = some (some (.builtin "BaseException.__getattribute__")))
    (gg_NotRound : PySem.W.findIn K (.ref C_NotRound) "__getattr__" = some none)
    (sb_NotRound : PySem.W.subIn K (.ref C_NotRound) (.type "BaseException") = some true)
    (hd_NotRound : PySem.W.hasDictIn K C_NotRound = true)
    (ca_NotRound : PySem.W.findIn K (.ref C_NotRound) "__class__" = some (some (.builtin "object.__class__")))
    (mo_NotRound : PySem.W.mroIn K C_NotRound (.type "object") = some true)
    (kp_NotRound : PySem.W.keepIn K (.ref C_NotRound) = true)
    (q_NotRound : PySem.W.excIn K C_NotRound [.type "ValueError", .type "Exception", .type "BaseException", .type "object"] "ValueError.__new__" = true)
    (a_NoName : PySem.W.nsIn K mainGlobals "NoName" = some (some (.ref C_NoName)))
    (ga_NoName : PySem.W.findIn K (.ref C_NoName) "__getattribute__" = some (some (.builtin "BaseException.__getattribute__")))
    (gg_NoName : PySem.W.findIn K (.ref C_NoName) "__getattr__" = some none)
    (sb_NoName : PySem.W.subIn K (.ref C_NoName) (.type "BaseException") = some true)
    (hd_NoName : PySem.W.hasDictIn K C_NoName = true)
    (ca_NoName : PySem.W.findIn K (.ref C_NoName) "__class__" = some (some (.builtin "object.__class__")))
    (mo_NoName : PySem.W.mroIn K C_NoName (.type "object") = some true)
    (kp_NoName : PySem.W.keepIn K (.ref C_NoName) = true)
    (xL_NoName : K.lookup C_NoName = some (excClassObj nmI_NoName qI_NoName C_NoName NI_NoName bsI_NoName bmI_NoName true snI_NoName subI_NoName abI_NoName colI_NoName ddI_NoName m0I_NoName m1I_NoName m2I_NoName m3I_NoName m5I_NoName "ValueError.__new__"))
    (rb_NoName : PySem.HandSPX.refsVE bmI_NoName = true)
    (sa_NoName : PySem.W.findIn K (.ref C_NoName) "__setattr__" = some (some (.builtin "object.__setattr__")))
    (ty_NoName : PySem.W.typeIn K (.ref C_NoName) = some (.type "type"))
    (i_NoName : PySem.W.findIn K (.ref C_NoName) "__init__" = some (some (.ref fI_NoName)))
    (t_NoName : PySem.W.typeIn K (.ref fI_NoName) = some (.type "function"))
    (lI_NoName : K.lookup fI_NoName = some ⟨ocI_NoName, odI_NoName, .func (PySem.W.fnOf "__init__" "NoName.__init__" (defArgs (inClass (top 10) 0)) (defBody (inClass (top 10) 0)) (defScope (inClass (top 10) 0)) .none kVI_NoName dcI_NoName pmI_NoName anI_NoName cdI_NoName ctI_NoName), slI_NoName⟩)
    (cI_NoName : PySem.W.codeIn K cdI_NoName "NoName.__init__" = true)
    (kI_NoName : PySem.W.keepIn K (.ref fI_NoName) = true)
    (n_NoName_name : PySem.W.findIn K (.ref C_NoName) "name" = some none)
    (a_TakenName : PySem.W.nsIn K mainGlobals "TakenName" = some (some (.ref C_TakenName)))
    (ga_TakenName : PySem.W.findIn K (.ref C_TakenName) "__getattribute__" = some (some (.builtin "BaseException.__getattribute__")))
    (gg_TakenName : PySem.W.findIn K (.ref C_TakenName) "__getattr__" = some none)
    (sb_TakenName : PySem.W.subIn K (.ref C_TakenName) (.type "BaseException") = some true)
    (hd_TakenName : PySem.W.hasDictIn K C_TakenName = true)
    (ca_TakenName : PySem.W.findIn K (.ref C_TakenName) "__class__" = some (some (.builtin "object.__class__")))
    (mo_TakenName : PySem.W.mroIn K C_TakenName (.type "object") = some true)
    (kp_TakenName : PySem.W.keepIn K (.ref C_TakenName) = true)
    (xL_TakenName : K.lookup C_TakenName = some (excClassObj nmI_TakenName qI_TakenName C_TakenName NI_TakenName bsI_TakenName bmI_TakenName true snI_TakenName subI_TakenName abI_TakenName colI_TakenName ddI_TakenName m0I_TakenName m1I_TakenName m2I_TakenName m3I_TakenName m5I_TakenName "ValueError.__new__"))
    (rb_TakenName : PySem.HandSPX.refsVE bmI_TakenName = true)
    (sa_TakenName : PySem.W.findIn K (.ref C_TakenName) "__setattr__" = some (some (.builtin "object.__setattr__")))
    (ty_TakenName : PySem.W.typeIn K (.ref C_TakenName) = some (.type "type"))
    (i_TakenName : PySem.W.findIn K (.ref C_TakenName) "__init__" = some (some (.ref fI_TakenName)))
    (t_TakenName : PySem.W.typeIn K (.ref fI_TakenName) = some (.type "function"))
    (lI_TakenName : K.lookup fI_TakenName = some ⟨ocI_TakenName, odI_TakenName, .func (PySem.W.fnOf "__init__" "TakenName.__init__" (defArgs (inClass (top 11) 0)) (defBody (inClass (top 11) 0)) (defScope (inClass (top 11) 0)) .none kVI_TakenName dcI_TakenName pmI_TakenName anI_TakenName cdI_TakenName ctI_TakenName), slI_TakenName⟩)
    (cI_TakenName : PySem.W.codeIn K cdI_TakenName "TakenName.__init__" = true)
    (kI_TakenName : PySem.W.keepIn K (.ref fI_TakenName) = true)
    (n_TakenName_name : PySem.W.findIn K (.ref C_TakenName) "name" = some none)
    (a_NotKept : PySem.W.nsIn K mainGlobals "NotKept" = some (some (.ref C_NotKept)))
    (ga_NotKept : PySem.W.findIn K (.ref C_NotKept) "__getattribute__" = some (some (.builtin "BaseException.__getattribute__")))
    (gg_NotKept : PySem.W.findIn K (.ref C_NotKept) "__getattr__" = some none)
    (sb_NotKept : PySem.W.subIn K (.ref C_NotKept) (.type "BaseException") = some true)
    (hd_NotKept : PySem.W.hasDictIn K C_NotKept = true)
    (ca_NotKept : PySem.W.findIn K (.ref C_NotKept) "__class__" = some (some (.builtin "object.__class__")))
    (mo_NotKept : PySem.W.mroIn K C_NotKept (.type "object") = some true)
    (kp_NotKept : PySem.W.keepIn K (.ref C_NotKept) = true)
    (xL_NotKept : K.lookup C_NotKept = some (excClassObj nmI_NotKept qI_NotKept C_NotKept NI_NotKept bsI_NotKept bmI_NotKept true snI_NotKept subI_NotKept abI_NotKept colI_NotKept ddI_NotKept m0I_NotKept m1I_NotKept m2I_NotKept m3I_NotKept m5I_NotKept "ValueError.__new__"))
    (rb_NotKept : PySem.HandSPX.refsVE bmI_NotKept = true)
    (sa_NotKept : PySem.W.findIn K (.ref C_NotKept) "__setattr__" = some (some (.builtin "object.__setattr__")))
    (ty_NotKept : PySem.W.typeIn K (.ref C_NotKept) = some (.type "type"))
    (i_NotKept : PySem.W.findIn K (.ref C_NotKept) "__init__" = some (some (.ref fI_NotKept)))
    (t_NotKept : PySem.W.typeIn K (.ref fI_NotKept) = some (.type "function"))
    (lI_NotKept : K.lookup fI_NotKept = some ⟨ocI_NotKept, odI_NotKept, .func (PySem.W.fnOf "__init__" "NotKept.__init__" (defArgs (inClass (top 12) 0)) (defBody (inClass (top 12) 0)) (defScope (inClass (top 12) 0)) .none kVI_NotKept dcI_NotKept pmI_NotKept anI_NotKept cdI_NotKept ctI_NotKept), slI_NotKept⟩)
    (cI_NotKept : PySem.W.codeIn K cdI_NotKept "NotKept.__init__" = true)
    (kI_NotKept : PySem.W.keepIn K (.ref fI_NotKept) = true)
    (n_NotKept_promise : PySem.W.findIn K (.ref C_NotKept) "promise" = some none)
    (n_NotKept_witness : PySem.W.findIn K (.ref C_NotKept) "witness" = some none)
    (a_NothingToUndo : PySem.W.nsIn K mainGlobals "NothingToUndo" = some (some (.ref C_NothingToUndo)))
    (ga_NothingToUndo : PySem.W.findIn K (.ref C_NothingToUndo) "__getattribute__" = some (some (.builtin "BaseException.__getattribute__")))
    (gg_NothingToUndo : PySem.W.findIn K (.ref C_NothingToUndo) "__getattr__" = some none)
    (sb_NothingToUndo : PySem.W.subIn K (.ref C_NothingToUndo) (.type "BaseException") = some true)
    (hd_NothingToUndo : PySem.W.hasDictIn K C_NothingToUndo = true)
    (ca_NothingToUndo : PySem.W.findIn K (.ref C_NothingToUndo) "__class__" = some (some (.builtin "object.__class__")))
    (mo_NothingToUndo : PySem.W.mroIn K C_NothingToUndo (.type "object") = some true)
    (kp_NothingToUndo : PySem.W.keepIn K (.ref C_NothingToUndo) = true)
    (q_NothingToUndo : PySem.W.excIn K C_NothingToUndo [.type "ValueError", .type "Exception", .type "BaseException", .type "object"] "ValueError.__new__" = true)
    (a_NothingToRedo : PySem.W.nsIn K mainGlobals "NothingToRedo" = some (some (.ref C_NothingToRedo)))
    (ga_NothingToRedo : PySem.W.findIn K (.ref C_NothingToRedo) "__getattribute__" = some (some (.builtin "BaseException.__getattribute__")))
    (gg_NothingToRedo : PySem.W.findIn K (.ref C_NothingToRedo) "__getattr__" = some none)
    (sb_NothingToRedo : PySem.W.subIn K (.ref C_NothingToRedo) (.type "BaseException") = some true)
    (hd_NothingToRedo : PySem.W.hasDictIn K C_NothingToRedo = true)
    (ca_NothingToRedo : PySem.W.findIn K (.ref C_NothingToRedo) "__class__" = some (some (.builtin "object.__class__")))
    (mo_NothingToRedo : PySem.W.mroIn K C_NothingToRedo (.type "object") = some true)
    (kp_NothingToRedo : PySem.W.keepIn K (.ref C_NothingToRedo) = true)
    (q_NothingToRedo : PySem.W.excIn K C_NothingToRedo [.type "ValueError", .type "Exception", .type "BaseException", .type "object"] "ValueError.__new__" = true)
    (e_kk : kindsB K [C_BadText, C_BadLine, C_BadNumber, C_BadRow, C_BadName, C_Shared, C_NoRest, C_NotRound, C_NoName, C_TakenName, C_NotKept, C_NothingToUndo, C_NothingToRedo] = true)
    (e_kf : flowB K C_FlowError [C_BadText, C_BadLine, C_BadNumber, C_BadRow, C_BadName, C_Shared, C_NoRest, C_NotRound, C_NoName, C_TakenName, C_NotKept, C_NothingToUndo, C_NothingToRedo] = true)
    (fin : Txt K mg → Z) : Z := fin {
  int := PySem.W.mg_none_of X G z_int
  list := PySem.W.mg_none_of X G z_list
  len := PySem.W.mg_none_of X G z_len
  range := PySem.W.mg_none_of X G z_range
  str := PySem.W.mg_none_of X G z_str
  isinstance := PySem.W.mg_none_of X G z_isinstance
  enumerate := PySem.W.mg_none_of X G z_enumerate
  zip := PySem.W.mg_none_of X G z_zip
  repr := PySem.W.mg_none_of X G z_repr
  ValueError := PySem.W.mg_none_of X G z_ValueError
  _law_pen := Df.mk' X G a_law_pen l_law_pen c_law_pen k_law_pen fun _ _ _ _ _ _ us hl => match us, hl with | [_], _ => rfl
  _law_draw := Df.mk' X G a_law_draw l_law_draw c_law_draw k_law_draw fun _ _ _ _ _ _ us hl => match us, hl with | [_, _], _ => rfl
  _law_pick := Df.mk' X G a_law_pick l_law_pick c_law_pick k_law_pick fun _ _ _ _ _ _ us hl => match us, hl with | [_, _], _ => rfl
  _law_far := Df.mk' X G a_law_far l_law_far c_law_far k_law_far fun _ _ _ _ _ _ us hl => match us, hl with | [_], _ => rfl
  _law_kinds := Df.mk' X G a_law_kinds l_law_kinds c_law_kinds k_law_kinds fun _ _ _ _ _ _ us hl => match us, hl with | [_], _ => rfl
  _law_objects := Df.mk' X G a_law_objects l_law_objects c_law_objects k_law_objects fun _ _ _ _ _ _ us hl => match us, hl with | [_, _], _ => rfl
  _law_fields := Df.mk' X G a_law_fields l_law_fields c_law_fields k_law_fields fun _ _ _ _ _ _ us hl => match us, hl with | [_], _ => rfl
  law := Df.mk' X G a_law l_law c_law k_law fun _ _ _ _ _ _ us hl => match us, hl with | [_], _ => rfl
  FlowError := (PySem.W.mg_of X G a_FlowError).trans (by rw [fA_of (PySem.W.mg_of X G a_FlowError)])
  BadText := ClI.mk' X G a_BadText ⟨ga_BadText, gg_BadText, sb_BadText, hd_BadText, ca_BadText, hn_, ht_, mo_BadText⟩ ⟨⟨_, _, _, _, _, _, _, _, _, _, _, _, _, _, _, xL_BadText, rb_BadText⟩, sa_BadText, sb_BadText, ty_BadText, kp_BadText⟩ i_BadText t_BadText lI_BadText cI_BadText kI_BadText (fun _ _ _ _ _ _ us hl => match us, hl with | [_, _], _ => rfl) (List.forall_mem_cons.mpr ⟨n_BadText_column, List.forall_mem_nil _⟩)
  BadLine := ClI.mk' X G a_BadLine ⟨ga_BadLine, gg_BadLine, sb_BadLine, hd_BadLine, ca_BadLine, hn_, ht_, mo_BadLine⟩ ⟨⟨_, _, _, _, _, _, _, _, _, _, _, _, _, _, _, xL_BadLine, rb_BadLine⟩, sa_BadLine, sb_BadLine, ty_BadLine, kp_BadLine⟩ i_BadLine t_BadLine lI_BadLine cI_BadLine kI_BadLine (fun _ _ _ _ _ _ us hl => match us, hl with | [_, _, _], _ => rfl) (List.forall_mem_cons.mpr ⟨n_BadLine_line, List.forall_mem_cons.mpr ⟨n_BadLine_column, List.forall_mem_nil _⟩⟩)
  BadNumber := ClI.mk' X G a_BadNumber ⟨ga_BadNumber, gg_BadNumber, sb_BadNumber, hd_BadNumber, ca_BadNumber, hn_, ht_, mo_BadNumber⟩ ⟨⟨_, _, _, _, _, _, _, _, _, _, _, _, _, _, _, xL_BadNumber, rb_BadNumber⟩, sa_BadNumber, sb_BadNumber, ty_BadNumber, kp_BadNumber⟩ i_BadNumber t_BadNumber lI_BadNumber cI_BadNumber kI_BadNumber (fun _ _ _ _ _ _ us hl => match us, hl with | [_, _, _], _ => rfl) (List.forall_mem_cons.mpr ⟨n_BadNumber_what, List.forall_mem_cons.mpr ⟨n_BadNumber_number, List.forall_mem_nil _⟩⟩)
  BadRow := ClI.mk' X G a_BadRow ⟨ga_BadRow, gg_BadRow, sb_BadRow, hd_BadRow, ca_BadRow, hn_, ht_, mo_BadRow⟩ ⟨⟨_, _, _, _, _, _, _, _, _, _, _, _, _, _, _, xL_BadRow, rb_BadRow⟩, sa_BadRow, sb_BadRow, ty_BadRow, kp_BadRow⟩ i_BadRow t_BadRow lI_BadRow cI_BadRow kI_BadRow (fun _ _ _ _ _ _ us hl => match us, hl with | [_, _], _ => rfl) (List.forall_mem_cons.mpr ⟨n_BadRow_row, List.forall_mem_nil _⟩)
  BadName := ClI.mk' X G a_BadName ⟨ga_BadName, gg_BadName, sb_BadName, hd_BadName, ca_BadName, hn_, ht_, mo_BadName⟩ ⟨⟨_, _, _, _, _, _, _, _, _, _, _, _, _, _, _, xL_BadName, rb_BadName⟩, sa_BadName, sb_BadName, ty_BadName, kp_BadName⟩ i_BadName t_BadName lI_BadName cI_BadName kI_BadName (fun _ _ _ _ _ _ us hl => match us, hl with | [_, _], _ => rfl) (List.forall_mem_cons.mpr ⟨n_BadName_name, List.forall_mem_nil _⟩)
  Shared := ClI.mk' X G a_Shared ⟨ga_Shared, gg_Shared, sb_Shared, hd_Shared, ca_Shared, hn_, ht_, mo_Shared⟩ ⟨⟨_, _, _, _, _, _, _, _, _, _, _, _, _, _, _, xL_Shared, rb_Shared⟩, sa_Shared, sb_Shared, ty_Shared, kp_Shared⟩ i_Shared t_Shared lI_Shared cI_Shared kI_Shared (fun _ _ _ _ _ _ us hl => match us, hl with | [_, _], _ => rfl) (List.forall_mem_cons.mpr ⟨n_Shared_plane, List.forall_mem_nil _⟩)
  NoRest := ClI.mk' X G a_NoRest ⟨ga_NoRest, gg_NoRest, sb_NoRest, hd_NoRest, ca_NoRest, hn_, ht_, mo_NoRest⟩ ⟨⟨_, _, _, _, _, _, _, _, _, _, _, _, _, _, _, xL_NoRest, rb_NoRest⟩, sa_NoRest, sb_NoRest, ty_NoRest, kp_NoRest⟩ i_NoRest t_NoRest lI_NoRest cI_NoRest kI_NoRest (fun _ _ _ _ _ _ us hl => match us, hl with | [_, _], _ => rfl) (List.forall_mem_cons.mpr ⟨n_NoRest_place, List.forall_mem_nil _⟩)
  NotRound := Cl0.mk' X G a_NotRound kp_NotRound ⟨ga_NotRound, gg_NotRound, sb_NotRound, hd_NotRound, ca_NotRound, hn_, ht_, mo_NotRound⟩ q_NotRound
  NoName := ClI.mk' X G a_NoName ⟨ga_NoName, gg_NoName, sb_NoName, hd_NoName, ca_NoName, hn_, ht_, mo_NoName⟩ ⟨⟨_, _, _, _, _, _, _, _, _, _, _, _, _, _, _, xL_NoName, rb_NoName⟩, sa_NoName, sb_NoName, ty_NoName, kp_NoName⟩ i_NoName t_NoName lI_NoName cI_NoName kI_NoName (fun _ _ _ _ _ _ us hl => match us, hl with | [_, _], _ => rfl) (List.forall_mem_cons.mpr ⟨n_NoName_name, List.forall_mem_nil _⟩)
  TakenName := ClI.mk' X G a_TakenName ⟨ga_TakenName, gg_TakenName, sb_TakenName, hd_TakenName, ca_TakenName, hn_, ht_, mo_TakenName⟩ ⟨⟨_, _, _, _, _, _, _, _, _, _, _, _, _, _, _, xL_TakenName, rb_TakenName⟩, sa_TakenName, sb_TakenName, ty_TakenName, kp_TakenName⟩ i_TakenName t_TakenName lI_TakenName cI_TakenName kI_TakenName (fun _ _ _ _ _ _ us hl => match us, hl with | [_, _], _ => rfl) (List.forall_mem_cons.mpr ⟨n_TakenName_name, List.forall_mem_nil _⟩)
  NotKept := ClI.mk' X G a_NotKept ⟨ga_NotKept, gg_NotKept, sb_NotKept, hd_NotKept, ca_NotKept, hn_, ht_, mo_NotKept⟩ ⟨⟨_, _, _, _, _, _, _, _, _, _, _, _, _, _, _, xL_NotKept, rb_NotKept⟩, sa_NotKept, sb_NotKept, ty_NotKept, kp_NotKept⟩ i_NotKept t_NotKept lI_NotKept cI_NotKept kI_NotKept (fun _ _ _ _ _ _ us hl => match us, hl with | [_, _, _], _ => rfl) (List.forall_mem_cons.mpr ⟨n_NotKept_promise, List.forall_mem_cons.mpr ⟨n_NotKept_witness, List.forall_mem_nil _⟩⟩)
  NothingToUndo := Cl0.mk' X G a_NothingToUndo kp_NothingToUndo ⟨ga_NothingToUndo, gg_NothingToUndo, sb_NothingToUndo, hd_NothingToUndo, ca_NothingToUndo, hn_, ht_, mo_NothingToUndo⟩ q_NothingToUndo
  NothingToRedo := Cl0.mk' X G a_NothingToRedo kp_NothingToRedo ⟨ga_NothingToRedo, gg_NothingToRedo, sb_NothingToRedo, hd_NothingToRedo, ca_NothingToRedo, hn_, ht_, mo_NothingToRedo⟩ q_NothingToRedo
  kk := by unfold Cs; rw [fA_of (PySem.W.mg_of X G a_BadText), fA_of (PySem.W.mg_of X G a_BadLine), fA_of (PySem.W.mg_of X G a_BadNumber), fA_of (PySem.W.mg_of X G a_BadRow), fA_of (PySem.W.mg_of X G a_BadName), fA_of (PySem.W.mg_of X G a_Shared), fA_of (PySem.W.mg_of X G a_NoRest), fA_of (PySem.W.mg_of X G a_NotRound), fA_of (PySem.W.mg_of X G a_NoName), fA_of (PySem.W.mg_of X G a_TakenName), fA_of (PySem.W.mg_of X G a_NotKept), fA_of (PySem.W.mg_of X G a_NothingToUndo), fA_of (PySem.W.mg_of X G a_NothingToRedo)]; exact e_kk
  kf := by unfold Cs; rw [fA_of (PySem.W.mg_of X G a_FlowError), fA_of (PySem.W.mg_of X G a_BadText), fA_of (PySem.W.mg_of X G a_BadLine), fA_of (PySem.W.mg_of X G a_BadNumber), fA_of (PySem.W.mg_of X G a_BadRow), fA_of (PySem.W.mg_of X G a_BadName), fA_of (PySem.W.mg_of X G a_Shared), fA_of (PySem.W.mg_of X G a_NoRest), fA_of (PySem.W.mg_of X G a_NotRound), fA_of (PySem.W.mg_of X G a_NoName), fA_of (PySem.W.mg_of X G a_TakenName), fA_of (PySem.W.mg_of X G a_NotKept), fA_of (PySem.W.mg_of X G a_NothingToUndo), fA_of (PySem.W.mg_of X G a_NothingToRedo)]; exact e_kf
  lb := fun s u => by rw [fA_of (PySem.W.mg_of X G a_law), fDat_of l_law]; exact .of_eq rfl }

end LW
open PySem PySem.W PyProof.Rows
set_option maxRecDepth 100000 in
set_option maxHeartbeats 0 in
theorem PySem.Challenge.cw_flowpapers_k00_errors_holds : PySem.Challenge.rw_flowpapers_k00_errors.Holds := by
  w_on; o_law; k_head; (case hw => w_witness2)
  k_fill
  refine GL.walk_G (l := PySem.Challenge.rw_flowpapers_k00_errors) (n := 63) (k := 9) (x := "_law_script") (sp := LW.spLaw) rfl (by decide) rfl ⟨rfl, by decide, by decide⟩ (fun w h Y => PySem.W.kIn_of Y) ?F (fun K H a ns hl _ hS => ⟨a, ns, rfl, hS, hl, fun _ => rfl⟩)
  case F =>
    intro w mg fa h KX G hmg
    refine' LW.facts KX G ?z_int ?z_list ?z_len ?z_range ?z_str ?z_isinstance ?z_enumerate ?z_zip ?z_repr ?z_ValueError ?a_law_pen ?l_law_pen ?c_law_pen ?k_law_pen ?a_law_draw ?l_law_draw ?c_law_draw ?k_law_draw ?a_law_pick ?l_law_pick ?c_law_pick ?k_law_pick ?a_law_far ?l_law_far ?c_law_far ?k_law_far ?a_law_kinds ?l_law_kinds ?c_law_kinds ?k_law_kinds ?a_law_objects ?l_law_objects ?c_law_objects ?k_law_objects ?a_law_fields ?l_law_fields ?c_law_fields ?k_law_fields ?a_law ?l_law ?c_law ?k_law ?a_FlowError ?hn_ ?ht_ ?a_BadText ?ga_BadText ?gg_BadText ?sb_BadText ?hd_BadText ?ca_BadText ?mo_BadText ?kp_BadText ?xL_BadText ?rb_BadText ?sa_BadText ?ty_BadText ?i_BadText ?t_BadText ?lI_BadText ?cI_BadText ?kI_BadText ?n_BadText_column ?a_BadLine ?ga_BadLine ?gg_BadLine ?sb_BadLine ?hd_BadLine ?ca_BadLine ?mo_BadLine ?kp_BadLine ?xL_BadLine ?rb_BadLine ?sa_BadLine ?ty_BadLine ?i_BadLine ?t_BadLine ?lI_BadLine ?cI_BadLine ?kI_BadLine ?n_BadLine_line ?n_BadLine_column ?a_BadNumber ?ga_BadNumber ?gg_BadNumber ?sb_BadNumber ?hd_BadNumber ?ca_BadNumber ?mo_BadNumber ?kp_BadNumber ?xL_BadNumber ?rb_BadNumber ?sa_BadNumber ?ty_BadNumber ?i_BadNumber ?t_BadNumber ?lI_BadNumber ?cI_BadNumber ?kI_BadNumber ?n_BadNumber_what ?n_BadNumber_number ?a_BadRow ?ga_BadRow ?gg_BadRow ?sb_BadRow ?hd_BadRow ?ca_BadRow ?mo_BadRow ?kp_BadRow ?xL_BadRow ?rb_BadRow ?sa_BadRow ?ty_BadRow ?i_BadRow ?t_BadRow ?lI_BadRow ?cI_BadRow ?kI_BadRow ?n_BadRow_row ?a_BadName ?ga_BadName ?gg_BadName ?sb_BadName ?hd_BadName ?ca_BadName ?mo_BadName ?kp_BadName ?xL_BadName ?rb_BadName ?sa_BadName ?ty_BadName ?i_BadName ?t_BadName ?lI_BadName ?cI_BadName ?kI_BadName ?n_BadName_name ?a_Shared ?ga_Shared ?gg_Shared ?sb_Shared ?hd_Shared ?ca_Shared ?mo_Shared ?kp_Shared ?xL_Shared ?rb_Shared ?sa_Shared ?ty_Shared ?i_Shared ?t_Shared ?lI_Shared ?cI_Shared ?kI_Shared ?n_Shared_plane ?a_NoRest ?ga_NoRest ?gg_NoRest ?sb_NoRest ?hd_NoRest ?ca_NoRest ?mo_NoRest ?kp_NoRest ?xL_NoRest ?rb_NoRest ?sa_NoRest ?ty_NoRest ?i_NoRest ?t_NoRest ?lI_NoRest ?cI_NoRest ?kI_NoRest ?n_NoRest_place ?a_NotRound ?ga_NotRound ?gg_NotRound ?sb_NotRound ?hd_NotRound ?ca_NotRound ?mo_NotRound ?kp_NotRound ?q_NotRound ?a_NoName ?ga_NoName ?gg_NoName ?sb_NoName ?hd_NoName ?ca_NoName ?mo_NoName ?kp_NoName ?xL_NoName ?rb_NoName ?sa_NoName ?ty_NoName ?i_NoName ?t_NoName ?lI_NoName ?cI_NoName ?kI_NoName ?n_NoName_name ?a_TakenName ?ga_TakenName ?gg_TakenName ?sb_TakenName ?hd_TakenName ?ca_TakenName ?mo_TakenName ?kp_TakenName ?xL_TakenName ?rb_TakenName ?sa_TakenName ?ty_TakenName ?i_TakenName ?t_TakenName ?lI_TakenName ?cI_TakenName ?kI_TakenName ?n_TakenName_name ?a_NotKept ?ga_NotKept ?gg_NotKept ?sb_NotKept ?hd_NotKept ?ca_NotKept ?mo_NotKept ?kp_NotKept ?xL_NotKept ?rb_NotKept ?sa_NotKept ?ty_NotKept ?i_NotKept ?t_NotKept ?lI_NotKept ?cI_NotKept ?kI_NotKept ?n_NotKept_promise ?n_NotKept_witness ?a_NothingToUndo ?ga_NothingToUndo ?gg_NothingToUndo ?sb_NothingToUndo ?hd_NothingToUndo ?ca_NothingToUndo ?mo_NothingToUndo ?kp_NothingToUndo ?q_NothingToUndo ?a_NothingToRedo ?ga_NothingToRedo ?gg_NothingToRedo ?sb_NothingToRedo ?hd_NothingToRedo ?ca_NothingToRedo ?mo_NothingToRedo ?kp_NothingToRedo ?q_NothingToRedo ?e_kk ?e_kf ?fin
    (case z_int => k_is); (case z_list => k_is); (case z_len => k_is); (case z_range => k_is); (case z_str => k_is); (case z_isinstance => k_is); (case z_enumerate => k_is); (case z_zip => k_is); (case z_repr => k_is); (case z_ValueError => k_is); (case a_law_pen => k_is); (case l_law_pen => k_is); (case c_law_pen => k_is); (case k_law_pen => k_is); (case a_law_draw => k_is); (case l_law_draw => k_is); (case c_law_draw => k_is); (case k_law_draw => k_is); (case a_law_pick => k_is); (case l_law_pick => k_is); (case c_law_pick => k_is); (case k_law_pick => k_is); (case a_law_far => k_is); (case l_law_far => k_is); (case c_law_far => k_is); (case k_law_far => k_is); (case a_law_kinds => k_is); (case l_law_kinds => k_is); (case c_law_kinds => k_is); (case k_law_kinds => k_is); (case a_law_objects => k_is); (case l_law_objects => k_is); (case c_law_objects => k_is); (case k_law_objects => k_is); (case a_law_fields => k_is); (case l_law_fields => k_is); (case c_law_fields => k_is); (case k_law_fields => k_is); (case a_law => k_is); (case l_law => k_is); (case c_law => k_is); (case k_law => k_is); (case a_FlowError => k_is); (case hn_ => k_is); (case ht_ => k_is); (case a_BadText => k_is); (case ga_BadText => k_is); (case gg_BadText => k_is); (case sb_BadText => k_is); (case hd_BadText => k_is); (case ca_BadText => k_is); (case mo_BadText => k_is); (case kp_BadText => k_is); (case xL_BadText => k_is); (case rb_BadText => decide +kernel); (case sa_BadText => k_is); (case ty_BadText => k_is); (case i_BadText => k_is); (case t_BadText => k_is); (case lI_BadText => k_is); (case cI_BadText => k_is); (case kI_BadText => k_is); (case n_BadText_column => k_is); (case a_BadLine => k_is); (case ga_BadLine => k_is); (case gg_BadLine => k_is); (case sb_BadLine => k_is); (case hd_BadLine => k_is); (case ca_BadLine => k_is); (case mo_BadLine => k_is); (case kp_BadLine => k_is); (case xL_BadLine => k_is); (case rb_BadLine => decide +kernel); (case sa_BadLine => k_is); (case ty_BadLine => k_is); (case i_BadLine => k_is); (case t_BadLine => k_is); (case lI_BadLine => k_is); (case cI_BadLine => k_is); (case kI_BadLine => k_is); (case n_BadLine_line => k_is); (case n_BadLine_column => k_is); (case a_BadNumber => k_is); (case ga_BadNumber => k_is); (case gg_BadNumber => k_is); (case sb_BadNumber => k_is); (case hd_BadNumber => k_is); (case ca_BadNumber => k_is); (case mo_BadNumber => k_is); (case kp_BadNumber => k_is); (case xL_BadNumber => k_is); (case rb_BadNumber => decide +kernel); (case sa_BadNumber => k_is); (case ty_BadNumber => k_is); (case i_BadNumber => k_is); (case t_BadNumber => k_is); (case lI_BadNumber => k_is); (case cI_BadNumber => k_is); (case kI_BadNumber => k_is); (case n_BadNumber_what => k_is); (case n_BadNumber_number => k_is); (case a_BadRow => k_is); (case ga_BadRow => k_is); (case gg_BadRow => k_is); (case sb_BadRow => k_is); (case hd_BadRow => k_is); (case ca_BadRow => k_is); (case mo_BadRow => k_is); (case kp_BadRow => k_is); (case xL_BadRow => k_is); (case rb_BadRow => decide +kernel); (case sa_BadRow => k_is); (case ty_BadRow => k_is); (case i_BadRow => k_is); (case t_BadRow => k_is); (case lI_BadRow => k_is); (case cI_BadRow => k_is); (case kI_BadRow => k_is); (case n_BadRow_row => k_is); (case a_BadName => k_is); (case ga_BadName => k_is); (case gg_BadName => k_is); (case sb_BadName => k_is); (case hd_BadName => k_is); (case ca_BadName => k_is); (case mo_BadName => k_is); (case kp_BadName => k_is); (case xL_BadName => k_is); (case rb_BadName => decide +kernel); (case sa_BadName => k_is); (case ty_BadName => k_is); (case i_BadName => k_is); (case t_BadName => k_is); (case lI_BadName => k_is); (case cI_BadName => k_is); (case kI_BadName => k_is); (case n_BadName_name => k_is); (case a_Shared => k_is); (case ga_Shared => k_is); (case gg_Shared => k_is); (case sb_Shared => k_is); (case hd_Shared => k_is); (case ca_Shared => k_is); (case mo_Shared => k_is); (case kp_Shared => k_is); (case xL_Shared => k_is); (case rb_Shared => decide +kernel); (case sa_Shared => k_is); (case ty_Shared => k_is); (case i_Shared => k_is); (case t_Shared => k_is); (case lI_Shared => k_is); (case cI_Shared => k_is); (case kI_Shared => k_is); (case n_Shared_plane => k_is); (case a_NoRest => k_is); (case ga_NoRest => k_is); (case gg_NoRest => k_is); (case sb_NoRest => k_is); (case hd_NoRest => k_is); (case ca_NoRest => k_is); (case mo_NoRest => k_is); (case kp_NoRest => k_is); (case xL_NoRest => k_is); (case rb_NoRest => decide +kernel); (case sa_NoRest => k_is); (case ty_NoRest => k_is); (case i_NoRest => k_is); (case t_NoRest => k_is); (case lI_NoRest => k_is); (case cI_NoRest => k_is); (case kI_NoRest => k_is); (case n_NoRest_place => k_is); (case a_NotRound => k_is); (case ga_NotRound => k_is); (case gg_NotRound => k_is); (case sb_NotRound => k_is); (case hd_NotRound => k_is); (case ca_NotRound => k_is); (case mo_NotRound => k_is); (case kp_NotRound => k_is); (case q_NotRound => k_exc); (case a_NoName => k_is); (case ga_NoName => k_is); (case gg_NoName => k_is); (case sb_NoName => k_is); (case hd_NoName => k_is); (case ca_NoName => k_is); (case mo_NoName => k_is); (case kp_NoName => k_is); (case xL_NoName => k_is); (case rb_NoName => decide +kernel); (case sa_NoName => k_is); (case ty_NoName => k_is); (case i_NoName => k_is); (case t_NoName => k_is); (case lI_NoName => k_is); (case cI_NoName => k_is); (case kI_NoName => k_is); (case n_NoName_name => k_is); (case a_TakenName => k_is); (case ga_TakenName => k_is); (case gg_TakenName => k_is); (case sb_TakenName => k_is); (case hd_TakenName => k_is); (case ca_TakenName => k_is); (case mo_TakenName => k_is); (case kp_TakenName => k_is); (case xL_TakenName => k_is); (case rb_TakenName => decide +kernel); (case sa_TakenName => k_is); (case ty_TakenName => k_is); (case i_TakenName => k_is); (case t_TakenName => k_is); (case lI_TakenName => k_is); (case cI_TakenName => k_is); (case kI_TakenName => k_is); (case n_TakenName_name => k_is); (case a_NotKept => k_is); (case ga_NotKept => k_is); (case gg_NotKept => k_is); (case sb_NotKept => k_is); (case hd_NotKept => k_is); (case ca_NotKept => k_is); (case mo_NotKept => k_is); (case kp_NotKept => k_is); (case xL_NotKept => k_is); (case rb_NotKept => decide +kernel); (case sa_NotKept => k_is); (case ty_NotKept => k_is); (case i_NotKept => k_is); (case t_NotKept => k_is); (case lI_NotKept => k_is); (case cI_NotKept => k_is); (case kI_NotKept => k_is); (case n_NotKept_promise => k_is); (case n_NotKept_witness => k_is); (case a_NothingToUndo => k_is); (case ga_NothingToUndo => k_is); (case gg_NothingToUndo => k_is); (case sb_NothingToUndo => k_is); (case hd_NothingToUndo => k_is); (case ca_NothingToUndo => k_is); (case mo_NothingToUndo => k_is); (case kp_NothingToUndo => k_is); (case q_NothingToUndo => k_exc); (case a_NothingToRedo => k_is); (case ga_NothingToRedo => k_is); (case gg_NothingToRedo => k_is); (case sb_NothingToRedo => k_is); (case hd_NothingToRedo => k_is); (case ca_NothingToRedo => k_is); (case mo_NothingToRedo => k_is); (case kp_NothingToRedo => k_is); (case q_NothingToRedo => k_exc); (case e_kk => kernel_rfl); (case e_kf => kernel_rfl)
    case fin =>
      intro T
      have e : fa = GL.fA mg "law" := by
        have q := hmg.symm.trans T.law.g
        exact Value.ref.inj (Option.some.inj q)
      subst e
      exact ⟨_, T.lb, fun base _ _ => LW.ok_law T⟩
