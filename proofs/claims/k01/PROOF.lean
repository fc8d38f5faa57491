import PyProof.Rows.All
import Wide.All
import OpenK.AllK
import Wide.FinOn
import HandS.ForMost
import HandS.ExcInit
import HandS.IsInst
import HandS.RaiseMore
import HandS.Wide
import HandS.Codes
import HandS.Steps
import HandS.Zip
import HandS.Evl
import HandS.ExcIs
import KE.KExcIs
import HandS.ExcValue
import HandS.Exc
import HandS.TryMany
import HandS.Gcd
import HandS.ExcField
import HandS.Lambda
import HandS.CallLocal
import HandS.Style
import HandS.StrMore
import HandS.WordsExc
import HandS.WideBits
import HandS.EndTab
import KE.KNestM
import PySem.Challenge.RW_flowpapers_k01_whole_ratios
set_option Elab.async false
set_option linter.all false
set_option maxRecDepth 100000
set_option maxHeartbeats 4000000
/-! Defs that are run where no repr is under way: what repr and == of data ask. -/
namespace GL
open PySem PySem.Spec PyProof.Rows L2

/-- nothing is being shown -/
abbrev Quiet (A : Around) : Prop := A.guards = some []

/-- as FnOk, asked only where nothing is being shown -/
structure OkG (P : Program) (w : World) (K : PySem.W.Frag) (mg : Str → Option Value) (base : Heap) (CX : CXT) (k : Nat) (f : Addr) (fd : FuncData) (ps : List Str) (sp : Sp) : Prop where
  len : ∀ vs H Q E, sp vs H Q E → vs.length = ps.length
  run : ∀ (A : Around) (outer : List Env) (s : Shared) (H : Hp) (args : Args) (us : List Value) (vs : List V) (Q : VK) (E : XK), Room k A → Quiet A → Env0 P w K mg base A outer s H →
    BindsTo s fd args (ps.zip us) → Vals vs us → sp vs H Q E → codeAny (model P w) A (.call (.ref f) args) (CR CX outer P w H s Q E) s

section
variable {P : Program} {w : World} {K : PySem.W.Frag} {mg : Str → Option Value} {base : Heap} {CX : CXT} {k : Nat} {f : Addr} {fd : FuncData} {ps : List Str} {sp : Sp}
theorem OkG.of (F : FnOk P w K mg base CX k f fd ps sp) : OkG P w K mg base CX k f fd ps sp :=
  ⟨F.len, fun A outer s H args us vs Q E hr _ e0 hb r h => F.run A outer s H args us vs Q E hr e0 hb r h⟩
theorem OkG.mono {j : Nat} (F : OkG P w K mg base CX j f fd ps sp) (h : j ≤ k) : OkG P w K mg base CX k f fd ps sp :=
  ⟨F.len, fun A outer s H args us vs Q E hr hq e0 hb r z => F.run A outer s H args us vs Q E (hr.mono h) hq e0 hb r z⟩

/-- a def by its body, where nothing is being shown -/
theorem okG {x qual : Str} {st : Stmt} {N : List Str} (F : Fun K x qual st f fd) (S : FnScope N ps (defScope st)) (len : ∀ vs H Q E, sp vs H Q E → vs.length = ps.length)
    (body : ∀ (cdv : Value) (A : Around) (outer : List Env) (s : Shared) (H : Hp) (vs : List V) (Q : VK) (E : XK), Room k (A.deeper (envOfC qual (defScope st) s.heap.objs.size f cdv)) → Quiet A → sp vs H Q E →
      ∃ t, PSs (cxOf CX P w K mg base N qual (defScope st) f cdv A outer s H E) (defBody st) t ∧ t { nx := fun _ H' => Q .non H', rt := Q } (start N vs) H) :
    OkG P w K mg base CX (k + 1) f fd ps sp := by
  obtain ⟨oc, od, kV, doc, pm, an, cdv, ct, osl, rfl, lk, hcd⟩ := F.ex
  refine ⟨len, fun A outer s H args us vs Q E hr hq e0 hb r hsp => ?_⟩
  have enough := len _ _ _ _ hsp
  have inK : K.In s.heap := e0.mod.kin.keeps (fun b o e => (e0.bs b o e).1)
  have nl : s.heap.NoLimit := e0.mod.nolimit.keeps (fun b o e => (e0.bs b o e).1)
  refine codeAny_call_function hr.depth (inK _ _ lk) rfl S.co S.gen rfl (PySem.W.codeRec_of inK hcd) (hb _ _ _ _ ?_)
  refine wpAny_newFunctionEnv_cells S.kind ?_ (fun env he s1 x => ?_)
  · rintro ⟨n, v⟩ hy
    cases S.par n (List.of_mem_zip hy).1 with
    | inl q => exact .inl q
    | inr q => exact .inr ⟨q, PySem.W.cellsFrom_some _ _ _ (.inl q)⟩
  subst he
  refine ⟨nl.keeps x.toInCall.keep, codeAny_func ?_⟩
  obtain ⟨t, ht, hT⟩ := body cdv A outer s H vs Q E (hr.deeper _) hq hsp
  have I0 := inv_start (CX := CX) (E := E) S hr.hd e0 enough r x
  refine wpAny_mono (ht.run [] s1 (start N vs) H _ I0 hT) (fun fl s' hs => ?_) (fun e s' hs => hs)
  cases fl with
  | ret u =>
    obtain ⟨v, _, H', J, rv, q⟩ := hs
    exact ⟨v, H', J.os, J.bare, J.base, J.hok, rv, q⟩
  | next =>
    obtain ⟨_, H', J, q⟩ := hs
    exact ⟨V.non, H', J.os, J.bare, J.base, J.hok, rfl, q⟩
  | brk => obtain ⟨_, _, _, q⟩ := hs; exact q.elim
  | cont => obtain ⟨_, _, _, q⟩ := hs; exact q.elim
end

/-- .. from which no exception leaves -/
theorem okG0 {P : Program} {w : World} {K : PySem.W.Frag} {mg : Str → Option Value} {base : Heap} {k : Nat} {f : Addr} {fd : FuncData} {ps : List Str} {sp : Sp} {x qual : Str} {st : Stmt} {N : List Str} (F : Fun K x qual st f fd) (S : FnScope N ps (defScope st))
    (len : ∀ vs H Q E, sp vs H Q E → vs.length = ps.length)
    (body : ∀ (cdv : Value) (A : Around) (outer : List Env) (s : Shared) (H : Hp) (vs : List V) (Q : VK) (E : XK), Room k (A.deeper (envOfC qual (defScope st) s.heap.objs.size f cdv)) → Quiet A → sp vs H Q E →
      ∃ t, PSs (cxOf CX0 P w K mg base N qual (defScope st) f cdv A outer s H E).nox (defBody st) t ∧ t { nx := fun _ H' => Q .non H', rt := Q } (start N vs) H) : OkG P w K mg base CX0 (k + 1) f fd ps sp :=
  okG F S len fun cdv A outer s H vs Q E hr hq h => by
    obtain ⟨t, h1, h2⟩ := body cdv A outer s H vs Q E hr hq h
    exact ⟨t, h1.nox, h2⟩
section
variable {X : Cx} {CX : CXT} {k : Nat} {f : Addr} {fd : FuncData} {ps : List Str} {sp : Sp} {dvs : List V} {ds : List Value} {E : XK}
/-- a call of such a def -/
theorem run_fnG {pins : List (Addr × Obj)} {σ : L2.St} {H : Hp} {s : Shared} {Q : VK} {us : List Value} {vs : List V} (F : OkG X.prog X.w X.K X.mg X.base CX k f fd ps sp) (hr : Room k X.A) (hq : Quiet X.A)
    (hb : Binds X.K fd ps ds) (hd : Vals dvs ds) (hx : Passes CX X E) (I : Inv X pins σ H s) (r : Vals vs us) (h : sp (vs ++ dvs) H Q E) :
    wpAny (model X.prog X.w) X.A (call (.ref f) us) (EP X pins σ Q) X.xe s := by
  have both := r.append hd
  have hl : (us ++ ds).length = ps.length := both.length.symm.trans (F.len _ _ _ _ h)
  have run := F.run X.A X.stack s H ⟨us, []⟩ (us ++ ds) (vs ++ dvs) Q E hr hq I.env0 (hb s us I.kIn hl) both h
  refine wpAny_call (codeAny_mono run fun r s' z => ?_)
  cases r with
  | error e => exact hx pins σ H s e s' I z
  | ok fl => cases fl with
    | ret u => exact I.after z
    | next => exact z.elim
    | brk => exact z.elim
    | cont => exact z.elim
variable {x : Str} {p pos : Pos} {e : Expr} {es : List Expr} {t : TA}
theorem pe_callG (F : OkG X.prog X.w X.K X.mg X.base CX k f fd ps sp) (hr : Room k X.A) (hq : Quiet X.A) (hg : Gl X x) (hm : X.mg x = some (.ref f)) (hk : PySem.W.keepIn X.K (.ref f) = true)
    (hb : Binds X.K fd ps ds) (hd : Vals dvs ds) (hx : Passes CX X E) (ha : PA X (e :: es) t) (hdb : (x == ("__debug__" : Str)) = false := by decide)
    (he : starEach (e :: es) X.env = (false, eval e X.env) :: starEach es X.env := by rfl) (hpl : (backTo pos (starEach es X.env)).any (·.1) = false := by rfl) :
    PE X (.Call (.Name x p) (e :: es) [] pos) (tCall sp dvs E t) :=
  ⟨fun pins s σ H Q I h => wpAny_Call_Name_kw (ld_glob I hg hm (PySem.W.callWith_K (h₀ := X.base) I.ok.mod.kin hk
    (thn (ha.run pos pins s σ H _ I h) fun us s1 ⟨vs, H1, I1, r, q⟩ => ⟨I1.kIn, run_fnG F hr hq hb hd hx I1 r q⟩) he hpl) hdb)⟩
end

/-! ### repr -/
/-- repr of data that can be shown -/
def rRepr (K : PySem.W.Frag) : List V → Hp → VK → Prop := fun xs H Q => ∃ (v : V) (d : PyData), xs = [v] ∧ Dp K H v d ∧ d.showable = true ∧ d.hasDict = false ∧ d.depth ≤ 40 ∧ d.shown.length ≤ sizeLine ∧ Q (.str d.shown) H
theorem call_repr {X : Cx} (hq : Quiet X.A) (hu : X.A.units + 64 < cLine) : CallR X (.builtin "repr") (rRepr X.K) := by
  intro pins s σ H xs us Q I r h
  obtain ⟨v, d, rfl, hd, hs, hn, hp, hz, q⟩ := h
  cases r with
  | cons rv rn =>
    rename_i u us'
    cases rn
    obtain ⟨as, rd⟩ := Dp.reads I d v u hd rv
    cases hd with
    | non => cases rv; exact PySem.P.repr_of_none ⟨.str _, H, I.tok _, ⟨_, rfl⟩, q⟩
    | bl b => cases rv; exact PySem.P.repr_of_bool ⟨.str _, H, I.tok _, ⟨_, rfl⟩, q⟩
    | int i =>
      obtain ⟨t, rfl⟩ := rv
      exact PySem.P.repr_of_int (of_decide_eq_true hs) ⟨.str _, H, I.tok _, ⟨_, rfl⟩, q⟩
    | str x =>
      obtain ⟨t, rfl⟩ := rv
      exact PySem.P.repr_of_str ⟨.str _, H, I.tok _, ⟨_, rfl⟩, q⟩
    | lst a b =>
      cases rv
      exact repr_of_reads' rd hs (PyData.noDict_hsm hn) hq (by omega) (fun _ _ e => e) (fun h' u tk hk => ⟨.str _, H, I.kept hk, ⟨_, rfl⟩, q⟩) hz
    | tup a b =>
      cases rv
      exact repr_of_reads' rd hs (PyData.noDict_hsm hn) hq (by omega) (fun _ _ e => e) (fun h' u tk hk => ⟨.str _, H, I.kept hk, ⟨_, rfl⟩, q⟩) hz

/-! ### values at a heap that stays -/
section
variable {σ : L2.St} {H : Hp} {i : Nat} {v x y z : V} {ta tb te tv : TE} {b : Bool} {K : PySem.W.Frag} {D : Ends} {p : Addr} {kvs : List (Key × V)} {k : Key}
theorem v_I0 {g : Int → Int → V} {i j : Int} (ha : Val ta σ H (.int i)) (hb : Val tb σ H (.int j)) : Val (tOp (rI0 g) ta tb) σ H (g i j) := val_op ha hb fun Q q => ⟨i, j, rfl, rfl, q⟩
theorem v_I {C : Int → Int → Prop} {g : Int → Int → V} {i j : Int} (ha : Val ta σ H (.int i)) (hb : Val tb σ H (.int j)) (hc : C i j) : Val (tOp (rI C g) ta tb) σ H (g i j) := val_op ha hb fun Q q => ⟨i, j, rfl, rfl, hc, q⟩
theorem v_add {i j : Int} (ha : Val ta σ H (.int i)) (hb : Val tb σ H (.int j)) : Val (tOp (rI0 fun i j => .int (i + j)) ta tb) σ H (.int (i + j)) := v_I0 ha hb
theorem v_sub {i j : Int} (ha : Val ta σ H (.int i)) (hb : Val tb σ H (.int j)) : Val (tOp (rI0 fun i j => .int (i - j)) ta tb) σ H (.int (i - j)) := v_I0 ha hb
theorem v_mul {C : Int → Int → Prop} {i j : Int} (ha : Val ta σ H (.int i)) (hb : Val tb σ H (.int j)) (hc : C i j) : Val (tOp (rI C fun i j => .int (i * j)) ta tb) σ H (.int (i * j)) := v_I ha hb hc
theorem v_pow {i j : Int} (ha : Val ta σ H (.int i)) (hb : Val tb σ H (.int j)) (hc : 0 ≤ j ∧ j ≤ 1000000 ∧ i.natAbs < 2 ^ 64) : Val (tOp (rI CPow fun i j => .int (i ^ j.toNat)) ta tb) σ H (.int (i ^ j.toNat)) := v_I ha hb hc
theorem v_mod {C : Int → Int → Prop} {i j : Int} (ha : Val ta σ H (.int i)) (hb : Val tb σ H (.int j)) (hc : C i j) : Val (tOp (rI C fun i j => .int (i % j)) ta tb) σ H (.int (i % j)) := v_I ha hb hc
theorem v_div {C : Int → Int → Prop} {i j : Int} (ha : Val ta σ H (.int i)) (hb : Val tb σ H (.int j)) (hc : C i j) : Val (tOp (rI C fun i j => .int (i / j)) ta tb) σ H (.int (i / j)) := v_I ha hb hc
theorem v_fmod {C : Int → Int → Prop} {i j : Int} (ha : Val ta σ H (.int i)) (hb : Val tb σ H (.int j)) (hc : C i j) : Val (tOp (rI C fun i j => .int (i.fmod j)) ta tb) σ H (.int (i.fmod j)) := v_I ha hb hc
theorem v_fdiv {C : Int → Int → Prop} {i j : Int} (ha : Val ta σ H (.int i)) (hb : Val tb σ H (.int j)) (hc : C i j) : Val (tOp (rI C fun i j => .int (i.fdiv j)) ta tb) σ H (.int (i.fdiv j)) := v_I ha hb hc
theorem v_get (h : Val te σ H (.ref p)) (hp : H p = some (.dK kvs)) (hv : valV kvs k = some v) : Val (tDGet te (tC (kV k))) σ H v := fun Q q => h _ ⟨p, v, rfl, .inl ⟨kvs, k, .inl hp, rfl, hv.symm⟩, q⟩
theorem v_int1 {i : Int} (h : Val te σ H (.int i)) : Val (tCB (fun xs H Q => (∃ i, xs = [.int i] ∧ Q (.int i) H) ∨ ∃ k, xs = [.bl k] ∧ Q (.int (if k then 1 else 0)) H) (tCons te tNil)) σ H (.int i) :=
  fun Q q => h _ (.inl ⟨i, rfl, q⟩)
theorem v_len {xs : List V} (h : Val te σ H (.ref p)) (hx : SqL K H p xs ∨ SqT K H p xs) : Val (tCB (fun xs H Q => ∃ p ys, xs = [.ref p] ∧ (SqL K H p ys ∨ SqT K H p ys) ∧ Q (.int ys.length) H) (tCons te tNil)) σ H (.int (xs.length : Int)) :=
  fun Q q => h _ ⟨p, xs, rfl, hx, q⟩
theorem v_ixL {xs : List V} {n : Nat} (h : Val te σ H (.ref p)) (hi : Val tb σ H (.int (n : Int))) (hx : SqL K H p xs) (he : xs[n]? = some v) : Val (tOp (rIxL K) te tb) σ H v :=
  val_op h hi fun Q q => ⟨p, xs, n, v, rfl, rfl, hx, atI_nat he, q⟩
theorem v_ixT {xs : List V} {n : Nat} (h : Val te σ H (.ref p)) (hi : Val tb σ H (.int (n : Int))) (hx : SqT K H p xs) (he : xs[n]? = some v) : Val (tOp (rIxT K) te tb) σ H v :=
  val_op h hi fun Q q => ⟨p, xs, n, v, rfl, rfl, hx, atI_nat he, q⟩
/-- values of an argument list -/
def VA (ta : TA) (σ : L2.St) (H : Hp) (vs : List V) : Prop := ∀ Q : List V → Hp → Prop, Q vs H → ta σ H Q
theorem va_nil : VA tNil σ H [] := fun _ q => q
theorem va_cons {tr : TA} {vs : List V} (h : Val te σ H v) (hr : VA tr σ H vs) : VA (tCons te tr) σ H (v :: vs) := fun Q q => h _ (hr _ q)
theorem l_lst {ta : TA} {vs : List V} {Q : VK} (h : VA ta σ H vs) (hl : vs.length ≤ 100000) (q : ∀ p, H p = none → Q (.ref p) (upd H p (.lst vs))) : tLst ta σ H Q := h _ ⟨Nat.le_trans hl (by decide), q⟩
theorem l_tup {ta : TA} {vs : List V} {Q : VK} (h : VA ta σ H vs) (hl : vs.length ≤ 100000) (q : ∀ p, H p = none → Q (.ref p) (upd H p (.tup vs))) : tTup ta σ H Q := h _ ⟨Nat.le_trans hl (by decide), q⟩
theorem v_cb {r : List V → Hp → VK → Prop} {ta : TA} {vs : List V} {z : V} (h : VA ta σ H vs) (hr : ∀ Q : VK, Q z H → r vs H Q) : Val (tCB r ta) σ H z := fun Q q => h _ (hr Q q)
theorem c_call {sp : Sp} {E : XK} {ta : TA} {vs : List V} {Q : VK} (h : VA ta σ H vs) (q : sp vs H Q E) : tCall sp [] E ta σ H Q := h _ (by rw [List.append_nil]; exact q)
theorem s_put (h0 : Val te σ H (.ref p)) (h : Val tv σ H v) (hp : H p = some (.dK kvs)) (hl : kvs.length ≤ 100) (q : D.nx σ (upd H p (.dK (putK kvs k v)))) : sDPut te (tC (kV k)) tv D σ H :=
  h _ (h0 _ ⟨p, _, rfl, DPut.k hp (Nat.lt_of_le_of_lt hl (by decide)), q⟩)
theorem a_I {g : Int → Int → Bool} {i j : Int} (ha : Val ta σ H (.int i)) (hb : Val tb σ H (.int j)) : Ans (tTest (tOp (rI0 fun i j => .bl (g i j)) ta tb)) σ H (g i j) := ans_cmp ha hb fun Q q => ⟨i, j, rfl, rfl, q⟩
theorem st_if {t : TT} {t1 t2 : TS} (h : Ans t σ H b) (h1 : b = true → t1 D σ H) (h2 : b = false → t2 D σ H) : tIfS t t1 t2 D σ H := by
  cases b with
  | true => exact st_yes h (h1 rfl)
  | false => exact st_no h (h2 rfl)
end

/-- a walk over enumerate of a list -/
theorem for_enumL {K : PySem.W.Frag} {a : Addr} {xs : List V} {g : TG} {tb : TS} {D : Ends} {σ : L2.St} {H : Hp} (Pv : Nat → L2.St → Hp → Prop) (h0 : Pv 0 σ H) (hq : ∀ i σ H, Pv i σ H → SqL K H a xs)
    (hs : ∀ (i : Nat) (x : V) (T : Addr) (σ : L2.St) (H : Hp), xs[i]? = some x → Pv i σ H → H T = none → g (.ref T) σ (upd H T (.tup [.int (i : Nat), x])) fun σ2 H2 => tb { D with nx := Pv (i + 1), ct := Pv (i + 1), bk := D.nx } σ2 H2)
    (hd : ∀ σ H, Pv xs.length σ H → D.nx σ H) :
    ∃ W : Nat → Nat → L2.St → Hp → Prop, (∃ m, W 0 m σ H) ∧ ∀ i m σ H, W i m σ H →
      ((Ite K a).stop i H ∧ D.nx σ H) ∨ ((Ite K a).go i H ∧ ∃ N : L2.St → Hp → Prop, (∀ σ' H', N σ' H' → ∃ m', m' < m ∧ W (i + 1) m' σ' H') ∧ ∀ v H', (Ite K a).yld i H v H' → g v σ H' fun σ2 H2 => tb { D with nx := N, ct := N, bk := D.nx } σ2 H2) := by
  refine ⟨fun i m σ H => m = xs.length - i ∧ i ≤ xs.length ∧ Pv i σ H, ⟨_, rfl, Nat.zero_le _, h0⟩, ?_⟩
  rintro i m σ H ⟨rfl, hi, p⟩
  have q := hq i σ H p
  rcases Nat.lt_or_ge i xs.length with lt | ge
  · refine .inr ⟨⟨xs, xs[i], q, List.getElem?_eq_getElem lt⟩, Pv (i + 1), fun σ' H' p' => ⟨xs.length - (i + 1), by omega, rfl, lt, p'⟩, ?_⟩
    rintro v H' ⟨T, x, rfl, hT, rfl, f⟩
    exact hs i x T σ H (f xs q) p hT
  · obtain rfl : i = xs.length := by omega
    exact .inl ⟨⟨xs, q, Nat.le_refl _⟩, hd σ H p⟩
theorem Same.new' {H : Hp} {p : Addr} {o : HO} (h : H p = none) : Same H (upd H p o) := fun b u e => by
  rw [upd_ne (ne_of_none e h)]
  exact e
/-- a sum of a list and a list of written items -/
theorem l_catL {σ : L2.St} {H : Hp} {ta : TE} {tb : TA} {Q : VK} {l : Addr} {xs ys : List V} (ha : Val ta σ H (.ref l)) (hl : H l = some (.lst xs)) (hb : VA tb σ H ys) (h1 : xs.length ≤ 1000) (h2 : ys.length ≤ 1000)
    (k : ∀ p H', Same H H' → H' p = some (.lst (xs ++ ys)) → Q (.ref p) H') : tOp rCat ta (tLst tb) σ H Q := by
  refine ha _ (hb _ ⟨Nat.le_trans h2 (by decide), fun b nb => ⟨l, b, xs, ys, rfl, rfl, ?_, upd_same, Nat.le_trans (Nat.add_le_add h1 h2) (by decide), fun p np => k p _ ?_ upd_same⟩⟩)
  · rw [upd_ne (ne_of_none hl nb)]; exact hl
  · exact (Same.new' nb).trans (Same.new' np)
section
variable {σ : L2.St} {H : Hp} {i : Nat} {ta : TE} {tb : TA} {D : Ends} {l : Addr} {xs ys : List V}
theorem s_lst (h : VA tb σ H ys) (hl : ys.length ≤ 100000) (q : ∀ p H', Same H H' → H' p = some (.lst ys) → D.nx (σ.set i (some (.ref p))) H') : tAsg (tLst tb) (gName i) D σ H := h _ ⟨Nat.le_trans hl (by decide), fun p hp => q p _ (Same.new' hp) upd_same⟩
theorem s_catL (ha : Val ta σ H (.ref l)) (hl : H l = some (.lst xs)) (hb : VA tb σ H ys) (h1 : xs.length ≤ 1000) (h2 : ys.length ≤ 1000)
    (k : ∀ p H', Same H H' → H' p = some (.lst (xs ++ ys)) → D.nx (σ.set i (some (.ref p))) H') : tAsg (tOp rCat ta (tLst tb)) (gName i) D σ H := l_catL (Q := fun v H' => gName i v σ H' D.nx) ha hl hb h1 h2 k
theorem r_catL (ha : Val ta σ H (.ref l)) (hl : H l = some (.lst xs)) (hb : VA tb σ H ys) (h1 : xs.length ≤ 1000) (h2 : ys.length ≤ 1000)
    (k : ∀ p H', Same H H' → H' p = some (.lst (xs ++ ys)) → D.rt (.ref p) H') : tRet (tOp rCat ta (tLst tb)) D σ H := l_catL (Q := D.rt) ha hl hb h1 h2 k
end
/-! ### statements in a row: what follows stays as it is written -/
section
variable {σ : L2.St} {H : Hp} {i : Nat} {ta te tv : TE} {tb : TA} {D : Ends} {l p : Addr} {xs ys : List V} {tz t1 t2 : TS} {v : V} {kvs : List (Key × V)} {k : Key} {t : TT} {b : Bool}
theorem q_lst (h : VA tb σ H ys) (hl : ys.length ≤ 100000) (q : ∀ p H', Same H H' → H' p = some (.lst ys) → tz D (σ.set i (some (.ref p))) H') : tSeq (tAsg (tLst tb) (gName i)) tz D σ H := s_lst (D := { D with nx := tz D }) h hl q
theorem q_catL (ha : Val ta σ H (.ref l)) (hl : H l = some (.lst xs)) (hb : VA tb σ H ys) (h1 : xs.length ≤ 1000) (h2 : ys.length ≤ 1000)
    (q : ∀ p H', Same H H' → H' p = some (.lst (xs ++ ys)) → tz D (σ.set i (some (.ref p))) H') : tSeq (tAsg (tOp rCat ta (tLst tb)) (gName i)) tz D σ H := s_catL (D := { D with nx := tz D }) ha hl hb h1 h2 q
theorem q_set (h : Val te σ H v) (q : tz D (σ.set i (some v)) H) : tSeq (tAsg te (gName i)) tz D σ H := h _ q
theorem q_put (h0 : Val te σ H (.ref p)) (h : Val tv σ H v) (hp : H p = some (.dK kvs)) (hl : kvs.length ≤ 100) (q : tz D σ (upd H p (.dK (putK kvs k v)))) : tSeq (sDPut te (tC (kV k)) tv) tz D σ H := s_put (D := { D with nx := tz D }) h0 h hp hl q
/-- any expression that is stored: its own reading, then what follows -/
theorem q_asg (h : te σ H fun v H' => tz D (σ.set i (some v)) H') : tSeq (tAsg te (gName i)) tz D σ H := h
theorem q_if (h : Ans t σ H b) (h1 : b = true → t1 { D with nx := tz D } σ H) (h2 : b = false → t2 { D with nx := tz D } σ H) : tSeq (tIfS t t1 t2) tz D σ H := st_if (D := { D with nx := tz D }) h h1 h2
/-- an if without else -/
theorem q_when (h : Ans t σ H b) (h1 : b = true → t1 { D with nx := tz D } σ H) (h2 : b = false → tz D σ H) : tSeq (tIfS t t1 tNext) tz D σ H := st_if (D := { D with nx := tz D }) h h1 h2
theorem q_unless (h : Ans t σ H false) (q : tz D σ H) : tSeq (tIfS t t1 tNext) tz D σ H := st_no (D := { D with nx := tz D }) h q
theorem r_ret (h : te σ H D.rt) : tRet te D σ H := h
end
/-! ### expressions that make things -/
def EM (te : TE) (σ : L2.St) (H : Hp) (P : V → Hp → Prop) : Prop := ∀ Q : VK, (∀ v H', Same H H' → P v H' → Q v H') → te σ H Q
def VM (tb : TA) (σ : L2.St) (H : Hp) (R : List V → Hp → Prop) : Prop := ∀ Q : List V → Hp → Prop, (∀ vs H', Same H H' → R vs H' → Q vs H') → tb σ H Q
def Stays {α : Type} (R : α → Hp → Prop) : Prop := ∀ x H1 H2, Same H1 H2 → R x H1 → R x H2
/-- a row whose items are of one kind each, by their places from k on -/
def Run (P : Nat → V → Hp → Prop) : Nat → List V → Hp → Prop
  | _, [], _ => True
  | k, v :: r, H => P k v H ∧ Run P (k + 1) r H
theorem Run.keep {P : Nat → V → Hp → Prop} (st : ∀ k, Stays (P k)) : ∀ {k : Nat} {xs : List V} {H1 H2 : Hp}, Same H1 H2 → Run P k xs H1 → Run P k xs H2
  | _, [], _, _, _, _ => trivial
  | _, _ :: _, _, _, s, ⟨a, b⟩ => ⟨st _ _ _ _ s a, Run.keep st s b⟩
theorem Run.app {P : Nat → V → Hp → Prop} {H : Hp} : ∀ {k : Nat} {xs ys : List V}, Run P k xs H → Run P (k + xs.length) ys H → Run P k (xs ++ ys) H
  | _, [], _, _, b => b
  | k, v :: r, ys, ⟨a, c⟩, b => ⟨a, Run.app c (by rw [List.length_cons] at b; rw [show k + 1 + r.length = k + (r.length + 1) by omega]; exact b)⟩
theorem Run.get {P : Nat → V → Hp → Prop} {H : Hp} : ∀ {k : Nat} {xs : List V} {i : Nat} {v : V}, Run P k xs H → xs[i]? = some v → P (k + i) v H
  | _, [], _, _, _, e => by simp at e
  | _, _ :: _, 0, _, ⟨a, _⟩, e => by simp at e; subst e; exact a
  | k, _ :: r, i + 1, v, ⟨_, b⟩, e => by
    have q := Run.get (i := i) (v := v) b (by simpa using e)
    rw [show k + (i + 1) = k + 1 + i by omega]
    exact q
/-- the row's kinds, and how many -/
def Rows (P : Nat → V → Hp → Prop) (k n : Nat) (xs : List V) (H : Hp) : Prop := Run P k xs H ∧ xs.length = n
theorem Rows.stays {P : Nat → V → Hp → Prop} (st : ∀ k, Stays (P k)) {k n : Nat} : Stays (Rows P k n) := fun _ _ _ s h => ⟨Run.keep st s h.1, h.2⟩
section
variable {σ : L2.St} {H : Hp} {i : Nat} {ta te : TE} {tb tr : TA} {D : Ends} {l p : Addr} {xs ys ws : List V} {tz : TS} {P : Nat → V → Hp → Prop} {k n : Nat} {R : List V → Hp → Prop}
theorem vm_nil : VM tNil σ H (Rows P k 0) := fun Q q => q [] H (Same.refl H) ⟨trivial, rfl⟩
theorem vm_cons (st : ∀ k, Stays (P k)) (h : EM te σ H (P k)) (hr : ∀ H1, Same H H1 → VM tr σ H1 (Rows P (k + 1) n)) : VM (tCons te tr) σ H (Rows P k (n + 1)) := fun Q q =>
  h _ fun v H1 s1 p1 => hr H1 s1 _ fun r H2 s2 ⟨r2, e2⟩ => q (v :: r) H2 (s1.trans s2) ⟨⟨st k v H1 H2 s2 p1, r2⟩, by rw [List.length_cons, e2]⟩
theorem em_lst (h : VA tb σ H ws) (hl : ws.length ≤ 100000) : EM (tLst tb) σ H (fun v H' => ∃ q, v = .ref q ∧ H' q = some (.lst ws)) := fun Q q =>
  h _ ⟨Nat.le_trans hl (by decide), fun a ha => q _ _ (Same.new' ha) ⟨a, rfl, upd_same⟩⟩
theorem q_lstM (st : Stays R) (h : VM tb σ H R) (hl : ∀ vs H', R vs H' → vs.length ≤ 1000) (q : ∀ p vs H', Same H H' → H' p = some (.lst vs) → R vs H' → tz D (σ.set i (some (.ref p))) H') : tSeq (tAsg (tLst tb) (gName i)) tz D σ H :=
  h _ fun vs H1 s1 r1 => ⟨Nat.le_trans (hl vs H1 r1) (by decide), fun a ha => q a vs _ (s1.trans (Same.new' ha)) upd_same (st _ _ _ (Same.new' ha) r1)⟩
theorem l_catM {Q : VK} (st : Stays R) (ha : Val ta σ H (.ref l)) (hl : H l = some (.lst xs)) (h1 : xs.length ≤ 1000) (h : VM tb σ H R) (h2 : ∀ vs H', R vs H' → vs.length ≤ 1000)
    (q : ∀ p vs H', Same H H' → H' p = some (.lst (xs ++ vs)) → R vs H' → Q (.ref p) H') : tOp rCat ta (tLst tb) σ H Q :=
  ha _ (h _ fun vs H1 s1 r1 => ⟨Nat.le_trans (h2 vs H1 r1) (by decide), fun b nb => ⟨l, b, xs, vs, rfl, rfl, (Same.new' nb) _ _ (s1 _ _ hl), upd_same, Nat.le_trans (Nat.add_le_add h1 (h2 vs H1 r1)) (by decide),
    fun p np => q p vs _ (s1.trans ((Same.new' nb).trans (Same.new' np))) upd_same (st _ _ _ ((Same.new' nb).trans (Same.new' np)) r1)⟩⟩)
theorem q_catM (st : Stays R) (ha : Val ta σ H (.ref l)) (hl : H l = some (.lst xs)) (h1 : xs.length ≤ 1000) (h : VM tb σ H R) (h2 : ∀ vs H', R vs H' → vs.length ≤ 1000)
    (q : ∀ p vs H', Same H H' → H' p = some (.lst (xs ++ vs)) → R vs H' → tz D (σ.set i (some (.ref p))) H') : tSeq (tAsg (tOp rCat ta (tLst tb)) (gName i)) tz D σ H :=
  l_catM (Q := fun v H' => gName i v σ H' (tz D)) st ha hl h1 h h2 q
theorem r_catM (st : Stays R) (ha : Val ta σ H (.ref l)) (hl : H l = some (.lst xs)) (h1 : xs.length ≤ 1000) (h : VM tb σ H R) (h2 : ∀ vs H', R vs H' → vs.length ≤ 1000)
    (q : ∀ p vs H', Same H H' → H' p = some (.lst (xs ++ vs)) → R vs H' → D.rt (.ref p) H') : tRet (tOp rCat ta (tLst tb)) D σ H := l_catM (Q := D.rt) st ha hl h1 h h2 q
end
/-! ### walks, what follows stays as it is written -/
section
variable {K : PySem.W.Frag} {σ : L2.St} {H : Hp} {g : TG} {ta : TA} {te : TE} {tb tz : TS} {D : Ends} {a b : Addr} {xs ys : List V}
theorem q_forR1 {n : Nat} (h : VA ta σ H [.int (n : Int)]) (hn : n ≤ 100000) (Pv : Nat → L2.St → Hp → Prop) (h0 : Pv 0 σ H)
    (hs : ∀ i σ H, i < n → Pv i σ H → g (.int (i : Int)) σ H fun σ2 H2 => tb { D with nx := Pv (i + 1), ct := Pv (i + 1), bk := tz D } σ2 H2) (hd : ∀ σ H, Pv n σ H → tz D σ H) : tSeq (tFor (iRng1 ta) g tb) tz D σ H :=
  h _ ⟨(n : Int), rfl, by omega, by omega, for_range (lo := 0) (n := (n : Int).toNat) (D := { D with nx := tz D }) Pv h0 (fun i σ H hi p => by rw [Int.zero_add]; exact hs i σ H (by omega) p) (fun σ H p => hd σ H (by rw [Int.toNat_natCast] at p; exact p))⟩
theorem q_forL (h : Val te σ H (.ref a)) (hx : SqL K H a xs) (Pv : Nat → L2.St → Hp → Prop) (h0 : Pv 0 σ H) (hl : ∀ i σ H, i ≤ xs.length → Pv i σ H → SqL K H a xs)
    (hs : ∀ i x σ H, xs[i]? = some x → Pv i σ H → g x σ H fun σ2 H2 => tb { D with nx := Pv (i + 1), ct := Pv (i + 1), bk := tz D } σ2 H2) (hd : ∀ σ H, Pv xs.length σ H → tz D σ H) : tSeq (tFor (iList K te) g tb) tz D σ H :=
  h _ ⟨a, rfl, ⟨_, hx⟩, for_list (K := K) (a := a) (xs := xs) (D := { D with nx := tz D }) Pv h0 hl hs hd⟩
theorem q_forE (h : VA ta σ H [.ref a]) (hx : SqL K H a xs) (Pv : Nat → L2.St → Hp → Prop) (h0 : Pv 0 σ H) (hq : ∀ i σ H, Pv i σ H → SqL K H a xs)
    (hs : ∀ (i : Nat) (x : V) (T : Addr) (σ : L2.St) (H : Hp), xs[i]? = some x → Pv i σ H → H T = none → g (.ref T) σ (upd H T (.tup [.int (i : Nat), x])) fun σ2 H2 => tb { D with nx := Pv (i + 1), ct := Pv (i + 1), bk := tz D } σ2 H2)
    (hd : ∀ σ H, Pv xs.length σ H → tz D σ H) : tSeq (tFor (iEnum K ta) g tb) tz D σ H :=
  h _ ⟨a, xs, rfl, hx, for_enumL (D := { D with nx := tz D }) Pv h0 hq hs hd⟩
/-- two names from a pair -/
theorem g_two {i j : Nat} {x y : V} {T : Addr} {K' : L2.St → Hp → Prop} (hT : SqT K H T [x, y]) (q : K' ((σ.set i (some x)).set j (some y)) H) : gTup K 2 (gCons (gName i) (gCons (gName j) gNil)) (.ref T) σ H K' :=
  ⟨T, _, rfl, hT, rfl, x, _, rfl, y, _, rfl, rfl, q⟩
end
section
variable {K : PySem.W.Frag} {σ : L2.St} {H : Hp} {t1 te to : TE} {tb : TA} {D : Ends} {l : Addr} {xs : List V} {v x : V} {i : Nat} {R : List V → Hp → Prop}
theorem g_name {K' : L2.St → Hp → Prop} (q : K' (σ.set i (some v)) H) : gName i v σ H K' := q
/-- xs.append(e) -/
theorem s_app (h : Val to σ H (.ref l)) (hl : H l = some (.lst xs)) (he : te σ H fun v H1 => ∃ ys, H1 l = some (.lst ys) ∧ ys.length ≤ 1000 ∧ D.nx σ (upd H1 l (.lst (ys ++ [v])))) (mono : ∀ {R S : VK}, (∀ v H', R v H' → S v H') → te σ H R → te σ H S) :
    tDrop (tBM K "list" rAppend to (tCons te tNil)) D σ H :=
  h _ ⟨.inl ⟨rfl, _, SqL.of hl⟩, mono (fun v H1 ⟨ys, h1, h2, q⟩ => ⟨l, ys, v, rfl, rfl, h1, Nat.lt_of_le_of_lt h2 (by decide), q⟩) he⟩
theorem s_appC (h : Val to σ H (.ref l)) (hl : H l = some (.lst xs)) (he : te σ H fun v H1 => rAppend (.ref l) [v] H1 fun _ H2 => D.nx σ H2) : tDrop (tBM K "list" rAppend to (tCons te tNil)) D σ H := h _ ⟨.inl ⟨rfl, _, SqL.of hl⟩, he⟩
/-- f(x, [e, ..]) -/
theorem c_callL {sp : Sp} {E : XK} {Q : VK} (h1 : Val t1 σ H x) (st : Stays R) (h2 : VM tb σ H R) (hl : ∀ vs H', R vs H' → vs.length ≤ 1000) (q : ∀ l vs H', Same H H' → H' l = some (.lst vs) → R vs H' → sp [x, .ref l] H' Q E) :
    tCall sp [] E (tCons t1 (tCons (tLst tb) tNil)) σ H Q :=
  h1 _ (h2 _ fun vs H1 s1 r1 => ⟨Nat.le_trans (hl vs H1 r1) (by decide), fun a ha => q a vs _ (s1.trans (Same.new' ha)) upd_same (st _ _ _ (Same.new' ha) r1)⟩)
theorem v_neg {n : Int} (h : Val te σ H (.int n)) : Val (tUn (rU fun i => .int (-i)) te) σ H (.int (-n)) := fun Q q => h _ ⟨n, rfl, q⟩
theorem v_str {n : Int} (h : Val te σ H (.int n)) (hz : n.natAbs.log2 < 1920) : Val (tCB (fun xs H Q => ∃ i, xs = [.int i] ∧ i.natAbs.log2 < 1920 ∧ Q (.str (toString i)) H) (tCons te tNil)) σ H (.str (toString n)) := fun Q q => h _ ⟨n, rfl, hz, q⟩
theorem v_cats {a b : Str} (h1 : Val t1 σ H (.str a)) (h2 : Val te σ H (.str b)) (hz : a.length + b.length ≤ 100000) : Val (tOp (fun x y H Q => ∃ i j, x = .str i ∧ y = .str j ∧ i.length + j.length ≤ sizeLine ∧ Q (.str (i ++ j)) H) t1 te) σ H (.str (a ++ b)) :=
  fun Q q => h1 _ (h2 _ ⟨a, b, rfl, rfl, Nat.le_trans hz (by decide), q⟩)
theorem em_tup {ws : List V} {P : V → Hp → Prop} (h : VA tb σ H ws) (hl : ws.length ≤ 100000) (q : ∀ a H', H' a = some (.tup ws) → P (.ref a) H') : EM (tTup tb) σ H P := fun Q k => l_tup h hl fun a ha => k _ _ (Same.new' ha) (q a _ upd_same)
theorem em_lst' {ws : List V} {P : V → Hp → Prop} (h : VA tb σ H ws) (hl : ws.length ≤ 100000) (q : ∀ a H', H' a = some (.lst ws) → P (.ref a) H') : EM (tLst tb) σ H P := fun Q k => l_lst h hl fun a ha => k _ _ (Same.new' ha) (q a _ upd_same)
/-- {k: e} -/
theorem em_dic1 {key : Key} {P : V → Hp → Prop} (h : ∀ H1, Val te σ H1 v) (q : ∀ a H', H' a = some (.dK [(key, v)]) → P (.ref a) H') : EM (tDisp [(tC (kV key), te)]) σ H P := fun Q k a ha =>
  h _ _ ⟨upd_same, [(key, v)], rfl, by show 1 ≤ 15; decide, k _ _ (by
    have e : mergeK [] [(key, v)] = [(key, v)] := rfl
    rw [e, upd_upd]
    exact Same.new' ha) (q a _ upd_same)⟩
end
section
variable {K : PySem.W.Frag} {σ : L2.St} {H : Hp} {t1 t2 te to : TE} {ta tb : TA} {tu tw tz : TS} {D : Ends} {a b l : Addr} {xs ys : List V} {x y v w : V} {i j : Nat} {r : R2} {Q : VK}
theorem q_lst0 (h : VA tb σ H ys) (hl : ys.length ≤ 100000) (q : ∀ p, H p = none → tz D (σ.set i (some (.ref p))) (upd H p (.lst ys))) : tSeq (tAsg (tLst tb) (gName i)) tz D σ H := h _ ⟨Nat.le_trans hl (by decide), q⟩
theorem Val.is (h : Val te σ H v) (e : v = w) : Val te σ H w := e ▸ h
/-- an if over a comparison, part by part -/
theorem st_cmp (h : t1 σ H fun x H1 => t2 σ H1 fun y H2 => r x y H2 fun z H3 => ∃ b, z = .bl b ∧ if b = true then tu D σ H3 else tw D σ H3) : tIfS (tTest (tOp r t1 t2)) tu tw D σ H := h
theorem q_cmp (h : t1 σ H fun x H1 => t2 σ H1 fun y H2 => r x y H2 fun z H3 => ∃ b, z = .bl b ∧ if b = true then tu { D with nx := tz D } σ H3 else tw { D with nx := tz D } σ H3) : tSeq (tIfS (tTest (tOp r t1 t2)) tu tw) tz D σ H := h
theorem ta_two {Q : List V → Hp → Prop} (h : t1 σ H fun v H1 => t2 σ H1 fun w H2 => Q [v, w] H2) : tCons t1 (tCons t2 tNil) σ H Q := h
theorem cb_one {r : List V → Hp → VK → Prop} (h : te σ H fun v H1 => r [v] H1 Q) : tCB r (tCons te tNil) σ H Q := h
theorem l_slHi (h : Val te σ H (.ref a)) (hx : SqL K H a xs) {n : Int} (hi : Val t1 σ H (.int n)) (q : ∀ p H', Same H H' → H' p = some (.lst (cutV xs none (some n))) → Q (.ref p) H') : tSl (rSlL K) te tNoPart (tPart t1) σ H Q :=
  h _ (hi _ ⟨n, rfl, a, xs, rfl, hx, fun p hp => q p _ (Same.new' hp) upd_same⟩)
theorem v_eq (h1 : Val t1 σ H x) (h2 : Val t2 σ H y) (hs : scal x y = true) : Val (tOp rEq t1 t2) σ H (.bl (decide (x = y))) := val_op h1 h2 fun Q q => ⟨hs, q⟩
/-- [e for x in range(n)] -/
theorem l_lcR1 {n : Nat} {vs : List Nat} (h : VA ta σ H [.int (n : Int)]) (hn : n ≤ 10000) (f : Nat → V) (hw : ∀ x, wipe ((wipe σ vs).set j (some x)) vs = wipe σ vs)
    (hv : ∀ i H1, i < n → Same H H1 → Val te ((wipe σ vs).set j (some (.int (i : Int)))) H1 (f i)) (q : ∀ p H', Same H H' → H' p = some (.lst ((List.range n).map f)) → Q (.ref p) H') : tLc (iRng1 ta) (gName j) tYes te vs σ H Q := by
  refine h _ ⟨(n : Int), rfl, by omega, by omega, fun D hD => lc_range (lo := 0) (n := (n : Int).toNat) (fun i H' => Same H H' ∧ H' D = some (.lst ((List.range i).map f)) ∧ H D = none) ⟨Same.new' hD, upd_same, hD⟩ (fun i H1 hi ⟨s, e, nD⟩ => ?_) (fun H1 ⟨s, e, _⟩ => q D H1 s (by rw [Int.toNat_natCast] at e; exact e))⟩
  refine g_name ⟨hw _, ?_⟩
  show (if true = true then te _ _ _ else (Same H H1 ∧ H1 D = some (.lst ((List.range (i + 1)).map f)) ∧ H D = none))
  rw [if_pos rfl]
  have hv0 : Val te ((wipe σ vs).set j (some (.int (0 + (i : Int))))) H1 (f i) := by
    rw [Int.zero_add]
    exact hv i H1 (by omega) s
  refine hv0 _ ⟨_, e, by rw [List.length_map, List.length_range]; exact Nat.lt_of_lt_of_le (show i < 10000 by omega) (by decide), ?_, ?_, nD⟩
  · intro b o z
    rw [upd_ne (ne_of_none z nD)]
    exact s b o z
  · rw [upd_same, List.range_succ, List.map_append]
    rfl
/-- for a, b in zip(xs, ys) -/
theorem q_forZ {g : TG} (h : ta σ H fun vs H1 => ∃ a b xs ys, vs = [.ref a, .ref b] ∧ SqL K H1 a xs ∧ SqL K H1 b ys ∧ xs.length = ys.length ∧ ∃ Pv : Nat → L2.St → Hp → Prop, Pv 0 σ H1 ∧ (∀ i σ H, Pv i σ H → SqL K H a xs ∧ SqL K H b ys) ∧
      (∀ (i : Nat) (x y : V) (T : Addr) (σ : L2.St) (H : Hp), xs[i]? = some x → ys[i]? = some y → Pv i σ H → H T = none → g (.ref T) σ (upd H T (.tup [x, y])) fun σ2 H2 => tu { D with nx := Pv (i + 1), ct := Pv (i + 1), bk := tz D } σ2 H2) ∧ ∀ σ H, Pv xs.length σ H → tz D σ H)
    (mono : ∀ {R S : List V → Hp → Prop}, (∀ v H', R v H' → S v H') → ta σ H R → ta σ H S) : tSeq (tFor (iZip K ta) g tu) tz D σ H :=
  mono (fun vs H1 ⟨a, b, xs, ys, e, h1, h2, hl, Pv, p0, hq, hs, hd⟩ => ⟨a, b, xs, ys, e, h1, h2, RZ.for_zipL (D := { D with nx := tz D }) hl Pv p0 hq hs hd⟩) h
theorem zipW {g : TG} (hl : xs.length = ys.length) (Pv : Nat → L2.St → Hp → Prop) (p0 : Pv 0 σ H) (hq : ∀ i σ H, Pv i σ H → SqL K H a xs ∧ SqL K H b ys)
    (hs : ∀ (i : Nat) (x y : V) (T : Addr) (σ : L2.St) (H : Hp), xs[i]? = some x → ys[i]? = some y → Pv i σ H → H T = none → g (.ref T) σ (upd H T (.tup [x, y])) fun σ2 H2 => tu { D with nx := Pv (i + 1), ct := Pv (i + 1), bk := tz D } σ2 H2) (hd : ∀ σ H, Pv xs.length σ H → tz D σ H) :
    ∃ W : Nat → Nat → L2.St → Hp → Prop, (∃ m, W 0 m σ H) ∧ ∀ i m σ H, W i m σ H →
      ((Itz K a b).stop i H ∧ tz D σ H) ∨ ((Itz K a b).go i H ∧ ∃ N : L2.St → Hp → Prop, (∀ σ' H', N σ' H' → ∃ m', m' < m ∧ W (i + 1) m' σ' H') ∧ ∀ v H', (Itz K a b).yld i H v H' → g v σ H' fun σ2 H2 => tu { D with nx := N, ct := N, bk := tz D } σ2 H2) :=
  RZ.for_zipL (D := { D with nx := tz D }) hl Pv p0 hq hs hd
/-- .. where the row of both is known -/
theorem q_forZ' {g : TG} (h : ta σ H fun vs H1 => ∃ a b xs ys, vs = [.ref a, .ref b] ∧ SqL K H1 a xs ∧ SqL K H1 b ys ∧ ∃ W : Nat → Nat → L2.St → Hp → Prop, (∃ m, W 0 m σ H1) ∧ ∀ i m σ H, W i m σ H →
      ((Itz K a b).stop i H ∧ tz D σ H) ∨ ((Itz K a b).go i H ∧ ∃ N : L2.St → Hp → Prop, (∀ σ' H', N σ' H' → ∃ m', m' < m ∧ W (i + 1) m' σ' H') ∧ ∀ v H', (Itz K a b).yld i H v H' → g v σ H' fun σ2 H2 => tu { D with nx := N, ct := N, bk := tz D } σ2 H2)) : tSeq (tFor (iZip K ta) g tu) tz D σ H := h
end
/-! ### what the top has written, by names -/
@[irreducible] def fA (mg : Str → Option Value) (x : Str) : Addr := match mg x with
  | some (.ref a) => a
  | _ => 0
@[irreducible] def fDat (K : PySem.W.Frag) (f : Addr) : FuncData := match K.lookup f with
  | some ⟨_, _, .func fd, _⟩ => fd
  | _ => default
/-- the def x of the text -/
structure Df (K : PySem.W.Frag) (mg : Str → Option Value) (x : Str) (st : Stmt) (ps : List Str) : Prop where
  g : mg x = some (.ref (fA mg x))
  F : Fun K x x st (fA mg x) (fDat K (fA mg x))
  b : Binds K (fDat K (fA mg x)) ps []
theorem fA_of {mg : Str → Option Value} {x : Str} {a : Addr} (h : mg x = some (.ref a)) : fA mg x = a := by
  unfold fA
  rw [h]
theorem fDat_of {K : PySem.W.Frag} {f : Addr} {oc : Value} {od : Option Addr} {fd : FuncData} {sl : Array (Option Value)} (h : K.lookup f = some ⟨oc, od, .func fd, sl⟩) : fDat K f = fd := by
  unfold fDat
  rw [h]
theorem Df.mk' {K : PySem.W.Frag} {mg : Str → Option Value} {x : Str} {st : Stmt} {ps : List Str} {h : Heap} {f : Addr} {oc : Value} {od an : Option Addr} {osl : Array (Option Value)} {kV doc pm cdv ct : Value} (X : K.In h) (G : h.Ns mainGlobals mg)
    (a : PySem.W.nsIn K mainGlobals x = some (some (.ref f))) (l : K.lookup f = some ⟨oc, od, .func (PySem.W.fnOf x x (defArgs st) (defBody st) (defScope st) .none kV doc pm an cdv ct), osl⟩)
    (c : PySem.W.codeIn K cdv x = true) (k : PySem.W.keepIn K (.ref f) = true)
    (bi : ∀ (kV doc pm : Value) (an : Option Addr) (cdv ct : Value) (us : List Value), us.length = ps.length → bindArgs (PySem.W.fnOf x x (defArgs st) (defBody st) (defScope st) .none kV doc pm an cdv ct) ⟨us, []⟩ = pure (ps.zip us)) : Df K mg x st ps := by
  have e := PySem.W.mg_of X G a
  have F := fun_mk (st := st) l c k
  have e1 := fA_of e
  have e2 := fDat_of l
  refine ⟨by rw [e1]; exact e, ?_, ?_⟩
  · rw [e1, e2]; exact F
  · rw [e1, e2]; exact F.binds bi
/-- the law's own argument -/
theorem bind_one {x : Str} {st : Stmt} {p : Str} {kV doc pm cdv ct : Value} {an : Option Addr} (h : ∀ u : Value, bindArgs (PySem.W.fnOf x x (defArgs st) (defBody st) (defScope st) .none kV doc pm an cdv ct) ⟨[u], []⟩ = pure [(p, u)]) (s : Shared) (u : Value) :
    BindsTo s (PySem.W.fnOf x x (defArgs st) (defBody st) (defScope st) .none kV doc pm an cdv ct) ⟨[u], []⟩ [(p, u)] := .of_eq (h u)
section
variable {X : Cx} {k : Nat} {x : Str} {st : Stmt} {ps : List Str} {sp : Sp} {p pos : Pos} {e : Expr} {es : List Expr} {t : TA}
/-- a call of the def x -/
theorem pe_c (d : Df X.K X.mg x st ps) (G : FnOk X.prog X.w X.K X.mg X.base CX0 k (fA X.mg x) (fDat X.K (fA X.mg x)) ps sp) (hr : Room k X.A) (ha : PA X (e :: es) t) (hg : Gl X x := by rfl) (hdb : (x == ("__debug__" : Str)) = false := by decide)
    (he : starEach (e :: es) X.env = (false, eval e X.env) :: starEach es X.env := by rfl) (hpl : (backTo pos (starEach es X.env)).any (·.1) = false := by rfl) : PE X (.Call (.Name x p) (e :: es) [] pos) (tCall sp [] E0 t) :=
  pe_call G hr hg d.g d.F.kp d.b .nil pass0 ha hdb he hpl
theorem pe_cG (d : Df X.K X.mg x st ps) (G : OkG X.prog X.w X.K X.mg X.base CX0 k (fA X.mg x) (fDat X.K (fA X.mg x)) ps sp) (hr : Room k X.A) (hq : Quiet X.A) (ha : PA X (e :: es) t) (hg : Gl X x := by rfl) (hdb : (x == ("__debug__" : Str)) = false := by decide)
    (he : starEach (e :: es) X.env = (false, eval e X.env) :: starEach es X.env := by rfl) (hpl : (backTo pos (starEach es X.env)).any (·.1) = false := by rfl) : PE X (.Call (.Name x p) (e :: es) [] pos) (tCall sp [] E0 t) :=
  pe_callG G hr hq hg d.g d.F.kp d.b .nil pass0 ha hdb he hpl
/-- a class's name as a value -/
theorem pe_cls {C : Addr} (hm : X.mg x = some (.ref C)) (hg : Gl X x := by rfl) (hd : (x == ("__debug__" : Str)) = false := by decide) : PE X (.Name x pos) (tC (.ref C)) := pe_glob hg hm rfl hd
end
theorem hu64 {A : Around} {k : Nat} (hr : Room k A) : A.units + 64 < cLine := hr.units

/-! ### the law's end, where nothing is being shown -/
section
variable {P : Program} {w : World} {K : PySem.W.Frag} {mg mb : Str → Option Value} {k : Nat} {fa a : Addr} {fd : FuncData} {x : Str} {sp : Sp} {s₁ : Shared} {vs : List Value} {ns : List Int}
/-- what the law's call must do -/
abbrev Law (P : Program) (w : World) (fa a : Addr) (s₁ : Shared) : Prop :=
  codeAny (model P w) callerA (.call (.ref fa) ⟨[.ref a], []⟩) (fun r s' => r = .ok (.ret (.bool true)) ∧ OldK s₁.heap s'.heap ∧ s'.os = s₁.os ∧ AllBare s'.gens) s₁
/-- from one abstract heap that knows the script at most -/
theorem law_from (KX : K.In s₁.heap) (hns : s₁.heap.Ns mainGlobals mg) (hb : s₁.heap.Ns builtinsNs mb) (hbb : ∀ x : Str, x ≠ "__name__" → mb x = bootBuiltins x) (hlim : s₁.heap.NoLimit) (hg : s₁.gens = #[])
    (ha : s₁.heap.get? a = some { cls := .type "list", data := .seq vs.toArray }) (hr : Room k callerA)
    (F : ∀ base : Heap, K.In base → base.Ns mainGlobals mg → OkG P w K mg base CX0 k fa fd [x] sp) (hbind : ∀ (s : Shared) (u : Value), BindsTo s fd ⟨[u], []⟩ [(x, u)])
    {H : Hp} (hO : Only H) (hsp : sp [.ref a] H (fun v _ => v = .bl true) fun _ _ _ => False) (hok : HOk P w H s₁.heap) (hA : ∀ b, H b ≠ none → b = a) (hK : H a ≠ none → K.lookup a = none) : Law P w fa a s₁ := by
  have off : ∀ {b : Addr}, b ≠ a → H b = none := fun {b} nb => Decidable.byContradiction fun z => nb (hA b z)
  have kOff : ∀ {b : Addr} {o : Obj}, K.lookup b = some o → H b = none := fun {b o} e => Decidable.byContradiction fun z => by
    have q := hA b z
    subst q
    rw [hK z] at e
    cases e
  have dOff : ∀ {b : Addr} {o : Obj} {es : Array DictEntry} {ep : Nat}, s₁.heap.get? b = some o → o.data = .dict es ep → H b = none := fun {b o es ep} e d => by
    by_cases q : b = a
    · subst q
      rw [ha] at e
      cases e
      cases d
    · exact off q
  have ns' : ∀ {b : Addr} {m : Str → Option Value}, s₁.heap.Ns b m → (hidT s₁.heap H).Ns b m := fun {b m} z => by
    obtain ⟨o, es, ep, e, d, r⟩ := z
    exact ⟨o, es, ep, hidT_get e (dOff e d), d, r⟩
  have kIn' : K.In (hidT s₁.heap H) := fun b o e => hidT_get (KX b o e) (kOff e)
  obtain ⟨mc, l1, l2⟩ := hlim
  have e0 : Env0 P w K mg (hidT s₁.heap H) callerA [] s₁ H := ⟨rfl, ⟨kIn', ns' hns, ⟨mb, ns' hb, hbb⟩, ⟨mc, ns' l1, l2⟩⟩, fun b o e => of_hidT e, Nat.le_of_eq (hidT_size _ _), trivial, (fun b z => nomatch z), hok, .of_eq hg⟩
  have run := (F _ kIn' (ns' hns)).run callerA [] s₁ H ⟨[.ref a], []⟩ [.ref a] [.ref a] _ _ hr rfl e0 (hbind s₁ (.ref a)) (.cons rfl .nil) hsp
  refine codeAny_mono run fun r s' z => ?_
  cases r with
  | error e => exact z.elim
  | ok fl => cases fl with
    | next => exact z.elim
    | brk => exact z.elim
    | cont => exact z.elim
    | ret u =>
      obtain ⟨v, H', os, bare, un, hok', rv, ev⟩ := z
      have ev' : v = .bl true := ev
      subst ev'
      cases (show u = Value.bool true from rv)
      refine ⟨rfl, OldK.of_keep fun b o e => ?_, os, bare⟩
      rcases hO b with q | ⟨ob, xs, q⟩
      · exact un.keep b o e q (fun z => nomatch z) (fun z => nomatch z)
      · obtain ⟨e1, _⟩ := hok b _ q
        obtain ⟨e2, _⟩ := hok' b _ (un.frzs b ob _ q)
        rw [e] at e1
        cases e1
        exact e2
theorem law_callG (KX : K.In s₁.heap) (hns : s₁.heap.Ns mainGlobals mg) (hb : s₁.heap.Ns builtinsNs mb) (hbb : ∀ x : Str, x ≠ "__name__" → mb x = bootBuiltins x) (hlim : s₁.heap.NoLimit) (hg : s₁.gens = #[])
    (ha : s₁.heap.get? a = some { cls := .type "list", data := .seq vs.toArray }) (hi : IntsAre vs ns) (hl : ns.length ≤ sizeLine) (hr : Room k callerA)
    (F : ∀ base : Heap, K.In base → base.Ns mainGlobals mg → OkG P w K mg base CX0 k fa fd [x] sp) (hbind : ∀ (s : Shared) (u : Value), BindsTo s fd ⟨[u], []⟩ [(x, u)])
    (hsp : ∀ H : Hp, Only H → SqL K H a (ns.map V.int) → sp [.ref a] H (fun v _ => v = .bl true) fun _ _ _ => False) : Law P w fa a s₁ := by
  have rv := vals_ints hi
  cases hk : K.lookup a with
  | some o =>
    have e := KX a o hk
    rw [ha] at e
    cases e
    have hS : SqL K (fun _ => none) a (ns.map V.int) := .inr ⟨_, vs.toArray, _, hk, rfl, rfl, rfl, by rw [List.size_toArray, hi.length]; exact hl, by simpa using rv⟩
    exact law_from KX hns hb hbb hlim hg ha hr F hbind (H := fun _ => none) (fun _ => .inl rfl) (hsp _ (fun _ => .inl rfl) hS) (fun b u z => nomatch z) (fun b z => (z rfl).elim) (fun z => (z rfl).elim)
  | none =>
    have h0 : ∀ b, b ≠ a → upd (fun _ => none) a (.frz { cls := .type "list", data := .seq vs.toArray } (.lst (ns.map V.int))) b = none := fun b z => upd_ne z
    have hO : Only (upd (fun _ => none) a (.frz { cls := .type "list", data := .seq vs.toArray } (.lst (ns.map V.int)))) := fun b => by
      by_cases q : b = a
      · rw [q]; exact .inr ⟨_, _, upd_same⟩
      · exact .inl (h0 b q)
    refine law_from KX hns hb hbb hlim hg ha hr F hbind hO (hsp _ hO (.inl (.inr ⟨_, upd_same⟩))) (fun b u z => ?_) (fun b z => ?_) (fun _ => hk)
    · by_cases q : b = a
      · subst q
        rw [upd_same] at z
        cases z
        exact ⟨ha, by rw [List.length_map]; exact hl, vs, _, rv, ha⟩
      · rw [h0 b q] at z
        cases z
    · by_cases q : b = a
      · exact q
      · exact (z (h0 b q)).elim
end
/-- the law's row, from its def's promise -/
theorem walk_G {l : PySem.W.OpenLaw} {n k : Nat} {q : Program} {loose : List Str} {XP : (Str → Option Value) → Heap → Prop} {YP : World → Heap → Prop} {d : DefRec} {K : Params → PySem.W.Frag} {sp : PySem.W.Frag → Sp} {x : Str}
    (hn : l.most = some n) (hn2 : n ≤ sizeLine) (hdf : d.params.defaults = []) (hr : Room k callerA) (hY : ∀ (w : World) (h : Heap), YP w h → (K w.params).In h)
    (F : ∀ (w : World) (mg : Str → Option Value) (fa : Addr) (h : Heap), (K w.params).In h → h.Ns mainGlobals mg → mg d.name = some (.ref fa) →
      ∃ fd : FuncData, (∀ (s : Shared) (u : Value), BindsTo s fd ⟨[u], []⟩ [(x, u)]) ∧ ∀ base : Heap, (K w.params).In base → base.Ns mainGlobals mg → OkG l.prog w (K w.params) mg base CX0 k fa fd [x] (sp (K w.params)))
    (hsp : ∀ (K : PySem.W.Frag) (H : Hp) (a : Addr) (ns : List Int), ns.length ≤ n → Only H → SqL K H a (ns.map V.int) → sp K [.ref a] H (fun v _ => v = .bl true) fun _ _ _ => False) :
    PySem.W.WalkO q loose XP YP l.row.toRowW d [] (fun f vs => PySem.call f vs) := by
  refine Att.attach_call hn hdf fun w s₀ s₁ mg mb fa o pm cd doc a vs ns G Y ho hd hcd hmg hobj hints hlen hg => ?_
  have KX := hY w _ Y
  obtain ⟨fd, hb, hF⟩ := F w mg fa _ KX G.T.g hmg
  exact law_callG KX G.T.g G.T.b G.T.builtins G.T.nolimit hg hobj hints (Nat.le_trans hlen hn2) hr hF hb fun H hO hS => hsp _ H a ns hlen hO hS
end GL

/-! Exceptions of the program's own as values: made, asked for their class, their fields read. -/
namespace GL
open PySem PySem.Spec PyProof.Rows L2

/-- an exception of the class at C stands at a, with these fields (none: it has no dict of its own) -/
inductive IsEx (H : Hp) (a C : Addr) : List (Str × V) → Prop
  | bare (e : H a = some (ExO (.ref C) a)) : IsEx H a C []
  | full {dx : Addr} {fs : List (Str × V)} (e : H a = some (exo a C (some dx))) (ed : H dx = some (exd dx fs)) : IsEx H a C fs
theorem IsEx.keep {H H' : Hp} {a C : Addr} {fs : List (Str × V)} (x : IsEx H a C fs) (s : Same H H') : IsEx H' a C fs := by
  cases x with
  | bare e => exact .bare (s _ _ e)
  | full e ed => exact .full (s _ _ e) (s _ _ ed)
section
variable {X : Cx} {pins : List (Addr × Obj)} {σ : L2.St} {H : Hp} {s : Shared} {a C : Addr} {fs : List (Str × V)}
theorem IsEx.inst (I : Inv X pins σ H s) (x : IsEx H a C fs) : ∃ ox od, PySem.W.InstAt s.heap a ox C od := by
  cases x with
  | bare e =>
    have y : ObjOk X.prog X.w H s.heap a (ExO (.ref C) a) := I.hok a _ e
    obtain ⟨⟨oe, vs, h1, ⟨z1, z2⟩, h2, _⟩, _⟩ := y
    refine ⟨oe, none, h1, z1, ?_, ?_⟩
    · unfold PySem.W.notCls; rw [h2] <;> rfl
    · rw [z2]; trivial
  | full e ed =>
    obtain ⟨t1, h1⟩ := exo_at I.hok e
    obtain ⟨mA, hns, _⟩ := exd_at I.hok ed
    obtain ⟨o, es, ep, ho, _⟩ := hns
    exact ⟨_, some o, h1, rfl, rfl, ho⟩

/-! ### isinstance -/
def rIsX (K : PySem.W.Frag) : List V → Hp → VK → Prop := fun xs H Q => ∃ (a C : Addr) (fs : List (Str × V)) (c : V) (cv : Value) (b : Bool), xs = [.ref a, c] ∧ IsEx H a C fs ∧ ExcC K C ∧ (∀ u, RelV c u → u = cv) ∧
  PySem.W.kitOne K (.ref C) cv = some b ∧ Q (.bl b) H
theorem call_isX : CallR X (.builtin "isinstance") (rIsX X.K) := by
  intro pins s σ H xs us Q I r h
  obtain ⟨a, C, fs, c, cv, b, rfl, hx, T, hcv, e, q⟩ := h
  obtain ⟨ox, od, J⟩ := hx.inst I
  cases r with
  | cons ra r1 => cases r1 with
    | cons rc r2 =>
      cases r2
      cases ra
      have ec := hcv _ rc
      subst ec
      have cl : (PySem.W.clsIn X.K C).isSome = true := by
        obtain ⟨cd, h1, _⟩ := PySem.W.any_some T.hd
        rw [h1] <;> rfl
      exact PySem.W.kia_one (PySem.W.kitx_exc cl T.hg T.hk T.hs T.ha T.hn T.ht T.hm) I.kIn J e (fun z => nomatch z) fun tk => ⟨.bl b, H, I.kept (t' := tk) fun _ _ z => z, rfl, q⟩

/-! ### a field -/
def tFldX (K : PySem.W.Frag) (f : Str) (te : TE) : TE := fun σ H Q => te σ H fun x H1 => ∃ (a C dx : Addr) (fs : List (Str × V)) (v : V), x = .ref a ∧ H1 a = some (exo a C (some dx)) ∧ H1 dx = some (exd dx fs) ∧ ExcC K C ∧
  PySem.W.findIn K (.ref C) f = some none ∧ fs.lookup f = some v ∧ Q v H1
theorem pe_fldX {e : Expr} {te : TE} {f : Str} {pos : Pos} (he : PE X e te) (hb : attributeBase e f X.env (eval e X.env) = eval e X.env := by rfl) : PE X (.Attribute e f pos) (tFldX X.K f te) := by
  refine ⟨fun pins s σ H Q I h => attr_of hb (thn (he.run pins s σ H _ I h) fun u s1 hh => ?_)⟩
  obtain ⟨x, H1, I1, rx, a, C, dx, fs, v, ex, ea, ed, T, hno, l, q⟩ := hh
  subst ex
  obtain rfl : u = Value.ref a := rx
  obtain ⟨t1, h1⟩ := exo_at I1.hok ea
  obtain ⟨mA, hns, rel⟩ := exd_at I1.hok ed
  obtain ⟨od, ho, hl⟩ := lookIn_ns hns
  obtain ⟨u, hu, ru⟩ := RelO.some_of (v := v) (o := mA f) (by rw [← l]; exact rel f)
  have J : PySem.W.InstAt s1.heap a _ C (some od) := ⟨h1, rfl, rfl, ho⟩
  exact HandSPX.exc_get I1.kIn J T.hg T.hk T.hs (PySem.W.findObj_own T.hd hno rfl (by rw [hl, hu])) (handed_of ru) ⟨v, H1, I1.tok _, ru, q⟩

/-! ### made: by an __init__ of its own, by none -/
def tExV (C : Addr) (sp : Sp) (ta : TA) : TE := fun σ H Q => ta σ H fun vs H1 => vs.length ≤ 1000 ∧ ∀ a, H1 a = none → sp (.ref a :: vs) (upd H1 a (exo a C none)) (fun v H2 => v = .non ∧ Q (.ref a) H2) (fun _ _ _ => False)
theorem pe_exV {x : Str} {C fI : Addr} {k : Nat} {fd : FuncData} {ps : List Str} {sp : Sp} {p pos : Pos} {e : Expr} {es : List Expr} {ta : TA} (T : OexC X.K C) (iC : PySem.W.findIn X.K (.ref C) "__init__" = some (some (.ref fI)))
    (tI : PySem.W.typeIn X.K (.ref fI) = some (.type "function")) (F1 : FnOk X.prog X.w X.K X.mg X.base CX0 k fI fd ps sp) (hr : Room (k + 1) X.A) (hb : Binds X.K fd ps []) (hg : Gl X x) (hm : X.mg x = some (.ref C)) (ha : PA X (e :: es) ta)
    (hdb : (x == ("__debug__" : Str)) = false := by decide) (he : starEach (e :: es) X.env = (false, eval e X.env) :: starEach es X.env := by rfl) (hpl : (backTo pos (starEach es X.env)).any (·.1) = false := by rfl) :
    PE X (.Call (.Name x p) (e :: es) [] pos) (tExV C sp ta) := by
  refine ⟨fun pins s σ H Q I h => wpAny_Call_Name_kw (ld_glob I hg hm ?_ hdb)⟩
  obtain ⟨nm, q, N, bs, bm, sn, sub, ab, col, dd, k0, k1, k2, k3, k5, hC, hbm⟩ := T.cls
  refine PySem.W.callWith_K (h₀ := X.base) I.ok.mod.kin T.kC (thn (ha.run pos pins s σ H _ I h) fun us s1 ⟨vs, H1, I1, r1, hz, q1⟩ => ⟨I1.kIn, ?_⟩) he hpl
  obtain ⟨hp, g, dr, tk, os⟩ := s1
  show wpAny _ _ (call (.ref C) us) _ _ _
  have le1 : hp.objs.size ≤ hp.objs.size + 1 := Nat.le_succ _
  have q2 := q1 (hp.objs.size + 1) (I1.hok.fresh le1)
  have grown : ∀ b o, hp.get? b = some o → ((hp.push (PySem.W.kdv_tup us)).push (PySem.HandSPX.excO C hp.objs.size)).get? b = some o := fun b o e => Heap.get?_push_of_some _ (Heap.get?_push_of_some _ e)
  have there : ((hp.push (PySem.W.kdv_tup us)).push (PySem.HandSPX.excO C hp.objs.size)).get? (hp.objs.size + 1) = some (PySem.HandSPX.excO C hp.objs.size) := by heap_get
  have I2 : Inv X pins σ (upd H1 (hp.objs.size + 1) (exo (hp.objs.size + 1) C none)) ⟨(hp.push (PySem.W.kdv_tup us)).push (PySem.HandSPX.excO C hp.objs.size), g, dr, tk, os⟩ := I1.laid (t' := tk) grown le1 (exo_ok there)
  have r2 : Vals (V.ref (hp.objs.size + 1) :: vs) (Value.ref (hp.objs.size + 1) :: us) := .cons rfl r1
  have hl : (Value.ref (hp.objs.size + 1) :: us ++ []).length = ps.length := by
    rw [List.append_nil, ← r2.length]
    exact F1.len _ _ _ _ q2
  have bb := hb _ (Value.ref (hp.objs.size + 1) :: us) I2.kIn hl
  rw [List.append_nil] at bb
  have hus : us.length ≤ sizeLine := by
    rw [← r1.length, sizeLine_eq]
    omega
  refine wpAny_call (PySem.HandSPX.call_own F.excBase_ValueError (fun Y => PySem.HandSPX.refsVE_contains Y bm hbm) (I1.kIn _ _ hC) (PySem.W.looks_findIn I1.kIn iC) (fun self => PySem.W.bind_fn I1.kIn self tI) hus
    (codeAny_mono (F1.run _ X.stack _ _ _ _ _ _ _ (hr.make C us []) (I2.env0.make C us []) bb r2 q2) fun r s' z => ?_))
  cases r with
  | error er => exact z.elim
  | ok fl => cases fl with
    | ret u =>
      obtain ⟨v, H', I3, rv, ev, q3⟩ := I2.after z
      subst ev
      exact ⟨rv, ⟨V.ref (hp.objs.size + 1), H', I3, rfl, q3⟩⟩
    | next => exact z.elim
    | brk => exact z.elim
    | cont => exact z.elim
theorem pe_exV0 {C : Addr} {bmB : List Value} {B newId initId : String} {x : Str} {p pos : Pos} (F : ExcBaseFacts B newId initId bmB) (q : PySem.W.excIn X.K C bmB newId = true) (gC : X.mg x = some (.ref C)) (kC : PySem.W.keepIn X.K (.ref C) = true) (hg : Gl X x)
    (hdb : (x == ("__debug__" : Str)) = false := by decide) : PE X (.Call (.Name x p) [] [] pos) (fun σ H Q => ∀ a, H a = none → Q (.ref a) (upd H a (ExO (.ref C) a))) := by
  refine ⟨fun pins s σ H Q I h => wpAny_Call_Name_kw (ld_glob I hg gC (PySem.W.callWith_K0 I.kIn kC ?_) hdb)⟩
  obtain ⟨bm, N, nm, qn, bs, hdct, sn, sub, ab, col, dd, k0, k1, k2, k3, k5, mN, hC, hN, hni, T⟩ := exc_obj I.kIn q
  refine wpAny_call_exc_subT F T hC hN hni (fun h' a hm => ?_) (by show 0 ≤ sizeLine; rw [sizeLine_eq]; omega)
  have hn : H a = none := I.hok.gone hm.new
  obtain ⟨t, ht, _, _⟩ := hm.there
  exact ⟨.ref a, upd H a (ExO (.ref C) a), I.laidN hm.keeps hm.new hn (exO_ok ht ⟨rfl, rfl⟩ rfl rfl rfl (show 4 < 6 by decide)), rfl, h a hn⟩
end

/-! ### the classes, by names -/
@[irreducible] def iA (K : PySem.W.Frag) (C : Addr) : Addr := match PySem.W.findIn K (.ref C) "__init__" with
  | some (some (.ref f)) => f
  | _ => 0
/-- what is asked of a class without an __init__ -/
structure Cl0 (K : PySem.W.Frag) (mg : Str → Option Value) (x : Str) : Prop where
  g : mg x = some (.ref (fA mg x))
  k : PySem.W.keepIn K (.ref (fA mg x)) = true
  e : ExcC K (fA mg x)
  q : PySem.W.excIn K (fA mg x) [.type "ValueError", .type "Exception", .type "BaseException", .type "object"] "ValueError.__new__" = true
/-- .. of one with an __init__ that stores the fields fs -/
structure ClI (K : PySem.W.Frag) (mg : Str → Option Value) (x qual : Str) (st : Stmt) (ps fs : List Str) : Prop where
  g : mg x = some (.ref (fA mg x))
  e : ExcC K (fA mg x)
  o : OexC K (fA mg x)
  i : PySem.W.findIn K (.ref (fA mg x)) "__init__" = some (some (.ref (iA K (fA mg x))))
  t : PySem.W.typeIn K (.ref (iA K (fA mg x))) = some (.type "function")
  F : Fun K "__init__" qual st (iA K (fA mg x)) (fDat K (iA K (fA mg x)))
  b : Binds K (fDat K (iA K (fA mg x))) ps []
  n : ∀ f ∈ fs, PySem.W.findIn K (.ref (fA mg x)) f = some none
theorem iA_of {K : PySem.W.Frag} {C f : Addr} (h : PySem.W.findIn K (.ref C) "__init__" = some (some (.ref f))) : iA K C = f := by
  unfold iA
  rw [h]
theorem Cl0.mk' {K : PySem.W.Frag} {mg : Str → Option Value} {x : Str} {h : Heap} {C : Addr} (X : K.In h) (G : h.Ns mainGlobals mg) (a : PySem.W.nsIn K mainGlobals x = some (some (.ref C))) (k : PySem.W.keepIn K (.ref C) = true) (e : ExcC K C)
    (q : PySem.W.excIn K C [.type "ValueError", .type "Exception", .type "BaseException", .type "object"] "ValueError.__new__" = true) : Cl0 K mg x := by
  have m := PySem.W.mg_of X G a
  have c := fA_of m
  exact ⟨by rw [c]; exact m, by rw [c]; exact k, by rw [c]; exact e, by rw [c]; exact q⟩
theorem ClI.mk' {K : PySem.W.Frag} {mg : Str → Option Value} {x qual : Str} {st : Stmt} {ps fs : List Str} {h : Heap} {C f : Addr} {oc : Value} {od an : Option Addr} {osl : Array (Option Value)} {kV doc pm cdv ct : Value} (X : K.In h) (G : h.Ns mainGlobals mg)
    (a : PySem.W.nsIn K mainGlobals x = some (some (.ref C))) (e : ExcC K C) (o : OexC K C) (i : PySem.W.findIn K (.ref C) "__init__" = some (some (.ref f))) (t : PySem.W.typeIn K (.ref f) = some (.type "function"))
    (l : K.lookup f = some ⟨oc, od, .func (PySem.W.fnOf "__init__" qual (defArgs st) (defBody st) (defScope st) .none kV doc pm an cdv ct), osl⟩) (c : PySem.W.codeIn K cdv qual = true) (k : PySem.W.keepIn K (.ref f) = true)
    (bi : ∀ (kV doc pm : Value) (an : Option Addr) (cdv ct : Value) (us : List Value), us.length = ps.length → bindArgs (PySem.W.fnOf "__init__" qual (defArgs st) (defBody st) (defScope st) .none kV doc pm an cdv ct) ⟨us, []⟩ = pure (ps.zip us))
    (n : ∀ f ∈ fs, PySem.W.findIn K (.ref C) f = some none) : ClI K mg x qual st ps fs := by
  have m := PySem.W.mg_of X G a
  have c1 := fA_of m
  have c2 : iA K (fA mg x) = f := by rw [c1]; exact iA_of i
  have c3 := fDat_of l
  have F := fun_mk (st := st) l c k
  refine ⟨by rw [c1]; exact m, by rw [c1]; exact e, by rw [c1]; exact o, by rw [c2, c1]; exact i, by rw [c2]; exact t, by rw [c2, c3]; exact F, by rw [c2, c3]; exact F.binds bi, by rw [c1]; exact n⟩
def spI1 (C : Addr) (f : Str) : Sp := fun vs H Q _ => ∃ a v, vs = [.ref a, v] ∧ H a = some (exo a C none) ∧ ∀ dx, H dx = none → dx ≠ a → Q .non (upd (upd H dx (exd dx [(f, v)])) a (exo a C (some dx)))
def spI2 (C : Addr) (f g : Str) : Sp := fun vs H Q _ => ∃ a v u, vs = [.ref a, v, u] ∧ H a = some (exo a C none) ∧ ∀ dx, H dx = none → dx ≠ a → Q .non (upd (upd (upd H dx (exd dx [(f, v)])) a (exo a C (some dx))) dx (exd dx [(g, u), (f, v)]))
section
variable {K : PySem.W.Frag} {σ : L2.St} {H : Hp} {D : Ends} {a C dx : Addr} {f g : Str} {v u : V} {ta : TA} {Q : VK}
theorem s_ost1 (T : OexC K C) (n : PySem.W.findIn K (.ref C) f = some none) (h : H a = some (exo a C none)) (h0 : σ[0]? = some (some (.ref a))) {i : Nat} (h1 : σ[i]? = some (some v))
    (q : ∀ dx, H dx = none → dx ≠ a → D.nx σ (upd (upd H dx (exd dx [(f, v)])) a (exo a C (some dx)))) : tOst K f (tVar 0) (tVar i) D σ H := ⟨v, h1, _, h0, a, C, rfl, T, n, .inl ⟨h, q⟩⟩
theorem s_ost2 (T : OexC K C) (n : PySem.W.findIn K (.ref C) g = some none) (h : H a = some (exo a C (some dx))) (hd : H dx = some (exd dx [(f, v)])) (h0 : σ[0]? = some (some (.ref a))) {i : Nat} (h1 : σ[i]? = some (some u))
    (q : D.nx σ (upd H dx (exd dx [(g, u), (f, v)]))) : tOst K g (tVar 0) (tVar i) D σ H := ⟨u, h1, _, h0, a, C, rfl, T, n, .inr ⟨dx, _, h, hd, by show 1 ≤ 900; decide, q⟩⟩
/-- what the making of one hands on -/
theorem made1 (h : VA ta σ H [v]) (k : ∀ a H', Same H H' → IsEx H' a C [(f, v)] → Q (.ref a) H') : tExV C (spI1 C f) ta σ H Q :=
  h _ ⟨by show 1 ≤ 1000; decide, fun a ha => ⟨a, v, rfl, upd_same, fun dx hd ne => ⟨rfl, k a _ (fun b o e => by
    have hb : b ≠ a := ne_of_none e ha
    rw [upd_ne ne] at hd
    rw [upd_ne hb, upd_ne (ne_of_none e hd), upd_ne hb]
    exact e) (.full upd_same (by rw [upd_ne ne, upd_same]))⟩⟩⟩
theorem made2 (h : VA ta σ H [v, u]) (k : ∀ a H', Same H H' → IsEx H' a C [(g, u), (f, v)] → Q (.ref a) H') : tExV C (spI2 C f g) ta σ H Q :=
  h _ ⟨by show 2 ≤ 1000; decide, fun a ha => ⟨a, v, u, rfl, upd_same, fun dx hd ne => ⟨rfl, k a _ (fun b o e => by
    have hb : b ≠ a := ne_of_none e ha
    rw [upd_ne ne] at hd
    have hb2 : b ≠ dx := ne_of_none e hd
    rw [upd_ne hb2, upd_ne hb, upd_ne hb2, upd_ne hb]
    exact e) (.full (by rw [upd_ne (Ne.symm ne), upd_same]) upd_same)⟩⟩⟩
theorem made0 (k : ∀ a H', Same H H' → IsEx H' a C [] → Q (.ref a) H') : (fun (σ : L2.St) (H : Hp) (Q : VK) => ∀ a, H a = none → Q (.ref a) (upd H a (ExO (.ref C) a))) σ H Q :=
  fun a ha => k a _ (Same.new' ha) (.bare upd_same)
/-- isinstance of one -/
theorem v_isx {te : TE} {fs : List (Str × V)} {c : V} {cv : Value} {b : Bool} (h : Val te σ H (.ref a)) (x : IsEx H a C fs) (e : ExcC K C) (r : ∀ w, RelV c w → w = cv) (k : PySem.W.kitOne K (.ref C) cv = some b) :
    Val (tCB (rIsX K) (tCons te (tCons (tC c) tNil))) σ H (.bl b) := v_cb (va_cons h (va_cons val_c va_nil)) fun Q q => ⟨a, C, fs, c, cv, b, rfl, x, e, r, k, q⟩
theorem v_fldx {te : TE} {fs : List (Str × V)} (h : Val te σ H (.ref a)) (x : IsEx H a C fs) (hf : fs.lookup f = some v) (e : ExcC K C) (n : PySem.W.findIn K (.ref C) f = some none) : Val (tFldX K f te) σ H v := by
  intro Q q
  cases x with
  | bare _ => cases hf
  | full e1 e2 => exact h _ ⟨a, C, _, fs, v, rfl, e1, e2, e, n, hf, q⟩
end
end GL

/-! What data the heap holds, dicts among it, and what repr tells of it. -/
namespace GL
open PySem PySem.Spec PyProof.Rows L2

def keyD : Key → PyData
  | .inl i => .int i
  | .inr x => .str x
mutual
/-- the data of a value: as Dp, dicts too -/
inductive Dd (K : PySem.W.Frag) (H : Hp) : V → PyData → Prop
  | non : Dd K H .non .none
  | bl (b : Bool) : Dd K H (.bl b) (.bool b)
  | int (i : Int) : Dd K H (.int i) (.int i)
  | str (x : Str) : Dd K H (.str x) (.str x)
  | lst {a : Addr} {xs : List V} {ds : List PyData} : SqL K H a xs → DdAll K H xs ds → Dd K H (.ref a) (.list ds)
  | tup {a : Addr} {xs : List V} {ds : List PyData} : SqT K H a xs → DdAll K H xs ds → Dd K H (.ref a) (.tuple ds)
  | dic {a : Addr} {kvs : List (Key × V)} {ps : List (PyData × PyData)} : H a = some (.dK kvs) → DdKv K H kvs ps → Dd K H (.ref a) (.dict ps)
inductive DdAll (K : PySem.W.Frag) (H : Hp) : List V → List PyData → Prop
  | nil : DdAll K H [] []
  | cons {v : V} {vs : List V} {d : PyData} {ds : List PyData} : Dd K H v d → DdAll K H vs ds → DdAll K H (v :: vs) (d :: ds)
inductive DdKv (K : PySem.W.Frag) (H : Hp) : List (Key × V) → List (PyData × PyData) → Prop
  | nil : DdKv K H [] []
  | cons {k : Key} {v : V} {r : List (Key × V)} {d : PyData} {ps : List (PyData × PyData)} : Dd K H v d → DdKv K H r ps → DdKv K H ((k, v) :: r) ((keyD k, d) :: ps)
end
theorem sqt_same {K : PySem.W.Frag} {H H' : Hp} {a : Addr} {xs : List V} (e : Same H H') (h : SqT K H a xs) : SqT K H' a xs := by
  rcases h with (h | ⟨o, h⟩) | h
  · exact .inl (.inl (e _ _ h))
  · exact .inl (.inr ⟨o, e _ _ h⟩)
  · exact .inr h
mutual
theorem Dd.same {K : PySem.W.Frag} {H H' : Hp} (s : Same H H') : ∀ (d : PyData) (v : V), Dd K H v d → Dd K H' v d
  | .none, _, h => by cases h; exact .non
  | .bool _, _, h => by cases h; exact .bl _
  | .int _, _, h => by cases h; exact .int _
  | .str _, _, h => by cases h; exact .str _
  | .list ds, _, h => by
    cases h with
    | lst a b => exact .lst (s.seq a) (Dd.sameAll s ds _ b)
  | .tuple ds, _, h => by
    cases h with
    | tup a b => exact .tup (sqt_same s a) (Dd.sameAll s ds _ b)
  | .dict ps, _, h => by
    cases h with
    | dic a b => exact .dic (s _ _ a) (Dd.sameKv s ps _ b)
theorem Dd.sameAll {K : PySem.W.Frag} {H H' : Hp} (s : Same H H') : ∀ (ds : List PyData) (vs : List V), DdAll K H vs ds → DdAll K H' vs ds
  | [], _, h => by cases h; exact .nil
  | d :: ds, _, h => by
    cases h with
    | cons a b => exact .cons (Dd.same s d _ a) (Dd.sameAll s ds _ b)
theorem Dd.sameKv {K : PySem.W.Frag} {H H' : Hp} (s : Same H H') : ∀ (ps : List (PyData × PyData)) (kvs : List (Key × V)), DdKv K H kvs ps → DdKv K H' kvs ps
  | [], _, h => by cases h; exact .nil
  | (_, d) :: ps, _, h => by
    cases h with
    | cons a b => exact .cons (Dd.same s d _ a) (Dd.sameKv s ps _ b)
end
section
variable {X : Cx} {pins : List (Addr × Obj)} {σ : L2.St} {H : Hp} {s : Shared}
/-- what repr tells of a value whose data are known -/
def Shows (X : Cx) (h : Heap) (d : PyData) (u : Value) : Prop := (∃ as, Reads h u d as) ∧ ∃ bs, ReadAtMost h d.depth bs ∧ ReprK X.prog X.w bs h d.depth u d.shown
def ShowsAll (X : Cx) (h : Heap) (ds : List PyData) (us : List Value) : Prop := (∃ as, ReadsAll h us ds as) ∧ ∃ bs, ReadAtMost h (PyData.depthAll ds) bs ∧ ReprAllK X.prog X.w bs h (PyData.depthAll ds) us (PyData.shownAll ds)
theorem ShowsAll.nil {h : Heap} : ShowsAll X h [] [] := ⟨⟨_, .nil⟩, [], (fun _ z => nomatch z), .nil⟩
theorem ShowsAll.cons {h : Heap} {d : PyData} {ds : List PyData} {u : Value} {us : List Value} (a : Shows X h d u) (b : ShowsAll X h ds us) : ShowsAll X h (d :: ds) (u :: us) := by
  obtain ⟨⟨as1, r1⟩, b1, h1, k1⟩ := a
  obtain ⟨⟨as2, r2⟩, b2, h2, k2⟩ := b
  have m1 : d.depth ≤ PyData.depthAll (d :: ds) := Nat.le_max_left _ _
  have m2 : PyData.depthAll ds ≤ PyData.depthAll (d :: ds) := Nat.le_max_right _ _
  exact ⟨⟨_, .cons r1 r2⟩, b1 ++ b2, (h1.mono m1).append (h2.mono m2), .cons ((k1.more fun _ z => List.mem_append_left _ z).level_le m1) (k2.more_le (fun _ z => List.mem_append_right _ z) m2)⟩
theorem Shows.lst {h : Heap} {ds : List PyData} {us : List Value} {a : Addr} {o : Obj} {n : Nat} (ha : h.get? a = some o) (hc : o.cls = .type "list") (hd : o.data = .seq us.toArray n) (b : ShowsAll X h ds us) : Shows X h (.list ds) (.ref a) := by
  obtain ⟨⟨as, r⟩, bs, hb, k⟩ := b
  have R : Reads h (.ref a) (.list ds) _ := .list ha hc hd r
  have off : a ∉ bs := not_mem_of_deeper R (by simp only [PyData.depth]; omega) hb
  refine ⟨⟨_, R⟩, a :: bs, ReadAtMost.cons R (by simp only [PyData.depth]; omega) hb, ?_⟩
  cases us with
  | nil =>
    cases r
    exact ReprK.listEmpty ha hc hd
  | cons u us => exact ReprK.list ha hc hd off (by simpa using k.length_eq) fun i y e => k.item i y (by simpa using e)
theorem Shows.tup {h : Heap} {ds : List PyData} {us : List Value} {a : Addr} (ha : IsTup h a us.toArray) (b : ShowsAll X h ds us) : Shows X h (.tuple ds) (.ref a) := by
  obtain ⟨⟨as, r⟩, bs, hb, k⟩ := b
  obtain ⟨o, ho, hc, n, hd⟩ := ha
  have R : Reads h (.ref a) (.tuple ds) _ := .tuple ho hc hd r
  exact ⟨⟨_, R⟩, a :: bs, ReadAtMost.cons R (by simp only [PyData.depth]; omega) hb, ReprK.tuple ho hc hd (not_mem_of_deeper R (by simp only [PyData.depth]; omega) hb) k⟩
theorem shows_key {h : Heap} {k : Key} {u : Value} (e : keyIs k u = true) (hs : (keyD k).showable = true) (hz : (keyD k).shown.length ≤ sizeLine) : Shows X h (keyD k) u := by
  rcases keyIs_shape e with ⟨i, t, rfl, rfl⟩ | ⟨x, t, rfl, rfl⟩
  · exact ⟨⟨_, .int i t⟩, [], (fun _ z => nomatch z), .of_is (ReprIs.int t (of_decide_eq_true hs)) _ _ _⟩
  · exact ⟨⟨_, .str x t⟩, [], (fun _ z => nomatch z), .of_is (ReprIs.str x t hz) _ _ _⟩
theorem Shows.dic {h : Heap} {ps : List (PyData × PyData)} {es : Array DictEntry} {a : Addr} {o : Obj} {n : Nat} (ho : h.get? a = some o) (hc : o.cls = .type "dict") (hd : o.data = .dict es n) (hsys : (a == sysModules) = false)
    (b1 : ShowsAll X h (ps.map (·.1)) (es.toList.map (·.key))) (b2 : ShowsAll X h (ps.map (·.2)) (es.toList.map (·.val))) : Shows X h (.dict ps) (.ref a) := by
  obtain ⟨⟨as1, r1⟩, c1, h1, k1⟩ := b1
  obtain ⟨⟨as2, r2⟩, c2, h2, k2⟩ := b2
  have R : Reads h (.ref a) (.dict ps) _ := .dict ho hc hd r1 r2
  have hb : ReadAtMost h (PyData.depthKv ps) (c1 ++ c2) := (h1.mono (PyData.depthAll_keys_le ps)).append (h2.mono (PyData.depthAll_vals_le ps))
  refine ⟨⟨_, R⟩, a :: (c1 ++ c2), ReadAtMost.cons R (by simp only [PyData.depth]; omega) hb, ?_⟩
  simp only [PyData.depth, PyData.shown, PyData.shownKv_eq]
  exact ReprK.dict ho hc hd hsys (not_mem_of_deeper R (by simp only [PyData.depth]; omega) hb) (ReprEntriesK.of_two es.toList _ _
    (k1.more_le (fun _ z => List.mem_append_left _ z) (PyData.depthAll_keys_le ps)) (k2.more_le (fun _ z => List.mem_append_right _ z) (PyData.depthAll_vals_le ps)))
theorem all_le {ds : List PyData} {d : PyData} (hd : d ∈ ds) : d.shown ∈ PyData.shownAll ds := by
  induction ds with
  | nil => cases hd
  | cons x xs ih =>
    simp only [PyData.shownAll]
    rcases List.mem_cons.mp hd with e | e
    · rw [e]; exact List.mem_cons_self ..
    · exact List.mem_cons_of_mem _ (ih e)
mutual
theorem Dd.shows (I : Inv X pins σ H s) : ∀ (d : PyData) (v : V) (u : Value), Dd X.K H v d → RelV v u → d.showable = true → d.shown.length ≤ sizeLine → Shows X s.heap d u
  | .none, _, _, h, r, _, _ => by
    cases h; cases r
    exact ⟨⟨_, .none⟩, [], (fun _ z => nomatch z), .of_is ReprIs.none _ _ _⟩
  | .bool b, _, _, h, r, _, _ => by
    cases h; cases r
    exact ⟨⟨_, .bool b⟩, [], (fun _ z => nomatch z), .of_is (ReprIs.bool b) _ _ _⟩
  | .int i, _, _, h, r, hs, _ => by
    cases h
    obtain ⟨t, rfl⟩ := r
    exact ⟨⟨_, .int i t⟩, [], (fun _ z => nomatch z), .of_is (ReprIs.int t (of_decide_eq_true hs)) _ _ _⟩
  | .str x, _, _, h, r, _, hz => by
    cases h
    obtain ⟨t, rfl⟩ := r
    exact ⟨⟨_, .str x t⟩, [], (fun _ z => nomatch z), .of_is (ReprIs.str x t hz) _ _ _⟩
  | .list ds, _, _, h, r, hs, hz => by
    cases h with
    | lst hq ha =>
      cases r
      obtain ⟨its, rv, ⟨o, n, ho, hc, _, hd⟩, _⟩ := I.list hq
      have hz' : (listText (PyData.shownAll ds)).length ≤ sizeLine := by simpa only [PyData.shown] using hz
      exact Shows.lst ho hc hd (Dd.showsAll I ds _ its ha rv (by simpa [PyData.showable] using hs) fun t ht => Nat.le_trans (listText_mem_le ht) hz')
  | .tuple ds, _, _, h, r, hs, hz => by
    cases h with
    | tup hq ha =>
      cases r
      obtain ⟨its, rv, ⟨o, ho, hc, n, hd⟩, _⟩ := I.tuple hq
      have hz' : (tupleText (PyData.shownAll ds)).length ≤ sizeLine := by simpa only [PyData.shown] using hz
      exact Shows.tup ⟨o, ho, hc, n, hd⟩ (Dd.showsAll I ds _ its ha rv (by simpa [PyData.showable] using hs) fun t ht => Nat.le_trans (tupleText_mem_le ht) hz')
  | .dict ps, _, _, h, r, hs, hz => by
    cases h with
    | dic hq ha =>
      cases r
      obtain ⟨_, hsys, vs, kv, o, es, ep, ho, ⟨hc, _, _⟩, hd, _, pr, _⟩ := I.hok _ _ hq
      have hz' : (dictText (PyData.shownKv ps)).length ≤ sizeLine := by simpa only [PyData.shown] using hz
      obtain ⟨b1, b2⟩ := Dd.showsKv I ps _ vs es.toList ha kv pr (by simpa [PyData.showable] using hs) (fun t ht => Nat.le_trans (dictText_mem_le ht) hz')
      exact Shows.dic ho hc hd hsys b1 b2
theorem Dd.showsAll (I : Inv X pins σ H s) : ∀ (ds : List PyData) (vs : List V) (us : List Value), DdAll X.K H vs ds → Vals vs us → PyData.showableAll ds = true → (∀ t ∈ PyData.shownAll ds, t.length ≤ sizeLine) → ShowsAll X s.heap ds us
  | [], _, _, h, r, _, _ => by
    cases h; cases r
    exact .nil
  | d :: ds, _, _, h, r, hs, hz => by
    cases h with
    | cons h1 h2 => cases r with
      | cons r1 r2 =>
        have hs' : d.showable = true ∧ PyData.showableAll ds = true := by simpa [PyData.showableAll] using hs
        exact .cons (Dd.shows I d _ _ h1 r1 hs'.1 (hz _ (by simp only [PyData.shownAll]; exact List.mem_cons_self ..))) (Dd.showsAll I ds _ _ h2 r2 hs'.2 fun t ht => hz t (by simp only [PyData.shownAll]; exact List.mem_cons_of_mem _ ht))
theorem Dd.showsKv (I : Inv X pins σ H s) : ∀ (ps : List (PyData × PyData)) (kvs : List (Key × V)) (vs : List (Key × Value)) (es : List DictEntry), DdKv X.K H kvs ps → KV kvs vs → Pairs (mixKind X.prog X.w) es vs → PyData.showableKv ps = true →
    (∀ t ∈ PyData.shownKv ps, t.length ≤ sizeLine) → ShowsAll X s.heap (ps.map (·.1)) (es.map (·.key)) ∧ ShowsAll X s.heap (ps.map (·.2)) (es.map (·.val))
  | [], _, _, _, h, kv, pr, _, _ => by
    cases h; cases kv; cases pr
    exact ⟨.nil, .nil⟩
  | (k, d) :: ps, _, _, _, h, kv, pr, hs, hz => by
    cases h with
    | cons h1 h2 => cases kv with
      | cons e kv2 => cases pr with
        | cons p1 p2 p3 =>
          rename_i k0 v0 _ q _ en _
          have hs' : ((keyD k0).showable = true ∧ d.showable = true) ∧ PyData.showableKv ps = true := by simpa [PyData.showableKv] using hs
          have z0 := hz _ (by simp only [PyData.shownKv]; exact List.mem_cons_self ..)
          obtain ⟨e1, e2⟩ := e
          have z1 : (keyD k0).shown.length ≤ sizeLine := Nat.le_trans (by simp only [Str.length_append]; omega) z0
          have z2 : d.shown.length ≤ sizeLine := Nat.le_trans (by simp only [Str.length_append]; omega) z0
          obtain ⟨i1, i2⟩ := Dd.showsKv I ps _ _ _ h2 kv2 p3 hs'.2 fun t ht => hz t (by simp only [PyData.shownKv]; exact List.mem_cons_of_mem _ ht)
          have q1 : k0 = q.1 := e1
          have ky : keyIs k0 en.key = true := by rw [q1]; exact p1
          refine ⟨.cons (shows_key ky hs'.1.1 z1) i1, .cons (Dd.shows I d v0 _ h1 ?_ hs'.1.2 z2) i2⟩
          show RelV v0 en.val
          rw [p2]; exact e2
end
/-- repr of any such data -/
def rShow (K : PySem.W.Frag) : List V → Hp → VK → Prop := fun xs H Q => ∃ (v : V) (d : PyData), xs = [v] ∧ Dd K H v d ∧ d.showable = true ∧ d.depth ≤ 40 ∧ d.shown.length ≤ sizeLine ∧ Q (.str d.shown) H
theorem call_show (hq : Quiet X.A) (hu : X.A.units + 64 < cLine) : CallR X (.builtin "repr") (rShow X.K) := by
  intro pins s σ H xs us Q I r h
  obtain ⟨v, d, rfl, hd, hs, hp, hz, q⟩ := h
  cases r with
  | cons rv rn =>
    rename_i u us'
    cases rn
    have done : ∀ h' tk, (∀ b o, s.heap.get? b = some o → h'.get? b = some o) → ∀ z, EP X pins σ Q (.str d.shown z) { s with heap := h', toks := tk } := fun h' tk hk z => ⟨.str _, H, I.kept hk, ⟨z, rfl⟩, q⟩
    cases hd with
    | non => cases rv; exact PySem.P.repr_of_none ⟨.str _, H, I.tok _, ⟨_, rfl⟩, q⟩
    | bl b => cases rv; exact PySem.P.repr_of_bool ⟨.str _, H, I.tok _, ⟨_, rfl⟩, q⟩
    | int i =>
      obtain ⟨t, rfl⟩ := rv
      exact PySem.P.repr_of_int (of_decide_eq_true hs) ⟨.str _, H, I.tok _, ⟨_, rfl⟩, q⟩
    | str x =>
      obtain ⟨t, rfl⟩ := rv
      exact PySem.P.repr_of_str ⟨.str _, H, I.tok _, ⟨_, rfl⟩, q⟩
    | @lst a xs ds hq2 ha =>
      cases rv
      obtain ⟨its, rv2, ⟨o, n, ho, hc, _, hd2⟩, _⟩ := I.list hq2
      have hz' : (listText (PyData.shownAll ds)).length ≤ sizeLine := by simpa only [PyData.shown] using hz
      have hp' : PyData.depthAll ds + 1 ≤ 40 := by simpa only [PyData.depth] using hp
      obtain ⟨⟨as, r⟩, bs, hb, k⟩ := Dd.showsAll I ds _ its ha rv2 (by simpa [PyData.showable] using hs) fun t ht => Nat.le_trans (listText_mem_le ht) hz'
      have R : Reads s.heap (.ref a) (.list ds) _ := .list ho hc hd2 r
      have off : a ∉ bs := not_mem_of_deeper R (by simp only [PyData.depth]; omega) hb
      refine call_repr_slot (by omega) ⟨o, ho, hc⟩ F.slot_list_repr.toG ?_
      simp only [PyData.shown] at done
      cases its with
      | nil =>
        cases r
        simp only [PyData.shownAll, listText_nil] at done
        exact call_list_repr_empty ⟨o, ho, hc⟩ ho hd2 ⟨_, _, rfl, done s.heap _ (fun _ _ e => e) _⟩
      | cons u us => exact call_list_reprK ho hc hd2 off (by simpa using k.length_eq) (fun i y e => k.item i y (by simpa using e)) hq (fun b _ => Clear.nil b) (by show X.A.units + 1 + (PyData.depthAll ds + 1) < cLine; omega) (fun _ _ e => e) (fun h' u tk hk => ⟨_, _, rfl, done h' tk hk u⟩) hz'
    | @tup a xs ds hq2 ha =>
      cases rv
      obtain ⟨its, rv2, ⟨o, ho, hc, n, hd2⟩, _⟩ := I.tuple hq2
      have hz' : (tupleText (PyData.shownAll ds)).length ≤ sizeLine := by simpa only [PyData.shown] using hz
      have hp' : PyData.depthAll ds + 1 ≤ 40 := by simpa only [PyData.depth] using hp
      obtain ⟨⟨as, r⟩, bs, hb, k⟩ := Dd.showsAll I ds _ its ha rv2 (by simpa [PyData.showable] using hs) fun t ht => Nat.le_trans (tupleText_mem_le ht) hz'
      have R : Reads s.heap (.ref a) (.tuple ds) _ := .tuple ho hc hd2 r
      have off : a ∉ bs := not_mem_of_deeper R (by simp only [PyData.depth]; omega) hb
      simp only [PyData.shown] at done
      exact call_repr_slot (by omega) ⟨o, ho, hc⟩ F.slot_tuple_repr (call_tuple_reprK ho hc hd2 off k hq (fun b _ => Clear.nil b) (by show X.A.units + 1 + (PyData.depthAll ds + 1) < cLine; omega) (fun _ _ e => e) (fun h' u tk hk => ⟨_, _, rfl, done h' tk hk u⟩) hz')
    | @dic a kvs ps hq2 ha =>
      cases rv
      obtain ⟨_, hsys, vs, kv, o, es, ep, ho, ⟨hc, _, _⟩, hd2, _, pr, _⟩ := I.hok _ _ hq2
      have hz' : (dictText (PyData.shownKv ps)).length ≤ sizeLine := by simpa only [PyData.shown] using hz
      have hp' : PyData.depthKv ps + 1 ≤ 40 := by simpa only [PyData.depth] using hp
      obtain ⟨⟨⟨as1, r1⟩, c1, h1, k1⟩, ⟨as2, r2⟩, c2, h2, k2⟩ := Dd.showsKv I ps _ vs es.toList ha kv pr (by simpa [PyData.showable] using hs) (fun t ht => Nat.le_trans (dictText_mem_le ht) hz')
      have R : Reads s.heap (.ref a) (.dict ps) _ := .dict ho hc hd2 r1 r2
      have hb : ReadAtMost s.heap (PyData.depthKv ps) (c1 ++ c2) := (h1.mono (PyData.depthAll_keys_le ps)).append (h2.mono (PyData.depthAll_vals_le ps))
      have off : a ∉ c1 ++ c2 := not_mem_of_deeper R (by simp only [PyData.depth]; omega) hb
      simp only [PyData.shown] at done
      exact call_repr_slot (by omega) ⟨o, ho, hc⟩ F.slot_dict_repr (call_dict_reprK ho hc hd2 hsys off (ReprEntriesK.of_two es.toList _ _
        (k1.more_le (fun _ z => List.mem_append_left _ z) (PyData.depthAll_keys_le ps)) (k2.more_le (fun _ z => List.mem_append_right _ z) (PyData.depthAll_vals_le ps)) |> fun z => by rw [← PyData.shownKv_eq] at z; exact z)
        hq (fun b _ => Clear.nil b) (by show X.A.units + 1 + (PyData.depthKv ps + 1) < cLine; omega) (fun _ _ e => e) (fun h' u tk hk => ⟨_, _, rfl, done h' tk hk u⟩) hz')
end
section
variable {K : PySem.W.Frag} {σ : L2.St} {H : Hp} {te : TE} {v : V} {d : PyData}
theorem v_show (h : Val te σ H v) (hd : Dd K H v d) (hs : d.showable = true) (hp : d.depth ≤ 40) (hz : d.shown.length ≤ 100000) : Val (tCB (rShow K) (tCons te tNil)) σ H (.str d.shown) := v_cb (va_cons h va_nil) fun Q q => ⟨v, d, rfl, hd, hs, hp, Nat.le_trans hz (by decide), q⟩
end
end GL

/-! several clauses 'except X as e' in one try -/
namespace TM
open PySem PySem.Spec PyProof.Rows L2
abbrev Cl := Value × Nat × (Addr → Value → Option Addr → TS)
/-- what the clauses wish of an exception, the first one first -/
def wNames (K : PySem.W.Frag) (Wout : WX) (D : Ends) (l : List Cl) : WX := l.foldr (fun q W => wAs K q.1 q.2.1 q.2.2 W D) Wout
/-- asked only of states that hold every name -/
def wLen (n : Nat) (W : WX) : WX := fun cls d σ H => σ.length = n → W cls d σ H
inductive Clauses (X : Cx) : List ExceptHandler → List Cl → Prop
  | nil : Clauses X [] []
  | cons {x n : Str} {c : Value} {i : Nat} {ts : Addr → Value → Option Addr → TS} {b : Stmt} {r : List Stmt} {np hp : Pos} {hds : List ExceptHandler} {l : List Cl} (hi : X.N[i]? = some n) (hn : X.env.kindOf n = some .local) (hc : Names X x c)
      (suite : ∀ (a : Addr) (oe : Obj) (cls : Value) (d : Option Addr) (pn : List (Addr × Obj)), Zc cls d oe → (∃ vs, oe.data = .fields vs) → PSs (X.suite a ((a, oe) :: pn)) (b :: r) (ts a cls d)) (more : Clauses X hds l) :
      Clauses X (.ExceptHandler (some (.Name x np)) (some n) (b :: r) hp :: hds) ((c, i, ts) :: l)
section
variable {X : Cx} {body : List Stmt} {h₀ : ExceptHandler} {hds : List ExceptHandler} {l : List Cl} {pos : Pos} {tb : WX → TS} {Wout : WX}
theorem ps_try_names (hs : X.stack = X.env :: X.outer) (hf : X.env.frame = some X.env.locals) (hN : X.N.Nodup) (tk : Takes X Wout)
    (hb : ∀ (W : WX) (pn : List (Addr × Obj)) (xe : Value → Shared → Prop), Takes (X.tr pn xe) W → PassesOwn (model X.prog X.w) X.A X.env xe → PSs (X.tr pn xe) body (tb W))
    (cl : Clauses X (h₀ :: hds) l) : PS X (.Try body (h₀ :: hds) [] [] pos) (fun D σ H => tb (wLen X.N.length (wNames X.K Wout D l)) D σ H) := by
  refine ⟨fun pins s σ H D I h => ?_⟩
  have ok := I.ok
  have frames : X.A.frames = some (X.env :: X.outer) := by rw [ok.frames, hs]
  refine wpAny_Try_except ?_
  have run := (hb (wLen X.N.length (wNames X.K Wout D l)) (X.pn ++ pins) (fun e t => wpAny (model X.prog X.w) X.A (noteFrame e X.env) (fun _ t2 => wpAny (model X.prog X.w) X.A (setFlight e none) (fun _ t3 =>
    wpAny (model X.prog X.w) X.A (handleBy e X.env (h₀ :: hds)) (SP X pins D) X.xe t3) X.xe t2) X.xe t) (fun u s' xx => ?_) PassesOwn.looking).run [] s σ H D (I.toTry _) h
  · refine wpAny_mono run (fun f s1 e => ?_) (fun e s1 he => he)
    cases f with
    | next =>
      obtain ⟨σ', H', J', q⟩ := e
      exact wpAny_execs_nil ⟨σ', H', J'.ofTry ok, q⟩
    | brk =>
      obtain ⟨σ', H', J', q⟩ := e
      exact ⟨σ', H', J'.ofTry ok, q⟩
    | cont =>
      obtain ⟨σ', H', J', q⟩ := e
      exact ⟨σ', H', J'.ofTry ok, q⟩
    | ret u =>
      obtain ⟨v, σ', H', J', r, q⟩ := e
      exact ⟨v, σ', H', J'.ofTry ok, r, q⟩
  · obtain ⟨a, B, sI, pins', σ', H', cls, d, rfl, J', nb, up, sky, na, os, ag, w⟩ := xx
    have J : Inv X pins σ' H' sI := J'.ofTry ok
    have sky' : Sky B (X.env :: X.outer) a (Zc cls d) X.env.locals s'.heap := by rw [← hs]; exact sky
    show wpAny (model X.prog X.w) X.A (noteFrame (.ref a) X.env) _ _ _
    refine Sky.land Zc.steady frames hf sky' fun h3 fl3 up3 => ?_
    have J3 : Inv X pins σ' H' { s' with heap := h3 } := J.landed nb fl3.1 (up.trans up3) os ag
    obtain ⟨oe, vs, he, hz, hd⟩ := fl3.there
    have away : a ∉ frs (X.env :: X.outer) := fun hm => by
      obtain ⟨_, o', e', no⟩ := fl3.2.2.1.mem hm
      rw [he] at e'; cases e'
      exact no _ hd
    have nL : a ≠ X.env.locals := fun z => away (List.mem_filterMap.mpr ⟨X.env, List.mem_cons_self, by rw [hf, z]⟩)
    have nF : a ∉ X.fs := fun hm => by
      obtain ⟨e, m, q⟩ := List.mem_filterMap.mp hm
      exact away (List.mem_filterMap.mpr ⟨e, List.mem_cons_of_mem _ m, q⟩)
    have S3 := J3.suite he hd na nL nF
    have looks : PySem.W.Looks (model X.prog X.w) h3 (typeOf (.ref a)) cls := fun A Q E s k q => wpAny_typeOf_ref (k _ _ he) (by rw [hz.1]; exact q)
    suffices go : ∀ {hs' : List ExceptHandler} {l' : List Cl}, Clauses X hs' l' → wNames X.K Wout D l' cls d σ' H' → wpAny (model X.prog X.w) X.A (handleBy (.ref a) X.env hs') (SP X pins D) X.xe { s' with heap := h3 } from go cl (w J.len)
    intro hs' l' k
    induction k with
    | nil =>
      intro w
      refine wpAny_handleBy_nil ?_
      obtain ⟨k1, k2, k3, oe2, vs2, T, oT, ts', he2, hz2, hd2, h1, hr⟩ := id fl3
      unfold PySem.passOn
      refine wpAny_bind (wpAny_field he2 hd2 h1 ?_)
      rw [if_neg (show ¬ ((Value.ref T == Value.none) = true) from by simp)]
      have out : wpAny (model X.prog X.w) X.A (setFlight (.ref a) X.env.frame) (fun _ s4 => wpAny (model X.prog X.w) X.A (throw (.ref a) : Sem Flow) (SP X pins D) X.xe s4) X.xe { s' with heap := h3 } := by
        rw [hf]
        refine HandSPX.setFlight_upZ fl3 fun h4 hh4 up4 => wpAny_throw (tk _ _ ?_)
        exact ⟨a, B, sI, pins, σ', H', cls, d, rfl, J, nb, (up.trans up3).trans up4, .inr (.inr (by rw [hs]; exact hh4)), na, os, ag, w⟩
      first
        | exact wpAny_bind (wpAny_pure (wpAny_bind out))
        | exact wpAny_bind out
    | @cons x n c i ts b r np hp hds2 l2 hi hn hc suite more ih =>
      intro w
      obtain ⟨t, ht, yes, no⟩ := w
      refine wpAny_handleBy_cons (codeAny_handlers_test ?_) (by intro q; cases q)
      have LM := PySem.W.exm_one (M := model X.prog X.w) (J3.kIn) looks ht
      have test : ∀ {Q : Value → Shared → Prop} {E : Value → Shared → Prop}, Q c { s' with heap := h3 } → wpAny (model X.prog X.w) (X.A.mark (some (.ref a))) (eval (.Name x np) X.env) Q E { s' with heap := h3 } := fun {Q E} q => by
        obtain ⟨g, db, hm | ⟨hm, hv, nn⟩⟩ := hc
        · exact ld_glob (X := X.suite a ((a, oe) :: (X.pn ++ pins))) S3 g hm q db
        · exact ld_blt (X := X.suite a ((a, oe) :: (X.pn ++ pins))) S3 g hm hv q nn db
      refine test (LM.here ?_)
      cases t with
      | false => exact ih (no rfl)
      | true =>
        refine codeAny_handlers_suite_as ?_
        refine HandSPX.lands_againZ fl3 fun h4 fl4 up4 => ?_
        have J4 : Inv X pins σ' H' { s' with heap := h4 } := J.landed nb fl4.1 ((up.trans up3).trans up4) os ag
        obtain ⟨oe4, vs4, he4, hz4, hd4⟩ := fl4.there
        have S4 := J4.suite he4 hd4 na nL nF
        refine store_ok (X := X.suite a ((a, oe4) :: (X.pn ++ pins))) (v := .ref a) S4 hN hi (.inl hn) rfl (fun s5 S5 => ?_) (.inr hn)
        refine wpAny_mono ((suite a oe4 cls d (X.pn ++ pins) hz4 ⟨_, hd4⟩).run [] s5 _ H' _ S5 (yes rfl a na)) (fun f s6 e => ?_) (fun _ _ z => False.elim z)
        cases f with
        | next =>
          obtain ⟨σ6, H6, S6, q6⟩ := e
          exact gone_ok (S6.unsuite ok) hN hi hn fun s7 J7 => ⟨_, _, J7, q6⟩
        | brk =>
          obtain ⟨σ6, H6, S6, q6⟩ := e
          exact gone_ok (S6.unsuite ok) hN hi hn fun s7 J7 => ⟨_, _, J7, q6⟩
        | cont =>
          obtain ⟨σ6, H6, S6, q6⟩ := e
          exact gone_ok (S6.unsuite ok) hN hi hn fun s7 J7 => ⟨_, _, J7, q6⟩
        | ret u =>
          obtain ⟨v6, σ6, H6, S6, r6, q6⟩ := e
          exact gone_ok (S6.unsuite ok) hN hi hn fun s7 J7 => ⟨_, _, _, J7, r6, q6⟩
end
end TM

namespace LW
open PySem PySem.Spec PyProof.Rows L2 GL
def top (i : Nat) : Stmt := PySem.Challenge.pw_flowpapers_k01_whole_ratios.main.body.getD i (.Pass ⟨0, 0, 0, 0⟩)
abbrev sis_ratio : Stmt := top 7
theorem scis_ratio : FnScope ["value"] ["value"] (defScope sis_ratio) := ⟨rfl, rfl, rfl, by decide +kernel, rfl, by decide +kernel, by decide +kernel⟩
abbrev stold : Stmt := top 8
theorem sctold : FnScope ["value", "what", "top", "bottom"] ["value", "what"] (defScope stold) := ⟨rfl, rfl, rfl, by decide +kernel, rfl, by decide +kernel, by decide +kernel⟩
abbrev splus : Stmt := top 9
theorem scplus : FnScope ["one", "other", "top", "bottom", "other_top", "other_bottom"] ["one", "other"] (defScope splus) := ⟨rfl, rfl, rfl, by decide +kernel, rfl, by decide +kernel, by decide +kernel⟩
abbrev sminus : Stmt := top 10
theorem scminus : FnScope ["one", "other", "top", "bottom", "other_top", "other_bottom"] ["one", "other"] (defScope sminus) := ⟨rfl, rfl, rfl, by decide +kernel, rfl, by decide +kernel, by decide +kernel⟩
abbrev stimes : Stmt := top 11
theorem sctimes : FnScope ["one", "other", "top", "bottom", "other_top", "other_bottom"] ["one", "other"] (defScope stimes) := ⟨rfl, rfl, rfl, by decide +kernel, rfl, by decide +kernel, by decide +kernel⟩
abbrev sshare : Stmt := top 12
theorem scshare : FnScope ["one", "other", "top", "bottom", "other_top", "other_bottom"] ["one", "other"] (defScope sshare) := ⟨rfl, rfl, rfl, by decide +kernel, rfl, by decide +kernel, by decide +kernel⟩
abbrev slower : Stmt := top 13
theorem sclower : FnScope ["one", "other", "top", "bottom", "other_top", "other_bottom"] ["one", "other"] (defScope slower) := ⟨rfl, rfl, rfl, by decide +kernel, rfl, by decide +kernel, by decide +kernel⟩
abbrev sfloor_of : Stmt := top 14
theorem scfloor_of : FnScope ["value", "top", "bottom"] ["value"] (defScope sfloor_of) := ⟨rfl, rfl, rfl, by decide +kernel, rfl, by decide +kernel, by decide +kernel⟩
abbrev sratio_text : Stmt := top 15
theorem scratio_text : FnScope ["value", "top", "bottom", "sign", "text"] ["value"] (defScope sratio_text) := ⟨rfl, rfl, rfl, by decide +kernel, rfl, by decide +kernel, by decide +kernel⟩
abbrev sis_integer : Stmt := top 16
theorem scis_integer : FnScope ["value"] ["value"] (defScope sis_integer) := ⟨rfl, rfl, rfl, by decide +kernel, rfl, by decide +kernel, by decide +kernel⟩
abbrev s_parts : Stmt := top 17
theorem sc_parts : FnScope ["value", "what"] ["value", "what"] (defScope s_parts) := ⟨rfl, rfl, rfl, by decide +kernel, rfl, by decide +kernel, by decide +kernel⟩
abbrev s_lowest : Stmt := top 18
theorem sc_lowest : FnScope ["top", "bottom", "divisor"] ["top", "bottom"] (defScope s_lowest) := ⟨rfl, rfl, rfl, by decide +kernel, rfl, by decide +kernel, by decide +kernel⟩
abbrev s_digits : Stmt := top 19
theorem sc_digits : FnScope ["number", "piece", "texts", "low"] ["number"] (defScope s_digits) := ⟨rfl, rfl, rfl, by decide +kernel, rfl, by decide +kernel, by decide +kernel⟩
abbrev s_law_pen : Stmt := top 21
theorem sc_law_pen : FnScope ["_law_script", "_law_fold", "_law_cell"] ["_law_script"] (defScope s_law_pen) := ⟨rfl, rfl, rfl, by decide +kernel, rfl, by decide +kernel, by decide +kernel⟩
abbrev s_law_draw : Stmt := top 22
theorem sc_law_draw : FnScope ["_law_pen_here", "_law_many", "_law_cell", "_law_digit", "_law_mixed"] ["_law_pen_here", "_law_many"] (defScope s_law_draw) := ⟨rfl, rfl, rfl, by decide +kernel, rfl, by decide +kernel, by decide +kernel⟩
abbrev s_law_pick : Stmt := top 23
theorem sc_law_pick : FnScope ["_law_pen_here", "_law_some"] ["_law_pen_here", "_law_some"] (defScope s_law_pick) := ⟨rfl, rfl, rfl, by decide +kernel, rfl, by decide +kernel, by decide +kernel⟩
abbrev s_law_is_whole : Stmt := top 24
theorem sc_law_is_whole : FnScope ["_law_thing"] ["_law_thing"] (defScope s_law_is_whole) := ⟨rfl, rfl, rfl, by decide +kernel, rfl, by decide +kernel, by decide +kernel⟩
abbrev s_law_gcd : Stmt := top 25
theorem sc_law_gcd : FnScope ["_law_one", "_law_two", "_law_lap"] ["_law_one", "_law_two"] (defScope s_law_gcd) := ⟨rfl, rfl, rfl, by decide +kernel, rfl, by decide +kernel, by decide +kernel⟩
abbrev s_law_q : Stmt := top 26
theorem sc_law_q : FnScope ["_law_top", "_law_bottom", "_law_by"] ["_law_top", "_law_bottom"] (defScope s_law_q) := ⟨rfl, rfl, rfl, by decide +kernel, rfl, by decide +kernel, by decide +kernel⟩
abbrev s_law_plus : Stmt := top 27
theorem sc_law_plus : FnScope ["_law_one", "_law_two"] ["_law_one", "_law_two"] (defScope s_law_plus) := ⟨rfl, rfl, rfl, by decide +kernel, rfl, by decide +kernel, by decide +kernel⟩
abbrev s_law_minus : Stmt := top 28
theorem sc_law_minus : FnScope ["_law_one", "_law_two"] ["_law_one", "_law_two"] (defScope s_law_minus) := ⟨rfl, rfl, rfl, by decide +kernel, rfl, by decide +kernel, by decide +kernel⟩
abbrev s_law_times : Stmt := top 29
theorem sc_law_times : FnScope ["_law_one", "_law_two"] ["_law_one", "_law_two"] (defScope s_law_times) := ⟨rfl, rfl, rfl, by decide +kernel, rfl, by decide +kernel, by decide +kernel⟩
abbrev s_law_share : Stmt := top 30
theorem sc_law_share : FnScope ["_law_one", "_law_two"] ["_law_one", "_law_two"] (defScope s_law_share) := ⟨rfl, rfl, rfl, by decide +kernel, rfl, by decide +kernel, by decide +kernel⟩
abbrev s_law_less : Stmt := top 31
theorem sc_law_less : FnScope ["_law_one", "_law_two"] ["_law_one", "_law_two"] (defScope s_law_less) := ⟨rfl, rfl, rfl, by decide +kernel, rfl, by decide +kernel, by decide +kernel⟩
abbrev s_law_passed : Stmt := top 32
theorem sc_law_passed : FnScope ["_law_pen_here", "_law_ratio", "_law_by"] ["_law_pen_here", "_law_ratio"] (defScope s_law_passed) := ⟨rfl, rfl, rfl, by decide +kernel, rfl, by decide +kernel, by decide +kernel⟩
abbrev s_law_why : Stmt := top 33
theorem sc_law_why : FnScope ["_law_call", "e"] ["_law_call"] (defScope s_law_why) := ⟨rfl, rfl, rfl, by decide +kernel, rfl, by decide +kernel, by decide +kernel⟩
abbrev s_law_is : Stmt := top 34
theorem sc_law_is : FnScope ["_law_value", "_law_due"] ["_law_value", "_law_due"] (defScope s_law_is) := ⟨rfl, rfl, rfl, by decide +kernel, rfl, by decide +kernel, by decide +kernel⟩
abbrev s_law_any : Stmt := top 35
theorem sc_law_any : FnScope ["_law_pen_here", "_law_some"] ["_law_pen_here"] (defScope s_law_any) := ⟨rfl, rfl, rfl, by decide +kernel, rfl, by decide +kernel, by decide +kernel⟩
abbrev s_law_far : Stmt := top 36
theorem sc_law_far : FnScope ["_law_pen_here", "_law_found", "_law_k"] ["_law_pen_here"] (defScope s_law_far) := ⟨rfl, rfl, rfl, by decide +kernel, rfl, by decide +kernel, by decide +kernel⟩
abbrev s_law_some_ratio : Stmt := top 37
theorem sc_law_some_ratio : FnScope ["_law_pen_here"] ["_law_pen_here"] (defScope s_law_some_ratio) := ⟨rfl, rfl, rfl, by decide +kernel, rfl, by decide +kernel, by decide +kernel⟩
abbrev s_law_refused_right : Stmt := top 38
theorem sc_law_refused_right : FnScope ["_law_pen_here", "_law_a", "_law_odd", "_law_more", "_law_zero", "_law_call"] ["_law_pen_here", "_law_a"] (defScope s_law_refused_right) := ⟨rfl, rfl, rfl, by decide +kernel, rfl, by decide +kernel, by decide +kernel⟩
abbrev slaw : Stmt := top 39
theorem sclaw : FnScope ["_law_script", "_law_pen_here", "_law_lap", "_law_one", "_law_two", "_law_a", "_law_b", "_law_kept", "_law_whole"] ["_law_script"] (defScope slaw) := ⟨rfl, rfl, rfl, by decide +kernel, rfl, by decide +kernel, by decide +kernel⟩
/-! ### the pen -/
abbrev kCe : Key := Sum.inr ("cells" : Str)
abbrev kAt : Key := Sum.inr ("at" : Str)
abbrev kDi : Key := Sum.inr ("digits" : Str)
abbrev kCo : Key := Sum.inr ("count" : Str)
abbrev kFo : Key := Sum.inr ("fold" : Str)
def penK (c : Addr) (a d n f : Int) : List (Key × V) := [(kCe, .ref c), (kAt, .int a), (kDi, .int d), (kCo, .int n), (kFo, .int f)]
theorem sneCeAt : ¬ (("cells" : Str) = "at") := by decide +kernel
theorem neCeAt : ¬ (kCe = kAt) := by decide +kernel
theorem sneCeDi : ¬ (("cells" : Str) = "digits") := by decide +kernel
theorem neCeDi : ¬ (kCe = kDi) := by decide +kernel
theorem sneCeCo : ¬ (("cells" : Str) = "count") := by decide +kernel
theorem neCeCo : ¬ (kCe = kCo) := by decide +kernel
theorem sneCeFo : ¬ (("cells" : Str) = "fold") := by decide +kernel
theorem neCeFo : ¬ (kCe = kFo) := by decide +kernel
theorem sneAtCe : ¬ (("at" : Str) = "cells") := by decide +kernel
theorem neAtCe : ¬ (kAt = kCe) := by decide +kernel
theorem sneAtDi : ¬ (("at" : Str) = "digits") := by decide +kernel
theorem neAtDi : ¬ (kAt = kDi) := by decide +kernel
theorem sneAtCo : ¬ (("at" : Str) = "count") := by decide +kernel
theorem neAtCo : ¬ (kAt = kCo) := by decide +kernel
theorem sneAtFo : ¬ (("at" : Str) = "fold") := by decide +kernel
theorem neAtFo : ¬ (kAt = kFo) := by decide +kernel
theorem sneDiCe : ¬ (("digits" : Str) = "cells") := by decide +kernel
theorem neDiCe : ¬ (kDi = kCe) := by decide +kernel
theorem sneDiAt : ¬ (("digits" : Str) = "at") := by decide +kernel
theorem neDiAt : ¬ (kDi = kAt) := by decide +kernel
theorem sneDiCo : ¬ (("digits" : Str) = "count") := by decide +kernel
theorem neDiCo : ¬ (kDi = kCo) := by decide +kernel
theorem sneDiFo : ¬ (("digits" : Str) = "fold") := by decide +kernel
theorem neDiFo : ¬ (kDi = kFo) := by decide +kernel
theorem sneCoCe : ¬ (("count" : Str) = "cells") := by decide +kernel
theorem neCoCe : ¬ (kCo = kCe) := by decide +kernel
theorem sneCoAt : ¬ (("count" : Str) = "at") := by decide +kernel
theorem neCoAt : ¬ (kCo = kAt) := by decide +kernel
theorem sneCoDi : ¬ (("count" : Str) = "digits") := by decide +kernel
theorem neCoDi : ¬ (kCo = kDi) := by decide +kernel
theorem sneCoFo : ¬ (("count" : Str) = "fold") := by decide +kernel
theorem neCoFo : ¬ (kCo = kFo) := by decide +kernel
theorem sneFoCe : ¬ (("fold" : Str) = "cells") := by decide +kernel
theorem neFoCe : ¬ (kFo = kCe) := by decide +kernel
theorem sneFoAt : ¬ (("fold" : Str) = "at") := by decide +kernel
theorem neFoAt : ¬ (kFo = kAt) := by decide +kernel
theorem sneFoDi : ¬ (("fold" : Str) = "digits") := by decide +kernel
theorem neFoDi : ¬ (kFo = kDi) := by decide +kernel
theorem sneFoCo : ¬ (("fold" : Str) = "count") := by decide +kernel
theorem neFoCo : ¬ (kFo = kCo) := by decide +kernel
theorem pen_cells {c : Addr} {a d n f : Int} : valV (penK c a d n f) kCe = some (.ref c) := by
  unfold penK
  rw [valV_pos rfl]
theorem pen_at {c : Addr} {a d n f : Int} : valV (penK c a d n f) kAt = some (.int a) := by
  unfold penK
  rw [valV_neg neCeAt, valV_pos rfl]
theorem pen_digits {c : Addr} {a d n f : Int} : valV (penK c a d n f) kDi = some (.int d) := by
  unfold penK
  rw [valV_neg neCeDi, valV_neg neAtDi, valV_pos rfl]
theorem pen_count {c : Addr} {a d n f : Int} : valV (penK c a d n f) kCo = some (.int n) := by
  unfold penK
  rw [valV_neg neCeCo, valV_neg neAtCo, valV_neg neDiCo, valV_pos rfl]
theorem pen_fold {c : Addr} {a d n f : Int} : valV (penK c a d n f) kFo = some (.int f) := by
  unfold penK
  rw [valV_neg neCeFo, valV_neg neAtFo, valV_neg neDiFo, valV_neg neCoFo, valV_pos rfl]
theorem put_at {c : Addr} {a d n f x : Int} : putK (penK c a d n f) kAt (.int x) = penK c x d n f := by
  simp [putK, penK, sneCeAt, sneDiAt, sneCoAt, sneFoAt]
theorem put_digits {c : Addr} {a d n f x : Int} : putK (penK c a d n f) kDi (.int x) = penK c a x n f := by
  simp [putK, penK, sneCeDi, sneAtDi, sneCoDi, sneFoDi]
theorem put_count {c : Addr} {a d n f x : Int} : putK (penK c a d n f) kCo (.int x) = penK c a d x f := by
  simp [putK, penK, sneCeCo, sneAtCo, sneDiCo, sneFoCo]
theorem put_fold {c : Addr} {a d n f x : Int} : putK (penK c a d n f) kFo (.int x) = penK c a d n x := by
  simp [putK, penK, sneCeFo, sneAtFo, sneDiFo, sneCoFo]
theorem merge_pen {c : Addr} {f : Int} : mergeK [] (penK c 0 0 0 f) = penK c 0 0 0 f := by
  simp [mergeK, putK, penK, sneCeAt, sneCeDi, sneCeCo, sneCeFo, sneAtDi, sneAtCo, sneAtFo, sneDiCo, sneDiFo, sneCoFo]
/-- a pen stands at p: at most m draws were made -/
def PenAt (H : Hp) (p c : Addr) (m : Nat) : Prop := ∃ (a d n f : Int) (ns : List Int), H p = some (.dK (penK c a d n f)) ∧ H c = some (.lst (ns.map V.int)) ∧
  0 ≤ a ∧ a ≤ ns.length ∧ 0 ≤ d ∧ 0 ≤ n ∧ n ≤ m ∧ 0 ≤ f ∧ f < 2147483587
theorem PenAt.le {H : Hp} {p c : Addr} {m m' : Nat} (h : PenAt H p c m) (l : m ≤ m') : PenAt H p c m' := by
  obtain ⟨a, d, n, f, ns, h1, h2, h3, h4, h5, h6, h7, h8⟩ := h
  exact ⟨a, d, n, f, ns, h1, h2, h3, h4, h5, h6, by omega, h8⟩
/-- all that stood stands, but what the pen's own dict holds -/
def But (p : Addr) (H H' : Hp) : Prop := ∀ b o, H b = some o → b ≠ p → H' b = some o
theorem But.refl {p : Addr} {H : Hp} : But p H H := fun _ _ h _ => h
theorem But.trans {p : Addr} {H H1 H2 : Hp} (a : But p H H1) (b : But p H1 H2) : But p H H2 := fun c o h n => b c o (a c o h n) n
theorem But.of {p : Addr} {H H' : Hp} (a : Same H H') : But p H H' := fun b o h _ => a b o h
/-- a list of its own may change -/
theorem PenAt.off {H H' : Hp} {p c : Addr} {m : Nat} (h : PenAt H p c m) (s1 : ∀ o, H p = some o → H' p = some o) (s2 : ∀ o, H c = some o → H' c = some o) : PenAt H' p c m := by
  obtain ⟨a, d, n, f, ns, h1, h2, h3⟩ := h
  exact ⟨a, d, n, f, ns, s1 _ h1, s2 _ h2, h3⟩
theorem Same.new {H : Hp} {p : Addr} {o : HO} (h : H p = none) : Same H (upd H p o) := fun b u e => by
  rw [upd_ne (ne_of_none e h)]
  exact e
theorem PenAt.same {H H' : Hp} {p c : Addr} {m : Nat} (h : PenAt H p c m) (s : Same H H') : PenAt H' p c m := by
  obtain ⟨a, d, n, f, ns, h1, h2, h3⟩ := h
  exact ⟨a, d, n, f, ns, s _ _ h1, s _ _ h2, h3⟩

/-! ### what they promise -/
def spPen (K : PySem.W.Frag) : Sp := fun vs H Q _ => ∃ (a : Addr) (ns : List Int), vs = [.ref a] ∧ SqL K H a (ns.map V.int) ∧ ns.length ≤ 63 ∧ ∀ (p c : Addr) (H' : Hp), Same H H' → PenAt H' p c 0 → Q (.ref p) H'
/-- the number of draws that may have been made -/
def most : Nat := 1000000000
def spDraw : Sp := fun vs H Q _ => ∃ (p c : Addr) (many : Int) (m : Nat), vs = [.ref p, .int many] ∧ PenAt H p c m ∧ m < most ∧ 0 < many ∧ many < 1000000000 ∧
  ∀ (r : Int) (H' : Hp), 0 ≤ r → r < many → But p H H' → PenAt H' p c (m + 1) → Q (.int r) H'

structure Txt (K : PySem.W.Frag) (mg : Str → Option Value) : Prop where
  int : mg "int" = none
  bool : mg "bool" = none
  list : mg "list" = none
  tuple : mg "tuple" = none
  len : mg "len" = none
  range : mg "range" = none
  str : mg "str" = none
  isinstance : mg "isinstance" = none
  repr : mg "repr" = none
  abs : mg "abs" = none
  divmod : mg "divmod" = none
  gcd : mg "gcd" = some (.builtin "math.gcd")
  is_ratio : Df K mg "is_ratio" sis_ratio ["value"]
  told : Df K mg "told" stold ["value", "what"]
  plus : Df K mg "plus" splus ["one", "other"]
  minus : Df K mg "minus" sminus ["one", "other"]
  times : Df K mg "times" stimes ["one", "other"]
  share : Df K mg "share" sshare ["one", "other"]
  lower : Df K mg "lower" slower ["one", "other"]
  floor_of : Df K mg "floor_of" sfloor_of ["value"]
  ratio_text : Df K mg "ratio_text" sratio_text ["value"]
  is_integer : Df K mg "is_integer" sis_integer ["value"]
  _parts : Df K mg "_parts" s_parts ["value", "what"]
  _lowest : Df K mg "_lowest" s_lowest ["top", "bottom"]
  _digits : Df K mg "_digits" s_digits ["number"]
  _law_pen : Df K mg "_law_pen" s_law_pen ["_law_script"]
  _law_draw : Df K mg "_law_draw" s_law_draw ["_law_pen_here", "_law_many"]
  _law_pick : Df K mg "_law_pick" s_law_pick ["_law_pen_here", "_law_some"]
  _law_is_whole : Df K mg "_law_is_whole" s_law_is_whole ["_law_thing"]
  _law_gcd : Df K mg "_law_gcd" s_law_gcd ["_law_one", "_law_two"]
  _law_q : Df K mg "_law_q" s_law_q ["_law_top", "_law_bottom"]
  _law_plus : Df K mg "_law_plus" s_law_plus ["_law_one", "_law_two"]
  _law_minus : Df K mg "_law_minus" s_law_minus ["_law_one", "_law_two"]
  _law_times : Df K mg "_law_times" s_law_times ["_law_one", "_law_two"]
  _law_share : Df K mg "_law_share" s_law_share ["_law_one", "_law_two"]
  _law_less : Df K mg "_law_less" s_law_less ["_law_one", "_law_two"]
  _law_passed : Df K mg "_law_passed" s_law_passed ["_law_pen_here", "_law_ratio"]
  _law_why : Df K mg "_law_why" s_law_why ["_law_call"]
  _law_is : Df K mg "_law_is" s_law_is ["_law_value", "_law_due"]
  _law_any : Df K mg "_law_any" s_law_any ["_law_pen_here"]
  _law_far : Df K mg "_law_far" s_law_far ["_law_pen_here"]
  _law_some_ratio : Df K mg "_law_some_ratio" s_law_some_ratio ["_law_pen_here"]
  _law_refused_right : Df K mg "_law_refused_right" s_law_refused_right ["_law_pen_here", "_law_a"]
  law : Df K mg "law" slaw ["_law_script"]
  BadText : ClI K mg "BadText" "BadText.__init__" (inClass (top 3) 0) ["self", "column"] ["column"]
  BadNumber : ClI K mg "BadNumber" "BadNumber.__init__" (inClass (top 4) 0) ["self", "what", "number"] ["what", "number"]
  BadRow : ClI K mg "BadRow" "BadRow.__init__" (inClass (top 5) 0) ["self", "row"] ["row"]
  xBadNumberBadText : PySem.W.exmOne K (.ref (fA mg "BadNumber")) (.ref (fA mg "BadText")) = some false
  xBadNumberBadNumber : PySem.W.exmOne K (.ref (fA mg "BadNumber")) (.ref (fA mg "BadNumber")) = some true
  lb : ∀ (s : PySem.Shared) (u : PySem.Value), BindsTo s (fDat K (fA mg "law")) ⟨[u], []⟩ [("_law_script", u)]
section
variable {P : Program} {w : World} {K : PySem.W.Frag} {mg : Str → Option Value} {base : Heap}
theorem scI_BadNumber : FnScope ["self", "what", "number"] ["self", "what", "number"] (defScope (inClass (top 4) 0)) := ⟨rfl, rfl, rfl, by decide +kernel, rfl, by decide +kernel, by decide +kernel⟩
theorem init_BadNumber (T : Txt K mg) : FnOk P w K mg base CX0 1 (iA K (fA mg "BadNumber")) (fDat K (iA K (fA mg "BadNumber"))) ["self", "what", "number"] (spI2 (fA mg "BadNumber") "what" "number") := by
  refine T.BadNumber.F.ok scI_BadNumber (fun vs H Q E h => ?_) (fun cdv A outer s H vs Q E hr h => ?_)
  · obtain ⟨a, v, u, rfl, _⟩ := h
    rfl
  · obtain ⟨a, v, u, rfl, ha, k⟩ := h
    refine ⟨_, pss_cons (ps_ost (pv 0) (pv 1)) (pss_one (ps_ost (pv 0) (pv 2))), s_ost1 T.BadNumber.o (T.BadNumber.n _ (by simp)) ha rfl rfl fun dx hd ne => ?_⟩
    exact s_ost2 T.BadNumber.o (T.BadNumber.n _ (by simp)) upd_same (by rw [upd_ne ne, upd_same]) rfl rfl (k dx hd ne)

/-! ### kinds of values -/
def kinds : List String := ["int", "bool", "str", "NoneType", "dict", "list", "tuple"]
theorem kit_int {n : String} (h : n ∈ kinds) : PySem.W.kitOne K (.type n) (.type "int") = some (decide (n = "int") || decide (n = "bool")) := by
  simp only [kinds, List.mem_cons, List.not_mem_nil, or_false] at h
  rcases h with rfl | rfl | rfl | rfl | rfl | rfl | rfl <;> exact kit_ty (by decide +kernel)
theorem kit_bool {n : String} (h : n ∈ kinds) : PySem.W.kitOne K (.type n) (.type "bool") = some (decide (n = "bool")) := by
  simp only [kinds, List.mem_cons, List.not_mem_nil, or_false] at h
  rcases h with rfl | rfl | rfl | rfl | rfl | rfl | rfl <;> exact kit_ty (by decide +kernel)
theorem kit_tuple {n : String} (h : n ∈ kinds) : PySem.W.kitOne K (.type n) (.type "tuple") = some (decide (n = "tuple")) := by
  simp only [kinds, List.mem_cons, List.not_mem_nil, or_false] at h
  rcases h with rfl | rfl | rfl | rfl | rfl | rfl | rfl <;> exact kit_ty (by decide +kernel)
theorem kit_list {n : String} (h : n ∈ kinds) : PySem.W.kitOne K (.type n) (.type "list") = some (decide (n = "list")) := by
  simp only [kinds, List.mem_cons, List.not_mem_nil, or_false] at h
  rcases h with rfl | rfl | rfl | rfl | rfl | rfl | rfl <;> exact kit_ty (by decide +kernel)
theorem kit_seq {n : String} (h : n ∈ kinds) : PySem.W.kitAny K (.type n) [.type "tuple", .type "list"] = some (decide (n = "tuple") || decide (n = "list")) := by
  refine kitAny_cons (kit_tuple h) (fun e => ?_) (fun e => by rw [e]; rfl)
  rw [e]
  exact kitAny_cons (kit_list h) (fun e2 => by rw [e2]; rfl) (fun e2 => by rw [e2]; rfl)
/-- a value's kind, by its name -/
inductive Is (H : Hp) : V → String → Prop
  | int (i : Int) : Is H (.int i) "int"
  | bl (b : Bool) : Is H (.bl b) "bool"
  | str (x : Str) : Is H (.str x) "str"
  | non : Is H .non "NoneType"
  | lst {a : Addr} {xs : List V} (e : H a = some (.lst xs)) : Is H (.ref a) "list"
  | tup {a : Addr} {xs : List V} (e : H a = some (.tup xs)) : Is H (.ref a) "tuple"
  | dic {a : Addr} {kvs : List (Key × V)} (e : H a = some (.dK kvs)) : Is H (.ref a) "dict"
theorem Is.ty {K : PySem.W.Frag} {H : Hp} {v : V} {n : String} (h : Is H v n) : TyX K H v (.type n) ∧ n ∈ kinds := by
  cases h with
  | int i => exact ⟨.base (.int i), by decide⟩
  | bl b => exact ⟨.base (.bl b), by decide⟩
  | str x => exact ⟨.base (.str x), by decide⟩
  | non => exact ⟨.base .non, by decide⟩
  | lst e => exact ⟨.base (.lst e), by decide⟩
  | tup e => exact ⟨.base (.tup e), by decide⟩
  | dic e => exact ⟨.base (.dK e), by decide⟩
theorem Is.same {H H' : Hp} {v : V} {n : String} (h : Is H v n) (s : Same H H') : Is H' v n := by
  cases h with
  | int i => exact .int i
  | bl b => exact .bl b
  | str x => exact .str x
  | non => exact .non
  | lst e => exact .lst (s _ _ e)
  | tup e => exact .tup (s _ _ e)
  | dic e => exact .dic (s _ _ e)
theorem v_isi {σ : L2.St} {H : Hp} {te : TE} {v : V} {n c : String} {b : Bool} (h : Val te σ H v) (ty : TyX K H v (.type n)) (k : PySem.W.kitOne K (.type n) (.type c) = some b) :
    Val (tCB (rIsi K) (tCons te (tCons (tC (.ty c)) tNil))) σ H (.bl b) := v_cb (va_cons h (va_cons val_c va_nil)) fun Q q => ⟨v, _, _, _, b, rfl, .ty c, ty, k, q⟩
def spInt : Sp := fun vs H Q _ => ∃ (v : V) (n : String), vs = [v] ∧ Is H v n ∧ Q (.bl (decide (n = "int"))) H
theorem ok_is_integer (T : Txt K mg) : FnOk P w K mg base CX0 1 (fA mg "is_integer") (fDat K (fA mg "is_integer")) ["value"] spInt := by
  refine T.is_integer.F.ok scis_integer (fun vs H Q E h => ?_) (fun cdv A outer s H vs Q E hr h => ?_)
  · obtain ⟨v, n, rfl, _⟩ := h
    rfl
  · obtain ⟨v, n, rfl, is, k⟩ := h
    obtain ⟨ty, hn⟩ := is.ty (K := K)
    refine ⟨_, (pss_one (ps_ret (pe_and (pe_callB call_isi (by rfl) T.isinstance (by decide +kernel) (pa_cons (pv 0) (pa_cons (pe_bltn (v := .ty "int") (by rfl) T.int (by decide +kernel) rfl) pa_nil))) (pe_one (pe_not (pe_callB call_isi (by rfl) T.isinstance (by decide +kernel) (pa_cons (pv 0) (pa_cons (pe_bltn (v := .ty "bool") (by rfl) T.bool (by decide +kernel) rfl) pa_nil)))))))), ?_⟩
    refine r_ret ?_
    refine (v_isi (val_var rfl) ty (kit_int hn)) _ ?_
    refine ⟨_, rfl, ?_⟩
    by_cases h1 : n = "int"
    · subst h1
      refine iteT ?_
      refine (v_isi (val_var rfl) ty (kit_bool hn)) _ ?_
      exact ⟨_, rfl, k⟩
    · by_cases h2 : n = "bool"
      · subst h2
        refine iteT ?_
        refine (v_isi (val_var rfl) ty (kit_bool hn)) _ ?_
        exact ⟨_, rfl, k⟩
      · have e : (decide (n = "int") || decide (n = "bool")) = false := by simp [h1, h2]
        rw [e]
        refine iteF ?_
        rw [decide_eq_false h1] at k
        exact k

/-! ### is_ratio -/
/-- a list or a tuple stands at a -/
def Sq (H : Hp) (a : Addr) (xs : List V) : Prop := H a = some (.lst xs) ∨ H a = some (.tup xs)
theorem Sq.same {H H' : Hp} {a : Addr} {xs : List V} (h : Sq H a xs) (s : Same H H') : Sq H' a xs := h.elim (fun z => .inl (s _ _ z)) fun z => .inr (s _ _ z)
theorem Sq.is {H : Hp} {a : Addr} {xs : List V} (h : Sq H a xs) : ∃ n, Is H (.ref a) n ∧ (n = "list" ∨ n = "tuple") := by
  rcases h with h | h
  · exact ⟨"list", .lst h, .inl rfl⟩
  · exact ⟨"tuple", .tup h, .inr rfl⟩
theorem Sq.sq {K : PySem.W.Frag} {H : Hp} {a : Addr} {xs : List V} (h : Sq H a xs) : SqL K H a xs ∨ SqT K H a xs := h.elim (fun z => .inl (SqL.of z)) fun z => .inr (SqT.of z)
theorem v_ixS {K : PySem.W.Frag} {σ : L2.St} {H : Hp} {te tb : TE} {a : Addr} {xs : List V} {n : Nat} {v : V} (h : Val te σ H (.ref a)) (hi : Val tb σ H (.int (n : Int))) (hx : Sq H a xs) (he : xs[n]? = some v) : Val (tOp (rIx K) te tb) σ H v :=
  val_op h hi fun Q q => hx.elim (fun z => .inl ⟨a, xs, n, v, rfl, rfl, SqL.of z, atI_nat he, q⟩) fun z => .inr (.inl ⟨a, xs, n, v, rfl, rfl, SqT.of z, atI_nat he, q⟩)
/-- what is_ratio answers -/
inductive RatQ (H : Hp) : V → Bool → Prop
  | int (i : Int) : RatQ H (.int i) true
  | odd {v : V} {n : String} (h : Is H v n) (o : n = "bool" ∨ n = "str" ∨ n = "NoneType" ∨ n = "dict") : RatQ H v false
  | len {a : Addr} {xs : List V} (h : Sq H a xs) (l : xs.length ≠ 2) : RatQ H (.ref a) false
  | fst {a : Addr} {x y : V} {n : String} (h : Sq H a [x, y]) (hx : Is H x n) (o : n ≠ "int") : RatQ H (.ref a) false
  | snd {a : Addr} {i : Int} {y : V} {n : String} (h : Sq H a [.int i, y]) (hx : Is H y n) (o : n ≠ "int") : RatQ H (.ref a) false
  | pair {a : Addr} {i j : Int} (h : Sq H a [.int i, .int j]) : RatQ H (.ref a) (decide (0 < j))
theorem RatQ.same {H H' : Hp} {v : V} {b : Bool} (h : RatQ H v b) (s : Same H H') : RatQ H' v b := by
  cases h with
  | int i => exact .int i
  | odd h o => exact .odd (h.same s) o
  | len h l => exact .len (h.same s) l
  | fst h hx o => exact .fst (h.same s) (hx.same s) o
  | snd h hx o => exact .snd (h.same s) (hx.same s) o
  | pair h => exact .pair (h.same s)
def spRat : Sp := fun vs H Q _ => ∃ (v : V) (b : Bool), vs = [v] ∧ RatQ H v b ∧ ∀ H', Same H H' → Q (.bl b) H'
/-- if not t: .. -/
theorem q_ifNot {σ : L2.St} {H : Hp} {t : TT} {t1 tz : TS} {D : Ends} (h : t σ H fun c H1 => if (!c) = true then t1 { D with nx := tz D } σ H1 else tz D σ H1) : tSeq (tIfS (tNot t) t1 tNext) tz D σ H := h
/-- if not t or u: .. -/
theorem q_ifOrNot {σ : L2.St} {H : Hp} {t u : TT} {t1 tz : TS} {D : Ends} (h : t σ H fun c H1 => if (!c) = true then (if true = true then t1 { D with nx := tz D } σ H1 else tz D σ H1) else
    u σ H1 fun b H2 => if b = true then t1 { D with nx := tz D } σ H2 else tz D σ H2) : tSeq (tIfS (tOr (tNot t) u) t1 tNext) tz D σ H := h
theorem ok_is_ratio (T : Txt K mg) : FnOk P w K mg base CX0 3 (fA mg "is_ratio") (fDat K (fA mg "is_ratio")) ["value"] spRat := by
  have Gis_integer := ok_is_integer (P := P) (w := w) (base := base) T
  refine T.is_ratio.F.ok scis_ratio (fun vs H Q E h => ?_) (fun cdv A outer s H vs Q E hr h => ?_)
  · obtain ⟨v, b, rfl, _⟩ := h
    rfl
  · obtain ⟨v, b, rfl, hR, k⟩ := h
    refine ⟨_, (pss_cons (ps_if (pt_val (pe_c T.is_integer Gis_integer (hr.mono (by decide)) (pa_cons (pv 0) pa_nil))) (pss_one (ps_ret pe_bl)) pss_nil)
  (pss_cons (ps_if (PW.pt (pw_or (pt_not (pt_val (pe_callB call_isiT (by rfl) T.isinstance (by decide +kernel) (pa_cons (pv 0) (pa_cons (pe_tup (pa_cons (pe_bltn (v := .ty "tuple") (by rfl) T.tuple (by decide +kernel) rfl) (pa_cons (pe_bltn (v := .ty "list") (by rfl) T.list (by decide +kernel) rfl) pa_nil))) pa_nil))))) (pw_or1 (pt_cmpR op_ne (pe_callB call_len_seq (by rfl) T.len PySem.boot_len (pa_cons (pv 0) pa_nil)) pe_int (nomark _))))) (pss_one (ps_ret pe_bl)) pss_nil)
  (pss_one (ps_ret (pe_and (pe_c T.is_integer Gis_integer (hr.mono (by decide)) (pa_cons (pe_ix ix_seq (pv 0) pe_int (fun _ _ => rfl)) pa_nil)) (pe_and (pe_c T.is_integer Gis_integer (hr.mono (by decide)) (pa_cons (pe_ix ix_seq (pv 0) pe_int (fun _ _ => rfl)) pa_nil)) (pe_one (pe_cmpR op_gt (pe_ix ix_seq (pv 0) pe_int (fun _ _ => rfl)) pe_int (nomark _))))))))), ?_⟩
    have whole : ∀ {te : TE} {σ : L2.St} {H1 : Hp} {v : V} {n : String}, Val te σ H1 v → Is H1 v n → Val (tCall spInt [] E0 (tCons te tNil)) σ H1 (.bl (decide (n = "int"))) := fun h i Q q => c_call (va_cons h va_nil) ⟨_, _, rfl, i, q⟩
    have no : ∀ {n : String}, n ≠ "int" → decide (n = "int") = false := fun h => decide_eq_false h
    -- isinstance(value, (tuple, list)): a new tuple of both
    have both : ∀ {H1 : Hp} {v : V} {n : String} {Q : Bool → Hp → Prop}, Is H1 v n → (∀ H2, Same H1 H2 → Q (decide (n = "tuple") || decide (n = "list")) H2) →
        tB (tCB (rIsiT K) (tCons (tVar 0) (tCons (tTup (tCons (tC (.ty "tuple")) (tCons (tC (.ty "list")) tNil))) tNil))) [some v] H1 Q := fun {H1 v n Q} i q =>
      ⟨v, rfl, ⟨by show 2 ≤ sizeLine; decide, fun p hp => ⟨v, p, [.ty "tuple", .ty "list"], _, [.type "tuple", .type "list"], _, rfl, upd_same, .cons (.ty _) (.cons (.ty _) .nil), (i.same (Same.new' hp)).ty.1, kit_seq (i.ty (K := K)).2, _, rfl, q _ (Same.new' hp)⟩⟩⟩
    have notI : ∀ {a : Addr} {xs : List V}, Sq H a xs → ∃ n, Is H (.ref a) n ∧ n ≠ "int" ∧ (decide (n = "tuple") || decide (n = "list")) = true := fun {a xs} h => by
      obtain ⟨n, i, o⟩ := h.is
      exact ⟨n, i, by rcases o with rfl | rfl <;> decide, by rcases o with rfl | rfl <;> decide⟩
    have lenOf : ∀ {a : Addr} {xs : List V} {H2 : Hp}, Sq H2 a xs → Val (tCB (fun xs H Q => ∃ p ys, xs = [.ref p] ∧ (SqL K H p ys ∨ SqT K H p ys) ∧ Q (.int ys.length) H) (tCons (tVar 0) tNil)) [some (.ref a)] H2 (.int (xs.length : Int)) := fun h => v_len (val_var rfl) h.sq
    have two : ∀ {a : Addr} {x y : V} {H2 : Hp} {j : Nat} {v : V}, Sq H2 a [x, y] → [x, y][j]? = some v → Val (tOp (rIx K) (tVar 0) (tC (.int (j : Int)))) [some (.ref a)] H2 v := fun h e => v_ixS (val_var rfl) val_c h e
    cases hR with
    | int i => exact q_when (b := true) (ans_val (whole (val_var rfl) (.int i))) (fun _ => st_ret val_c (k H (Same.refl H))) (fun z => nomatch z)
    | @odd _ n h o =>
      have ni : n ≠ "int" := by rcases o with rfl | rfl | rfl | rfl <;> decide
      have ns : (decide (n = "tuple") || decide (n = "list")) = false := by rcases o with rfl | rfl | rfl | rfl <;> decide
      refine q_unless (Ans.to (ans_val (whole (val_var rfl) h)) (no ni)) ?_
      refine q_ifOrNot (both h fun H2 s2 => ?_)
      rw [ns]
      exact iteT (iteT (st_ret val_c (k H2 s2)))
    | @len a xs h l =>
      obtain ⟨n, i, ni, ns⟩ := notI h
      refine q_unless (Ans.to (ans_val (whole (val_var rfl) i)) (no ni)) ?_
      refine q_ifOrNot (both i fun H2 s2 => ?_)
      rw [ns]
      refine iteF ?_
      refine (ans_ne (lenOf (h.same s2)) val_c rfl (b := true) (by simp; omega)) _ ?_
      exact iteT (st_ret val_c (k H2 s2))
    | @fst a x y n h hx o =>
      obtain ⟨m, i, ni, ns⟩ := notI h
      refine q_unless (Ans.to (ans_val (whole (val_var rfl) i)) (no ni)) ?_
      refine q_ifOrNot (both i fun H2 s2 => ?_)
      rw [ns]
      refine iteF ?_
      refine (ans_ne (lenOf (h.same s2)) val_c rfl (b := false) (by simp)) _ ?_
      refine iteF ?_
      refine r_ret ?_
      refine (whole (two (j := 0) (h.same s2) rfl) (hx.same s2)) _ ⟨_, rfl, ?_⟩
      rw [no o]
      exact iteF (k H2 s2)
    | @snd a i y n h hx o =>
      obtain ⟨m, j, ni, ns⟩ := notI h
      refine q_unless (Ans.to (ans_val (whole (val_var rfl) j)) (no ni)) ?_
      refine q_ifOrNot (both j fun H2 s2 => ?_)
      rw [ns]
      refine iteF ?_
      refine (ans_ne (lenOf (h.same s2)) val_c rfl (b := false) (by simp)) _ ?_
      refine iteF ?_
      refine r_ret ?_
      refine (whole (two (j := 0) (h.same s2) rfl) (.int i)) _ ⟨_, rfl, ?_⟩
      refine iteT ?_
      refine (whole (two (j := 1) (h.same s2) rfl) (hx.same s2)) _ ⟨_, rfl, ?_⟩
      rw [no o]
      exact iteF (k H2 s2)
    | @pair a i j h =>
      obtain ⟨m, i2, ni, ns⟩ := notI h
      refine q_unless (Ans.to (ans_val (whole (val_var rfl) i2)) (no ni)) ?_
      refine q_ifOrNot (both i2 fun H2 s2 => ?_)
      rw [ns]
      refine iteF ?_
      refine (ans_ne (lenOf (h.same s2)) val_c rfl (b := false) (by simp)) _ ?_
      refine iteF ?_
      refine r_ret ?_
      refine (whole (two (j := 0) (h.same s2) rfl) (.int i)) _ ⟨_, rfl, ?_⟩
      refine iteT ?_
      refine (whole (two (j := 1) (h.same s2) rfl) (.int j)) _ ⟨_, rfl, ?_⟩
      refine iteT ?_
      refine (two (j := 1) (h.same s2) rfl) _ ?_
      exact ⟨_, _, rfl, rfl, k H2 s2⟩

/-! ### the parts of a ratio -/
inductive Rt (H : Hp) : V → Int → Int → Prop
  | int (i : Int) : Rt H (.int i) i 1
  | pair {a : Addr} {i j : Int} (h : Sq H a [.int i, .int j]) (p : 0 < j) : Rt H (.ref a) i j
theorem Rt.same {H H' : Hp} {v : V} {i j : Int} (h : Rt H v i j) (s : Same H H') : Rt H' v i j := by
  cases h with
  | int i => exact .int i
  | pair h p => exact .pair (h.same s) p
theorem Rt.pos {H : Hp} {v : V} {i j : Int} (h : Rt H v i j) : 0 < j := by
  cases h with
  | int i => decide
  | pair h p => exact p
theorem Rt.yes {H : Hp} {v : V} {i j : Int} (h : Rt H v i j) : RatQ H v true := by
  cases h with
  | int i => exact .int i
  | pair h p =>
    have q := RatQ.pair h
    rw [decide_eq_true p] at q
    exact q
/-- BadNumber(what, number) leaves -/
def Bad (mg : Str → Option Value) (H : Hp) (wh v : V) (E : XK) : Prop := ∀ (d : Addr) (H' : Hp), Same H H' → H d = none → H' d = some (.xd [("number", v), ("what", wh)]) → E (.ref (fA mg "BadNumber")) (some d) H'
theorem Bad.from {mg : Str → Option Value} {H H' : Hp} {wh v : V} {E : XK} (b : Bad mg H wh v E) (s : Same H H') : Bad mg H' wh v E := fun d H2 s2 n e => b d H2 (s.trans s2) (s.free n) e
theorem x_made2 {σ : L2.St} {H : Hp} {ta : TA} {C : Addr} {f g : Str} {v u : V} {Q : XK} (h : VA ta σ H [v, u]) (k : ∀ d H', Same H H' → H d = none → H' d = some (.xd [(g, u), (f, v)]) → Q (.ref C) (some d) H') : tMkO C (spI2 C f g) [] ta σ H Q :=
  h _ ⟨by show 2 ≤ 1000; decide, fun a ha => ⟨a, v, u, rfl, upd_same, fun dx hd ne => by
    rw [upd_ne ne] at hd
    refine ⟨rfl, dx, _, by rw [upd_ne (Ne.symm ne), upd_same], upd_same, hd, k dx _ (fun b o e => ?_) hd upd_same⟩
    have hb : b ≠ a := ne_of_none e ha
    have hb2 : b ≠ dx := ne_of_none e hd
    rw [upd_ne hb2, del_ne hb, upd_ne hb2, upd_ne hb, upd_ne hb2, upd_ne hb]
    exact e⟩⟩
def spParts (mg : Str → Option Value) : Sp := fun vs H Q E => ∃ (v wh : V), vs = [v, wh] ∧ ((∃ i j, Rt H v i j ∧ ∀ (p : Addr) (H' : Hp), Same H H' → H' p = some (.tup [.int i, .int j]) → Q (.ref p) H') ∨ (RatQ H v false ∧ Bad mg H wh v E))
theorem ok_parts (T : Txt K mg) : FnOk P w K mg base (L2.CX P w) 5 (fA mg "_parts") (fDat K (fA mg "_parts")) ["value", "what"] (spParts mg) := by
  have Gis_ratio := ok_is_ratio (P := P) (w := w) (base := base) T
  have Gi_BadNumber := init_BadNumber (P := P) (w := w) (base := base) T
  refine T._parts.F.okX sc_parts (fun vs H Q E h => ?_) (fun cdv A outer s H vs Q E hr h => ?_)
  · obtain ⟨v, wh, rfl, _⟩ := h
    rfl
  · obtain ⟨v, wh, rfl, h⟩ := h
    refine ⟨_, (pss_cons (ps_if (pt_not (pt_val (pe_c T.is_ratio Gis_ratio (hr.mono (by decide)) (pa_cons (pv 0) pa_nil)))) (pss_one (ps_raise rfl (takes_of rfl rfl rfl rfl) (pmk_oex T.BadNumber.o T.BadNumber.i T.BadNumber.t Gi_BadNumber (hr.mono (by decide)) T.BadNumber.b .nil pass0 (by rfl) T.BadNumber.g (pa_cons (pv 1) (pa_cons (pv 0) pa_nil))))) pss_nil)
  (pss_cons (ps_if (pt_val (pe_callB call_isi (by rfl) T.isinstance (by decide +kernel) (pa_cons (pv 0) (pa_cons (pe_bltn (v := .ty "int") (by rfl) T.int (by decide +kernel) rfl) pa_nil)))) (pss_one (ps_ret (pe_tup (pa_cons (pv 0) (pa_cons pe_int pa_nil))))) pss_nil)
  (pss_one (ps_ret (pe_tup (pa_cons (pe_ix ix_seq (pv 0) pe_int (fun _ _ => rfl)) (pa_cons (pe_ix ix_seq (pv 0) pe_int (fun _ _ => rfl)) pa_nil))))))), ?_⟩
    have rat : ∀ {b : Bool} {X : Bool → Hp → Prop}, RatQ H v b → (∀ H', Same H H' → X b H') → (tB (tCall spRat [] E0 (tCons (tVar 0) tNil))) [some v, some wh] H X := fun r k =>
      c_call (va_cons (val_var rfl) va_nil) ⟨_, _, rfl, r, fun H' s => ⟨_, rfl, k H' s⟩⟩
    rcases h with ⟨i, j, r, k⟩ | ⟨r, k⟩
    · refine q_ifNot (rat r.yes fun H1 s1 => ?_)
      refine iteF ?_
      have r1 := r.same s1
      cases r1 with
      | int i =>
        obtain ⟨ty, hn⟩ := (Is.int (H := H1) i).ty (K := K)
        refine q_when (b := true) (ans_val (v_isi (val_var rfl) ty (kit_int hn))) (fun _ => ?_) (fun z => nomatch z)
        exact r_ret (te := tTup _) ((va_cons (val_var rfl) (va_cons val_c va_nil)) _ ⟨by show 2 ≤ sizeLine; decide, fun p hp => k p _ (s1.trans (Same.new' hp)) upd_same⟩)
      | @pair a i j h p =>
        obtain ⟨n, is, o⟩ := h.is
        have e : (decide (n = "int") || decide (n = "bool")) = false := by rcases o with rfl | rfl <;> decide
        obtain ⟨ty, hn⟩ := is.ty (K := K)
        have z := v_isi (K := K) (σ := [some (.ref a), some wh]) (te := tVar 0) (val_var rfl) ty (kit_int hn)
        rw [e] at z
        refine q_unless (ans_val z) ?_
        exact r_ret (te := tTup _) ((va_cons (v_ixS (n := 0) (val_var rfl) val_c h rfl) (va_cons (v_ixS (n := 1) (val_var rfl) val_c h rfl) va_nil)) _ ⟨by show 2 ≤ sizeLine; decide, fun p hp => k p _ (s1.trans (Same.new' hp)) upd_same⟩)
    · refine q_ifNot (rat r fun H1 s1 => ?_)
      exact iteT (x_made2 (va_cons (val_var rfl) (va_cons (val_var rfl) va_nil)) fun d H' s n e => k d H' (s1.trans s) (s1.free n) e)

theorem op_fdivS {X : Cx} : OpR X (binaryOp .FloorDiv) (rI (fun _ j => j ≠ 0 ∧ j.natAbs.log2 < 9000) fun i j => .int (i.fdiv j)) := opI fun _ _ _ _ _ _ _ hc q => floordiv_int hc.1 q (.inl (PyProof.noPylong_of_log2 hc.2))
/-! ### lowest terms -/
def gI (i j : Int) : Int := ((Nat.gcd i.natAbs j.natAbs : Nat) : Int)
theorem gI_pos {i j : Int} (h : 0 < j) : 0 < gI i j := by
  have : 0 < Nat.gcd i.natAbs j.natAbs := Nat.gcd_pos_of_pos_right _ (by omega)
  unfold gI
  omega
theorem gI_le {i j : Int} (h : 0 < j) : gI i j ≤ j := by
  have : Nat.gcd i.natAbs j.natAbs ≤ j.natAbs := Nat.le_of_dvd (by omega) (Nat.gcd_dvd_right _ _)
  unfold gI
  omega
def wd : Nat := 4000
def spLow : Sp := fun vs H Q _ => ∃ i j : Int, vs = [.int i, .int j] ∧ 0 < j ∧ j.natAbs < 2 ^ wd ∧ ∀ (p : Addr) (H' : Hp), Same H H' → H' p = some (.tup [.int (i / gI i j), .int (j / gI i j)]) → Q (.ref p) H'
theorem ok_lowest (T : Txt K mg) : FnOk P w K mg base CX0 1 (fA mg "_lowest") (fDat K (fA mg "_lowest")) ["top", "bottom"] spLow := by
  refine T._lowest.F.ok sc_lowest (fun vs H Q E h => ?_) (fun cdv A outer s H vs Q E hr h => ?_)
  · obtain ⟨i, j, rfl, _⟩ := h
    rfl
  · obtain ⟨i, j, rfl, hj, hb, k⟩ := h
    refine ⟨_, (pss_cons (ps_set (i := 2) sc_lowest.nd rfl (Or.inl rfl) (pe_callBfun cr_gcd (by rfl) T.gcd (pa_cons (pv 0) (pa_cons (pv 1) pa_nil))))
  (pss_one (ps_ret (pe_tup (pa_cons (pe_op op_fdivW (pv 0) (pv 2)) (pa_cons (pe_op op_fdivW (pv 1) (pv 2)) pa_nil)))))), ?_⟩
    have hd : CDivW i (gI i j) ∧ CDivW j (gI i j) := by
      have h := wide_div (i := i) (gI_pos (i := i) hj) (b := wd) (wide_le (Int.le_of_lt (gI_pos hj)) (gI_le hj) hb) (by decide) (by decide)
      exact ⟨h, h⟩
    refine q_set (v := .int (gI i j)) (v_cb (va_cons (val_var rfl) (va_cons (val_var rfl) va_nil)) fun Q q => ⟨i, j, rfl, q⟩) ?_
    exact r_ret (te := tTup _) ((va_cons (v_div (val_var rfl) (val_var rfl) hd.1) (va_cons (v_div (val_var rfl) (val_var rfl) hd.2) va_nil)) _ ⟨by show 2 ≤ sizeLine; decide, fun p hp => k p _ (Same.new' hp) upd_same⟩)
/-- a ratio of any terms below 2 ^ 1000, and its parts -/
def Fit (i j : Int) : Prop := i.natAbs < 2 ^ 1000 ∧ j.natAbs < 2 ^ 1000
theorem fit_mul {i j : Int} (h : i.natAbs < 2 ^ 1000) (g : j.natAbs < 2 ^ 1000) : CMulW i j := wide_mul h g (by decide) (by decide) (by decide)
theorem fit_lt {i j : Int} (h : i.natAbs < 2 ^ 1000) (g : j.natAbs < 2 ^ 1000) : (i * j).natAbs < 2 ^ wd := Nat.lt_of_lt_of_le (wide_lt h g) (Nat.pow_le_pow_right (by decide) (by decide))
theorem fit_add {i j : Int} (h : i.natAbs < 2 ^ (1000 + 1000)) (g : j.natAbs < 2 ^ (1000 + 1000)) : (i + j).natAbs < 2 ^ wd := by
  have e : 2 ^ (1000 + 1000) + 2 ^ (1000 + 1000) = 2 ^ (1000 + 1000 + 1) := by rw [Nat.pow_succ (n := 2) (m := 1000 + 1000)]; exact (Nat.mul_two _).symm
  have l : 2 ^ (1000 + 1000 + 1) ≤ 2 ^ wd := Nat.pow_le_pow_right (by decide) (by decide)
  exact Nat.lt_of_lt_of_le (Nat.lt_of_le_of_lt (Int.natAbs_add_le i j) (Nat.add_lt_add h g)) (Nat.le_trans (Nat.le_of_eq e) l)
theorem fit_sub {i j : Int} (h : i.natAbs < 2 ^ (1000 + 1000)) (g : j.natAbs < 2 ^ (1000 + 1000)) : (i - j).natAbs < 2 ^ wd := by
  rw [Int.sub_eq_add_neg]
  exact fit_add h (by rw [Int.natAbs_neg]; exact g)
theorem q_parts {mg : Str → Option Value} {K : PySem.W.Frag} {σ : L2.St} {H : Hp} {E : XK} {ta : TA} {v wh : V} {a b : Int} {i j n : Nat} {tz : TS} {D : Ends} (hn : n = 2) (h : VA ta σ H [v, wh]) (r : Rt H v a b)
    (q : ∀ H', Same H H' → tz D ((σ.set i (some (.int a))).set j (some (.int b))) H') : tSeq (tAsg (tCall (spParts mg) [] E ta) (gTup K n (gCons (gName i) (gCons (gName j) gNil)))) tz D σ H := by
  subst hn
  exact (show tAsg _ _ _ _ _ from c_call h ⟨v, wh, rfl, .inl ⟨a, b, r, fun p H' s e => g_two (SqT.of e) (q H' s)⟩⟩)
theorem q_partsX {mg : Str → Option Value} {σ : L2.St} {H : Hp} {E : XK} {ta : TA} {v wh : V} {g : TG} {tz : TS} {D : Ends} (h : VA ta σ H [v, wh]) (r : RatQ H v false) (b : Bad mg H wh v E) :
    tSeq (tAsg (tCall (spParts mg) [] E ta) g) tz D σ H := (show tAsg _ _ _ _ _ from c_call h ⟨v, wh, rfl, .inr ⟨r, b⟩⟩)

def sp_plus (mg : Str → Option Value) : Sp := fun vs H Q E => ∃ (v u : V), vs = [v, u] ∧ ((∃ i j k l, Rt H v i j ∧ Rt H u k l ∧ Fit i j ∧ Fit k l ∧ ∀ (p : Addr) (H' : Hp), Same H H' → H' p = some (.tup [.int ((i * l + k * j) / gI (i * l + k * j) (j * l)), .int ((j * l) / gI (i * l + k * j) (j * l))]) → Q (.ref p) H') ∨
  (RatQ H v false ∧ Bad mg H (.str "ratio") v E) ∨ (∃ i j, Rt H v i j ∧ RatQ H u false ∧ Bad mg H (.str "ratio") u E))
theorem ok_plus (T : Txt K mg) : FnOk P w K mg base (L2.CX P w) 6 (fA mg "plus") (fDat K (fA mg "plus")) ["one", "other"] (sp_plus mg) := by
  have G_parts := ok_parts (P := P) (w := w) (base := base) T
  have G_lowest := ok_lowest (P := P) (w := w) (base := base) T
  have Gi_BadNumber := init_BadNumber (P := P) (w := w) (base := base) T
  refine T.plus.F.okX scplus (fun vs H Q E h => ?_) (fun cdv A outer s H vs Q E hr h => ?_)
  · obtain ⟨v, u, rfl, _⟩ := h
    rfl
  · obtain ⟨v, u, rfl, h⟩ := h
    refine ⟨_, (pss_cons (ps_asg (pe_call G_parts (hr.mono (by decide)) (by rfl) T._parts.g T._parts.F.kp T._parts.b .nil (passes_call (takes_of rfl rfl rfl rfl) (fun _ _ _ _ h => h)) (pa_cons (pv 0) (pa_cons pe_str pa_nil))) (pg_tup rfl (pgs_cons (pg_name (i := 2) scplus.nd rfl (Or.inl rfl)) (pgs_cons (pg_name (i := 3) scplus.nd rfl (Or.inl rfl)) pgs_nil))))
  (pss_cons (ps_asg (pe_call G_parts (hr.mono (by decide)) (by rfl) T._parts.g T._parts.F.kp T._parts.b .nil (passes_call (takes_of rfl rfl rfl rfl) (fun _ _ _ _ h => h)) (pa_cons (pv 1) (pa_cons pe_str pa_nil))) (pg_tup rfl (pgs_cons (pg_name (i := 4) scplus.nd rfl (Or.inl rfl)) (pgs_cons (pg_name (i := 5) scplus.nd rfl (Or.inl rfl)) pgs_nil))))
  (pss_one (ps_ret (pe_c T._lowest G_lowest (hr.mono (by decide)) (pa_cons (pe_op op_add (pe_op op_mulW (pv 2) (pv 5)) (pe_op op_mulW (pv 4) (pv 3))) (pa_cons (pe_op op_mulW (pv 3) (pv 5)) pa_nil))))))), ?_⟩
    rcases h with ⟨i, j, k, l, r, t, ⟨fi, fj⟩, ⟨fk, fl⟩, q⟩ | ⟨r, b⟩ | ⟨i, j, r, t, b⟩
    · refine q_parts rfl (va_cons (val_var rfl) (va_cons val_c va_nil)) r fun H1 s1 => ?_
      refine q_parts rfl (va_cons (val_var rfl) (va_cons val_c va_nil)) (t.same s1) fun H2 s2 => ?_
      exact r_ret (te := tCall _ _ _ _) (c_call (va_cons (v_add (v_mul (val_var rfl) (val_var rfl) (fit_mul fi fl)) (v_mul (val_var rfl) (val_var rfl) (fit_mul fk fj))) (va_cons (v_mul (val_var rfl) (val_var rfl) (fit_mul fj fl)) va_nil)) ⟨_, _, rfl, Int.mul_pos r.pos t.pos, fit_lt fj fl, fun p H' s e => q p H' ((s1.trans s2).trans s) e⟩)
    · exact q_partsX (va_cons (val_var rfl) (va_cons val_c va_nil)) r b
    · refine q_parts rfl (va_cons (val_var rfl) (va_cons val_c va_nil)) r fun H1 s1 => ?_
      exact q_partsX (va_cons (val_var rfl) (va_cons val_c va_nil)) (t.same s1) (b.from s1)

def sp_minus (mg : Str → Option Value) : Sp := fun vs H Q E => ∃ (v u : V), vs = [v, u] ∧ ((∃ i j k l, Rt H v i j ∧ Rt H u k l ∧ Fit i j ∧ Fit k l ∧ ∀ (p : Addr) (H' : Hp), Same H H' → H' p = some (.tup [.int ((i * l - k * j) / gI (i * l - k * j) (j * l)), .int ((j * l) / gI (i * l - k * j) (j * l))]) → Q (.ref p) H') ∨
  (RatQ H v false ∧ Bad mg H (.str "ratio") v E) ∨ (∃ i j, Rt H v i j ∧ RatQ H u false ∧ Bad mg H (.str "ratio") u E))
theorem ok_minus (T : Txt K mg) : FnOk P w K mg base (L2.CX P w) 6 (fA mg "minus") (fDat K (fA mg "minus")) ["one", "other"] (sp_minus mg) := by
  have G_parts := ok_parts (P := P) (w := w) (base := base) T
  have G_lowest := ok_lowest (P := P) (w := w) (base := base) T
  have Gi_BadNumber := init_BadNumber (P := P) (w := w) (base := base) T
  refine T.minus.F.okX scminus (fun vs H Q E h => ?_) (fun cdv A outer s H vs Q E hr h => ?_)
  · obtain ⟨v, u, rfl, _⟩ := h
    rfl
  · obtain ⟨v, u, rfl, h⟩ := h
    refine ⟨_, (pss_cons (ps_asg (pe_call G_parts (hr.mono (by decide)) (by rfl) T._parts.g T._parts.F.kp T._parts.b .nil (passes_call (takes_of rfl rfl rfl rfl) (fun _ _ _ _ h => h)) (pa_cons (pv 0) (pa_cons pe_str pa_nil))) (pg_tup rfl (pgs_cons (pg_name (i := 2) scminus.nd rfl (Or.inl rfl)) (pgs_cons (pg_name (i := 3) scminus.nd rfl (Or.inl rfl)) pgs_nil))))
  (pss_cons (ps_asg (pe_call G_parts (hr.mono (by decide)) (by rfl) T._parts.g T._parts.F.kp T._parts.b .nil (passes_call (takes_of rfl rfl rfl rfl) (fun _ _ _ _ h => h)) (pa_cons (pv 1) (pa_cons pe_str pa_nil))) (pg_tup rfl (pgs_cons (pg_name (i := 4) scminus.nd rfl (Or.inl rfl)) (pgs_cons (pg_name (i := 5) scminus.nd rfl (Or.inl rfl)) pgs_nil))))
  (pss_one (ps_ret (pe_c T._lowest G_lowest (hr.mono (by decide)) (pa_cons (pe_op op_sub (pe_op op_mulW (pv 2) (pv 5)) (pe_op op_mulW (pv 4) (pv 3))) (pa_cons (pe_op op_mulW (pv 3) (pv 5)) pa_nil))))))), ?_⟩
    rcases h with ⟨i, j, k, l, r, t, ⟨fi, fj⟩, ⟨fk, fl⟩, q⟩ | ⟨r, b⟩ | ⟨i, j, r, t, b⟩
    · refine q_parts rfl (va_cons (val_var rfl) (va_cons val_c va_nil)) r fun H1 s1 => ?_
      refine q_parts rfl (va_cons (val_var rfl) (va_cons val_c va_nil)) (t.same s1) fun H2 s2 => ?_
      exact r_ret (te := tCall _ _ _ _) (c_call (va_cons (v_sub (v_mul (val_var rfl) (val_var rfl) (fit_mul fi fl)) (v_mul (val_var rfl) (val_var rfl) (fit_mul fk fj))) (va_cons (v_mul (val_var rfl) (val_var rfl) (fit_mul fj fl)) va_nil)) ⟨_, _, rfl, Int.mul_pos r.pos t.pos, fit_lt fj fl, fun p H' s e => q p H' ((s1.trans s2).trans s) e⟩)
    · exact q_partsX (va_cons (val_var rfl) (va_cons val_c va_nil)) r b
    · refine q_parts rfl (va_cons (val_var rfl) (va_cons val_c va_nil)) r fun H1 s1 => ?_
      exact q_partsX (va_cons (val_var rfl) (va_cons val_c va_nil)) (t.same s1) (b.from s1)

def sp_times (mg : Str → Option Value) : Sp := fun vs H Q E => ∃ (v u : V), vs = [v, u] ∧ ((∃ i j k l, Rt H v i j ∧ Rt H u k l ∧ Fit i j ∧ Fit k l ∧ ∀ (p : Addr) (H' : Hp), Same H H' → H' p = some (.tup [.int ((i * k) / gI (i * k) (j * l)), .int ((j * l) / gI (i * k) (j * l))]) → Q (.ref p) H') ∨
  (RatQ H v false ∧ Bad mg H (.str "ratio") v E) ∨ (∃ i j, Rt H v i j ∧ RatQ H u false ∧ Bad mg H (.str "ratio") u E))
theorem ok_times (T : Txt K mg) : FnOk P w K mg base (L2.CX P w) 6 (fA mg "times") (fDat K (fA mg "times")) ["one", "other"] (sp_times mg) := by
  have G_parts := ok_parts (P := P) (w := w) (base := base) T
  have G_lowest := ok_lowest (P := P) (w := w) (base := base) T
  have Gi_BadNumber := init_BadNumber (P := P) (w := w) (base := base) T
  refine T.times.F.okX sctimes (fun vs H Q E h => ?_) (fun cdv A outer s H vs Q E hr h => ?_)
  · obtain ⟨v, u, rfl, _⟩ := h
    rfl
  · obtain ⟨v, u, rfl, h⟩ := h
    refine ⟨_, (pss_cons (ps_asg (pe_call G_parts (hr.mono (by decide)) (by rfl) T._parts.g T._parts.F.kp T._parts.b .nil (passes_call (takes_of rfl rfl rfl rfl) (fun _ _ _ _ h => h)) (pa_cons (pv 0) (pa_cons pe_str pa_nil))) (pg_tup rfl (pgs_cons (pg_name (i := 2) sctimes.nd rfl (Or.inl rfl)) (pgs_cons (pg_name (i := 3) sctimes.nd rfl (Or.inl rfl)) pgs_nil))))
  (pss_cons (ps_asg (pe_call G_parts (hr.mono (by decide)) (by rfl) T._parts.g T._parts.F.kp T._parts.b .nil (passes_call (takes_of rfl rfl rfl rfl) (fun _ _ _ _ h => h)) (pa_cons (pv 1) (pa_cons pe_str pa_nil))) (pg_tup rfl (pgs_cons (pg_name (i := 4) sctimes.nd rfl (Or.inl rfl)) (pgs_cons (pg_name (i := 5) sctimes.nd rfl (Or.inl rfl)) pgs_nil))))
  (pss_one (ps_ret (pe_c T._lowest G_lowest (hr.mono (by decide)) (pa_cons (pe_op op_mulW (pv 2) (pv 4)) (pa_cons (pe_op op_mulW (pv 3) (pv 5)) pa_nil))))))), ?_⟩
    rcases h with ⟨i, j, k, l, r, t, ⟨fi, fj⟩, ⟨fk, fl⟩, q⟩ | ⟨r, b⟩ | ⟨i, j, r, t, b⟩
    · refine q_parts rfl (va_cons (val_var rfl) (va_cons val_c va_nil)) r fun H1 s1 => ?_
      refine q_parts rfl (va_cons (val_var rfl) (va_cons val_c va_nil)) (t.same s1) fun H2 s2 => ?_
      exact r_ret (te := tCall _ _ _ _) (c_call (va_cons (v_mul (val_var rfl) (val_var rfl) (fit_mul fi fk)) (va_cons (v_mul (val_var rfl) (val_var rfl) (fit_mul fj fl)) va_nil)) ⟨_, _, rfl, Int.mul_pos r.pos t.pos, fit_lt fj fl, fun p H' s e => q p H' ((s1.trans s2).trans s) e⟩)
    · exact q_partsX (va_cons (val_var rfl) (va_cons val_c va_nil)) r b
    · refine q_parts rfl (va_cons (val_var rfl) (va_cons val_c va_nil)) r fun H1 s1 => ?_
      exact q_partsX (va_cons (val_var rfl) (va_cons val_c va_nil)) (t.same s1) (b.from s1)

def sp_lower (mg : Str → Option Value) : Sp := fun vs H Q E => ∃ (v u : V), vs = [v, u] ∧ ((∃ i j k l, Rt H v i j ∧ Rt H u k l ∧ Fit i j ∧ Fit k l ∧ ∀ H', Same H H' → Q (.bl (decide (i * l < k * j))) H') ∨
  (RatQ H v false ∧ Bad mg H (.str "ratio") v E) ∨ (∃ i j, Rt H v i j ∧ RatQ H u false ∧ Bad mg H (.str "ratio") u E))
theorem ok_lower (T : Txt K mg) : FnOk P w K mg base (L2.CX P w) 6 (fA mg "lower") (fDat K (fA mg "lower")) ["one", "other"] (sp_lower mg) := by
  have G_parts := ok_parts (P := P) (w := w) (base := base) T
  have G_lowest := ok_lowest (P := P) (w := w) (base := base) T
  have Gi_BadNumber := init_BadNumber (P := P) (w := w) (base := base) T
  refine T.lower.F.okX sclower (fun vs H Q E h => ?_) (fun cdv A outer s H vs Q E hr h => ?_)
  · obtain ⟨v, u, rfl, _⟩ := h
    rfl
  · obtain ⟨v, u, rfl, h⟩ := h
    refine ⟨_, (pss_cons (ps_asg (pe_call G_parts (hr.mono (by decide)) (by rfl) T._parts.g T._parts.F.kp T._parts.b .nil (passes_call (takes_of rfl rfl rfl rfl) (fun _ _ _ _ h => h)) (pa_cons (pv 0) (pa_cons pe_str pa_nil))) (pg_tup rfl (pgs_cons (pg_name (i := 2) sclower.nd rfl (Or.inl rfl)) (pgs_cons (pg_name (i := 3) sclower.nd rfl (Or.inl rfl)) pgs_nil))))
  (pss_cons (ps_asg (pe_call G_parts (hr.mono (by decide)) (by rfl) T._parts.g T._parts.F.kp T._parts.b .nil (passes_call (takes_of rfl rfl rfl rfl) (fun _ _ _ _ h => h)) (pa_cons (pv 1) (pa_cons pe_str pa_nil))) (pg_tup rfl (pgs_cons (pg_name (i := 4) sclower.nd rfl (Or.inl rfl)) (pgs_cons (pg_name (i := 5) sclower.nd rfl (Or.inl rfl)) pgs_nil))))
  (pss_one (ps_ret (pe_cmpR op_lt (pe_op op_mulW (pv 2) (pv 5)) (pe_op op_mulW (pv 4) (pv 3)) (nomark _)))))), ?_⟩
    rcases h with ⟨i, j, k, l, r, t, ⟨fi, fj⟩, ⟨fk, fl⟩, q⟩ | ⟨r, b⟩ | ⟨i, j, r, t, b⟩
    · refine q_parts rfl (va_cons (val_var rfl) (va_cons val_c va_nil)) r fun H1 s1 => ?_
      refine q_parts rfl (va_cons (val_var rfl) (va_cons val_c va_nil)) (t.same s1) fun H2 s2 => ?_
      exact r_ret (v_mul (val_var rfl) (val_var rfl) (fit_mul fi fl) _ (v_mul (val_var rfl) (val_var rfl) (fit_mul fk fj) _ ⟨_, _, rfl, rfl, q H2 (s1.trans s2)⟩))
    · exact q_partsX (va_cons (val_var rfl) (va_cons val_c va_nil)) r b
    · refine q_parts rfl (va_cons (val_var rfl) (va_cons val_c va_nil)) r fun H1 s1 => ?_
      exact q_partsX (va_cons (val_var rfl) (va_cons val_c va_nil)) (t.same s1) (b.from s1)

def sp_told (mg : Str → Option Value) : Sp := fun vs H Q E => ∃ (v wh : V), vs = [v, wh] ∧ ((∃ i j, Rt H v i j ∧ Fit i j ∧ ∀ (p : Addr) (H' : Hp), Same H H' → H' p = some (.tup [.int ((i) / gI (i) (j)), .int ((j) / gI (i) (j))]) → Q (.ref p) H') ∨ (RatQ H v false ∧ Bad mg H wh v E))
theorem ok_told (T : Txt K mg) : FnOk P w K mg base (L2.CX P w) 6 (fA mg "told") (fDat K (fA mg "told")) ["value", "what"] (sp_told mg) := by
  have G_parts := ok_parts (P := P) (w := w) (base := base) T
  have G_lowest := ok_lowest (P := P) (w := w) (base := base) T
  refine T.told.F.okX sctold (fun vs H Q E h => ?_) (fun cdv A outer s H vs Q E hr h => ?_)
  · obtain ⟨v, u, rfl, _⟩ := h
    rfl
  · obtain ⟨v, u, rfl, h⟩ := h
    refine ⟨_, (pss_cons (ps_asg (pe_call G_parts (hr.mono (by decide)) (by rfl) T._parts.g T._parts.F.kp T._parts.b .nil (passes_call (takes_of rfl rfl rfl rfl) (fun _ _ _ _ h => h)) (pa_cons (pv 0) (pa_cons (pv 1) pa_nil))) (pg_tup rfl (pgs_cons (pg_name (i := 2) sctold.nd rfl (Or.inl rfl)) (pgs_cons (pg_name (i := 3) sctold.nd rfl (Or.inl rfl)) pgs_nil))))
  (pss_one (ps_ret (pe_c T._lowest G_lowest (hr.mono (by decide)) (pa_cons (pv 2) (pa_cons (pv 3) pa_nil)))))), ?_⟩
    rcases h with ⟨i, j, r, ⟨fi, fj⟩, q⟩ | ⟨r, b⟩
    · refine q_parts rfl (va_cons (val_var rfl) (va_cons (val_var rfl) va_nil)) r fun H1 s1 => ?_
      exact r_ret (te := tCall _ _ _ _) (c_call (va_cons (val_var rfl) (va_cons (val_var rfl) va_nil)) ⟨_, _, rfl, r.pos, Nat.lt_of_lt_of_le fj (Nat.pow_le_pow_right (by decide) (by decide)), fun p H' s e => q p H' (s1.trans s) e⟩)
    · exact q_partsX (va_cons (val_var rfl) (va_cons (val_var rfl) va_nil)) r b
theorem q_told {mg : Str → Option Value} {K : PySem.W.Frag} {σ : L2.St} {H : Hp} {E : XK} {ta : TA} {v wh : V} {a b : Int} {i j n : Nat} {tz : TS} {D : Ends} (hn : n = 2) (h : VA ta σ H [v, wh]) (r : Rt H v a b) (f : Fit a b)
    (q : ∀ H', Same H H' → tz D ((σ.set i (some (.int (a / gI a b)))).set j (some (.int (b / gI a b)))) H') : tSeq (tAsg (tCall (sp_told mg) [] E ta) (gTup K n (gCons (gName i) (gCons (gName j) gNil)))) tz D σ H := by
  subst hn
  exact (show tAsg _ _ _ _ _ from c_call h ⟨v, wh, rfl, .inl ⟨a, b, r, f, fun p H' s e => g_two (SqT.of e) (q H' s)⟩⟩)
theorem q_toldX {mg : Str → Option Value} {σ : L2.St} {H : Hp} {E : XK} {ta : TA} {v wh : V} {g : TG} {tz : TS} {D : Ends} (h : VA ta σ H [v, wh]) (r : RatQ H v false) (b : Bad mg H wh v E) :
    tSeq (tAsg (tCall (sp_told mg) [] E ta) g) tz D σ H := (show tAsg _ _ _ _ _ from c_call h ⟨v, wh, rfl, .inr ⟨r, b⟩⟩)
def sp_floor_of (mg : Str → Option Value) : Sp := fun vs H Q E => ∃ (v : V), vs = [v] ∧ ((∃ i j, Rt H v i j ∧ Fit i j ∧ ∀ H', Same H H' → Q (.int (i / j)) H') ∨ (RatQ H v false ∧ Bad mg H (.str "ratio") v E))
theorem ok_floor_of (T : Txt K mg) : FnOk P w K mg base (L2.CX P w) 6 (fA mg "floor_of") (fDat K (fA mg "floor_of")) ["value"] (sp_floor_of mg) := by
  have G_parts := ok_parts (P := P) (w := w) (base := base) T
  refine T.floor_of.F.okX scfloor_of (fun vs H Q E h => ?_) (fun cdv A outer s H vs Q E hr h => ?_)
  · obtain ⟨v, rfl, _⟩ := h
    rfl
  · obtain ⟨v, rfl, h⟩ := h
    refine ⟨_, (pss_cons (ps_asg (pe_call G_parts (hr.mono (by decide)) (by rfl) T._parts.g T._parts.F.kp T._parts.b .nil (passes_call (takes_of rfl rfl rfl rfl) (fun _ _ _ _ h => h)) (pa_cons (pv 0) (pa_cons pe_str pa_nil))) (pg_tup rfl (pgs_cons (pg_name (i := 1) scfloor_of.nd rfl (Or.inl rfl)) (pgs_cons (pg_name (i := 2) scfloor_of.nd rfl (Or.inl rfl)) pgs_nil))))
  (pss_one (ps_ret (pe_op op_fdivW (pv 1) (pv 2))))), ?_⟩
    rcases h with ⟨i, j, r, ⟨fi, fj⟩, q⟩ | ⟨r, b⟩
    · refine q_parts rfl (va_cons (val_var rfl) (va_cons val_c va_nil)) r fun H1 s1 => ?_
      exact r_ret (v_div (val_var rfl) (val_var rfl) (wide_div r.pos fj (by decide) (by decide)) _ (q H1 s1))
    · exact q_partsX (va_cons (val_var rfl) (va_cons val_c va_nil)) r b

def sp_share (mg : Str → Option Value) : Sp := fun vs H Q E => ∃ (v u : V), vs = [v, u] ∧ ((∃ i j k l, Rt H v i j ∧ Rt H u k l ∧ Fit i j ∧ Fit k l ∧ k ≠ 0 ∧ ((0 < k → ∀ (p : Addr) (H' : Hp), Same H H' → H' p = some (.tup [.int ((i * l) / gI (i * l) (j * k)), .int ((j * k) / gI (i * l) (j * k))]) → Q (.ref p) H') ∧ (k < 0 → ∀ (p : Addr) (H' : Hp), Same H H' → H' p = some (.tup [.int ((-i * l) / gI (-i * l) (j * -k)), .int ((j * -k) / gI (-i * l) (j * -k))]) → Q (.ref p) H'))) ∨
  (RatQ H v false ∧ Bad mg H (.str "ratio") v E) ∨ (∃ i j, Rt H v i j ∧ RatQ H u false ∧ Bad mg H (.str "ratio") u E) ∨ (∃ i j l, Rt H v i j ∧ Rt H u 0 l ∧ Bad mg H (.str "divisor") u E))
theorem ok_share (T : Txt K mg) : FnOk P w K mg base (L2.CX P w) 6 (fA mg "share") (fDat K (fA mg "share")) ["one", "other"] (sp_share mg) := by
  have G_parts := ok_parts (P := P) (w := w) (base := base) T
  have G_lowest := ok_lowest (P := P) (w := w) (base := base) T
  have Gi_BadNumber := init_BadNumber (P := P) (w := w) (base := base) T
  refine T.share.F.okX scshare (fun vs H Q E h => ?_) (fun cdv A outer s H vs Q E hr h => ?_)
  · obtain ⟨v, u, rfl, _⟩ := h
    rfl
  · obtain ⟨v, u, rfl, h⟩ := h
    refine ⟨_, (pss_cons (ps_asg (pe_call G_parts (hr.mono (by decide)) (by rfl) T._parts.g T._parts.F.kp T._parts.b .nil (passes_call (takes_of rfl rfl rfl rfl) (fun _ _ _ _ h => h)) (pa_cons (pv 0) (pa_cons pe_str pa_nil))) (pg_tup rfl (pgs_cons (pg_name (i := 2) scshare.nd rfl (Or.inl rfl)) (pgs_cons (pg_name (i := 3) scshare.nd rfl (Or.inl rfl)) pgs_nil))))
  (pss_cons (ps_asg (pe_call G_parts (hr.mono (by decide)) (by rfl) T._parts.g T._parts.F.kp T._parts.b .nil (passes_call (takes_of rfl rfl rfl rfl) (fun _ _ _ _ h => h)) (pa_cons (pv 1) (pa_cons pe_str pa_nil))) (pg_tup rfl (pgs_cons (pg_name (i := 4) scshare.nd rfl (Or.inl rfl)) (pgs_cons (pg_name (i := 5) scshare.nd rfl (Or.inl rfl)) pgs_nil))))
  (pss_cons (ps_if (pt_cmpR op_eq (pv 4) pe_int (nomark _)) (pss_one (ps_raise rfl (takes_of rfl rfl rfl rfl) (pmk_oex T.BadNumber.o T.BadNumber.i T.BadNumber.t Gi_BadNumber (hr.mono (by decide)) T.BadNumber.b .nil pass0 (by rfl) T.BadNumber.g (pa_cons pe_str (pa_cons (pv 1) pa_nil))))) pss_nil)
  (pss_cons (ps_if (pt_cmpR op_lt (pv 4) pe_int (nomark _)) (pss_one (ps_ret (pe_c T._lowest G_lowest (hr.mono (by decide)) (pa_cons (pe_op op_mulW (pe_un un_neg (pv 2)) (pv 5)) (pa_cons (pe_op op_mulW (pv 3) (pe_un un_neg (pv 4))) pa_nil))))) pss_nil)
  (pss_one (ps_ret (pe_c T._lowest G_lowest (hr.mono (by decide)) (pa_cons (pe_op op_mulW (pv 2) (pv 5)) (pa_cons (pe_op op_mulW (pv 3) (pv 4)) pa_nil))))))))), ?_⟩
    have ng : ∀ {n : Int}, n.natAbs < 2 ^ 1000 → (-n).natAbs < 2 ^ 1000 := fun h => by rw [Int.natAbs_neg]; exact h
    rcases h with ⟨i, j, k, l, r, t, ⟨fi, fj⟩, ⟨fk, fl⟩, k0, q1, q2⟩ | ⟨r, b⟩ | ⟨i, j, r, t, b⟩ | ⟨i, j, l, r, t, b⟩
    · refine q_parts rfl (va_cons (val_var rfl) (va_cons val_c va_nil)) r fun H1 s1 => ?_
      refine q_parts rfl (va_cons (val_var rfl) (va_cons val_c va_nil)) (t.same s1) fun H2 s2 => ?_
      refine q_unless (ans_eq (x := .int k) (y := .int 0) (val_var rfl) val_c rfl (decide_eq_false (by simp [k0]))) ?_
      by_cases hk : k < 0
      · refine q_when (b := true) (Ans.to (a_I (i := k) (j := 0) (val_var rfl) val_c) (decide_eq_true hk)) (fun _ => ?_) (fun z => nomatch z)
        exact r_ret (te := tCall _ _ _ _) (c_call (va_cons (v_mul (v_neg (val_var rfl)) (val_var rfl) (fit_mul (ng fi) fl)) (va_cons (v_mul (val_var rfl) (v_neg (val_var rfl)) (fit_mul fj (ng fk))) va_nil)) ⟨_, _, rfl, Int.mul_pos r.pos (by omega), fit_lt fj (ng fk), fun p H' s e => q2 hk p H' ((s1.trans s2).trans s) e⟩)
      · refine q_unless (Ans.to (a_I (i := k) (j := 0) (val_var rfl) val_c) (decide_eq_false hk)) ?_
        exact r_ret (te := tCall _ _ _ _) (c_call (va_cons (v_mul (val_var rfl) (val_var rfl) (fit_mul fi fl)) (va_cons (v_mul (val_var rfl) (val_var rfl) (fit_mul fj fk)) va_nil)) ⟨_, _, rfl, Int.mul_pos r.pos (by omega), fit_lt fj fk, fun p H' s e => q1 (by omega) p H' ((s1.trans s2).trans s) e⟩)
    · exact q_partsX (va_cons (val_var rfl) (va_cons val_c va_nil)) r b
    · refine q_parts rfl (va_cons (val_var rfl) (va_cons val_c va_nil)) r fun H1 s1 => ?_
      exact q_partsX (va_cons (val_var rfl) (va_cons val_c va_nil)) (t.same s1) (b.from s1)
    · refine q_parts rfl (va_cons (val_var rfl) (va_cons val_c va_nil)) r fun H1 s1 => ?_
      refine q_parts rfl (va_cons (val_var rfl) (va_cons val_c va_nil)) (t.same s1) fun H2 s2 => ?_
      refine q_when (b := true) (ans_eq (x := .int 0) (y := .int 0) (val_var rfl) val_c rfl rfl) (fun _ => ?_) (fun z => nomatch z)
      exact x_made2 (va_cons val_c (va_cons (val_var rfl) va_nil)) (b.from (s1.trans s2))

theorem q_while0 {t : TT} {tb tz : TS} {D : Ends} {σ : L2.St} {H : Hp} (h : Ans t σ H false) (q : tz D σ H) : tSeq (tWhile t tb) tz D σ H :=
  ⟨fun _ σ' H' => σ' = σ ∧ H' = H, ⟨0, rfl, rfl⟩, fun m σ' H' ⟨e1, e2⟩ => by
    subst e1 e2
    exact h _ (iteF q)⟩
theorem q_app0 {to te : TE} {tz : TS} {D : Ends} {σ : L2.St} {H : Hp} {l : Addr} {xs : List V} (h : Val to σ H (.ref l)) (hl : H l = some (.lst xs)) (he : te σ H fun v H1 => rAppend (.ref l) [v] H1 fun _ H2 => tz D σ H2) :
    tSeq (tDrop (tBM K "list" rAppend to (tCons te tNil))) tz D σ H := s_appC (D := { D with nx := tz D }) h hl he
def spDig : Sp := fun vs H Q _ => ∃ n : Int, vs = [.int n] ∧ 0 ≤ n ∧ n < 10 ^ 64 ∧ ∀ H', Same H H' → Q (.str (Str.ofString (toString n))) H'
theorem ok_digits (T : Txt K mg) : FnOk P w K mg base CX0 1 (fA mg "_digits") (fDat K (fA mg "_digits")) ["number"] spDig := by
  refine T._digits.F.ok sc_digits (fun vs H Q E h => ?_) (fun cdv A outer s H vs Q E hr h => ?_)
  · obtain ⟨n, rfl, _⟩ := h
    rfl
  · obtain ⟨n, rfl, h0, h1, k⟩ := h
    refine ⟨_, (pss_cons (ps_set (i := 1) sc_digits.nd rfl (Or.inl rfl) (pe_op op_pow pe_int pe_int))
  (pss_cons (ps_set (i := 2) sc_digits.nd rfl (Or.inl rfl) (pe_lst pa_nil))
  (pss_cons (ps_while PassesOwn.never (pt_cmpR op_ge (pv 0) (pv 1) (nomark _))
  (pss_cons (ps_asg (pe_callB call_divmod (by rfl) T.divmod (by decide +kernel) (pa_cons (pv 0) (pa_cons (pv 1) pa_nil))) (pg_tup rfl (pgs_cons (pg_name (i := 0) sc_digits.nd rfl (Or.inl rfl)) (pgs_cons (pg_name (i := 3) sc_digits.nd rfl (Or.inl rfl)) pgs_nil))))
  (pss_one (ps_expr (pe_bm PySem.F.plainAttrs_list PySem.F.slot_list_append PySem.F.type_list_append mt_append (pv 2) (pa_cons (pe_bm PySem.F.plainAttrs_str PySem.F.slot_str_zfill PySem.F.type_str_zfill mt_zfill (pe_callTy call_str_int (by rfl) T.str (by decide +kernel) (pa_cons (pv 3) pa_nil)) (pa_cons pe_int pa_nil)) pa_nil))))))
  (pss_cons (ps_expr (pe_bm PySem.F.plainAttrs_list PySem.F.slot_list_append PySem.F.type_list_append mt_append (pv 2) (pa_cons (pe_callTy call_str_int (by rfl) T.str (by decide +kernel) (pa_cons (pv 0) pa_nil)) pa_nil)))
  (pss_one (ps_ret (pe_bm PySem.F.plainAttrs_str PySem.F.slot_str_join PySem.F.type_str_join mt_join pe_str (pa_cons (pe_revL (pv 2)) pa_nil)))))))), ?_⟩
    have hn : n.natAbs < 10 ^ 64 := by omega
    have hlog : n.natAbs.log2 < 1920 := PySem.Flt.log2_lt_of (by decide) (Nat.lt_of_lt_of_le hn (by decide +kernel))
    have gt : decide ((10 : Int) ^ (64 : Int).toNat ≤ n) = false := decide_eq_false (by
      have : (10 : Int) ^ (64 : Int).toNat = 10 ^ 64 := rfl
      omega)
    refine q_set (v := .int ((10 : Int) ^ (64 : Int).toNat)) (v_pow val_c val_c (by decide)) ?_
    refine q_lst0 va_nil (by decide) fun p hp => ?_
    refine q_while0 (Ans.to (a_I (i := n) (val_var rfl) (val_var rfl)) gt) ?_
    refine q_app0 (xs := []) (val_var rfl) upd_same (v_str (n := n) (val_var rfl) hlog _ ⟨p, [], _, rfl, rfl, upd_same, by decide, ?_⟩)
    refine r_ret (te := tBM _ _ _ _ _) ?_
    refine val_c _ ⟨rfl, ?_⟩
    show tRevL K (tVar 2) _ _ _
    refine (val_var rfl) _ ?_
    refine ⟨p, _, rfl, SqL.of upd_same, fun p2 hp2 => ?_⟩
    refine ⟨_, p2, [Str.ofString (toString n)], rfl, rfl, .inl (SqL.of upd_same), ?_, ?_⟩
    · have := toString_length_le h0 (by decide) h1
      have z : (Str.ofString "").length = 0 := by decide
      simp only [List.map_cons, List.map_nil, List.sum_cons, List.sum_nil, List.length_cons, List.length_nil]
      rw [z]
      omega
    · exact k _ (Same.trans (fun b o e => by
        have hb : b ≠ p := ne_of_none e hp
        rw [upd_ne hb, upd_ne hb]
        exact e) (Same.new' hp2))
def sgn (a : Int) : Str := if a < 0 then ("-" : Str) else ("" : Str)
theorem sgn_len (a : Int) : (sgn a).length ≤ 1 := by
  unfold sgn
  split <;> decide
theorem str_assoc (a b c : Str) : a ++ b ++ c = a ++ (b ++ c) := by
  show (⟨_⟩ : Str) = ⟨_⟩
  exact congrArg Str.mk (Array.append_assoc)
theorem str_nil (a : Str) : a ++ ("" : Str) = a := by
  show (⟨_⟩ : Str) = a
  have : (Str.ofString "").cps = #[] := by decide
  exact congrArg Str.mk (by rw [this]; exact Array.append_empty)
theorem nil_str (a : Str) : ("" : Str) ++ a = a := by
  show (⟨_⟩ : Str) = a
  have : (Str.ofString "").cps = #[] := by decide
  exact congrArg Str.mk (by rw [this]; exact Array.empty_append)
theorem str_app (a b : String) : Str.ofString (a ++ b) = Str.ofString a ++ Str.ofString b := by
  rw [Str.ofString_eq_toList, Str.ofString_eq_toList, Str.ofString_eq_toList]
  show (⟨_⟩ : Str) = ⟨_⟩
  exact congrArg Str.mk (by simp)
theorem sgn_cat (a : Int) : sgn a ++ Str.ofString (toString (if a < 0 then -a else a)) = Str.ofString (toString a) := by
  unfold sgn
  by_cases h : a < 0
  · rw [if_pos h, if_pos h, toString_neg h, Int.zero_sub]
    exact (str_app _ _).symm
  · rw [if_neg h, if_neg h]
    exact nil_str _
theorem op_l {r : R2} {ta tb : TE} {σ : L2.St} {H : Hp} {Q : VK} {x : V} (h : Val ta σ H x) (k : tb σ H fun y H1 => r x y H1 Q) : tOp r ta tb σ H Q := h _ k
theorem v_tif {t : TT} {x y z : V} {σ : L2.St} {H : Hp} {b : Bool} (h : Ans t σ H b) (e : (if b = true then x else y) = z) : Val (tIf t (tC x) (tC y)) σ H z := fun Q q => h _ (by
  subst e
  cases b <;> exact q)
/-- the text of a ratio in lowest terms -/
def txtR (a b : Int) : Str := Str.ofString (toString a) ++ (if b = 1 then ("" : Str) else ("/" : Str) ++ Str.ofString (toString b))
def sp_ratio_text (mg : Str → Option Value) : Sp := fun vs H Q E => ∃ (v : V), vs = [v] ∧ ((∃ i j, Rt H v i j ∧ Fit i j ∧ (i / gI i j).natAbs < 10 ^ 64 ∧ j / gI i j < 10 ^ 64 ∧ ∀ H', Same H H' → Q (.str (txtR (i / gI i j) (j / gI i j))) H') ∨ (RatQ H v false ∧ Bad mg H (.str "ratio") v E))
theorem ok_ratio_text (T : Txt K mg) : FnOk P w K mg base (L2.CX P w) 7 (fA mg "ratio_text") (fDat K (fA mg "ratio_text")) ["value"] (sp_ratio_text mg) := by
  have Gtold := ok_told (P := P) (w := w) (base := base) T
  have G_digits := ok_digits (P := P) (w := w) (base := base) T
  refine T.ratio_text.F.okX scratio_text (fun vs H Q E h => ?_) (fun cdv A outer s H vs Q E hr h => ?_)
  · obtain ⟨v, rfl, _⟩ := h
    rfl
  · obtain ⟨v, rfl, h⟩ := h
    refine ⟨_, (pss_cons (ps_asg (pe_call Gtold (hr.mono (by decide)) (by rfl) T.told.g T.told.F.kp T.told.b .nil (passes_call (takes_of rfl rfl rfl rfl) (fun _ _ _ _ h => h)) (pa_cons (pv 0) (pa_cons pe_str pa_nil))) (pg_tup rfl (pgs_cons (pg_name (i := 1) scratio_text.nd rfl (Or.inl rfl)) (pgs_cons (pg_name (i := 2) scratio_text.nd rfl (Or.inl rfl)) pgs_nil))))
  (pss_cons (ps_set (i := 3) scratio_text.nd rfl (Or.inl rfl) (pe_ifExp (pt_cmpR op_lt (pv 1) pe_int (nomark _)) pe_str pe_str))
  (pss_cons (ps_set (i := 4) scratio_text.nd rfl (Or.inl rfl) (pe_op op_add_str (pv 3) (pe_c T._digits G_digits (hr.mono (by decide)) (pa_cons (pe_callB call_abs (by rfl) T.abs (by decide +kernel) (pa_cons (pv 1) pa_nil)) pa_nil))))
  (pss_cons (ps_if (pt_cmpR op_eq (pv 2) pe_int (nomark _)) (pss_one (ps_ret (pv 4))) pss_nil)
  (pss_one (ps_ret (pe_op op_add_str (pe_op op_add_str (pv 4) pe_str) (pe_c T._digits G_digits (hr.mono (by decide)) (pa_cons (pv 2) pa_nil))))))))), ?_⟩
    rcases h with ⟨i, j, r, f, hi, hj, q⟩ | ⟨r, b⟩
    · refine q_told rfl (va_cons (val_var rfl) (va_cons val_c va_nil)) r f fun H1 s1 => ?_
      have g0 : 0 ≤ j / gI i j := Int.ediv_nonneg (Int.le_of_lt r.pos) (Int.le_of_lt (gI_pos r.pos))
      generalize i / gI i j = a at *
      generalize j / gI i j = c at *
      have hm : 0 ≤ (if a < 0 then -a else a) ∧ (if a < 0 then -a else a) < 10 ^ 64 := by split <;> omega
      have l1 := toString_length_le hm.1 (by decide) hm.2
      have l2 := toString_length_le g0 (by decide) hj
      have l0 := sgn_len a
      have sl : 1000 ≤ sizeLine := by decide
      refine q_set (v := .str (sgn a)) (v_tif (a_I (i := a) (j := 0) (val_var rfl) val_c) (by unfold sgn; by_cases ha : a < 0 <;> simp [ha])) ?_
      refine q_asg ((val_var rfl) _ (c_call (va_cons (v_cb (z := .int (if a < 0 then -a else a)) (va_cons (val_var rfl) va_nil) fun Q q => ⟨a, rfl, q⟩) va_nil) ⟨_, rfl, hm.1, hm.2, fun H2 s2 => ⟨_, _, rfl, rfl, by omega, ?_⟩⟩))
      rw [sgn_cat]
      have l3 : (Str.ofString (toString a)).length ≤ 65 := by
        rw [← sgn_cat, Str.length_append]
        omega
      by_cases c1 : c = 1
      · refine q_when (b := true) (ans_eq (x := .int c) (y := .int 1) (val_var rfl) val_c rfl (decide_eq_true (by rw [c1]))) (fun _ => ?_) (fun z => nomatch z)
        refine st_ret (val_var rfl) ?_
        have e : txtR a c = Str.ofString (toString a) := by
          unfold txtR
          rw [if_pos c1]
          exact str_nil _
        rw [← e]
        exact q H2 (s1.trans s2)
      · refine q_unless (ans_eq (x := .int c) (y := .int 1) (val_var rfl) val_c rfl (decide_eq_false (by simp [c1]))) ?_
        have l4 : (Str.ofString "/").length = 1 := by decide
        refine r_ret (te := tOp _ _ _) (op_l (v_cats (a := Str.ofString (toString a)) (b := Str.ofString "/") (val_var rfl) val_c (by omega)) (c_call (va_cons (val_var rfl) va_nil) ⟨_, rfl, g0, hj, fun H3 s3 => ⟨_, _, rfl, rfl, ?_, ?_⟩⟩))
        · have : (Str.ofString "/").length = 1 := by decide
          rw [Str.length_append]
          omega
        · have e : txtR a c = Str.ofString (toString a) ++ Str.ofString "/" ++ Str.ofString (toString c) := by
            unfold txtR
            rw [if_neg c1]
            exact (str_assoc _ _ _).symm
          rw [← e]
          exact q H3 ((s1.trans s2).trans s3)
    · exact q_toldX (va_cons (val_var rfl) (va_cons val_c va_nil)) r b
theorem ok_pen {f : Addr} {fd : FuncData} (F : Fun K "_law_pen" "_law_pen" s_law_pen f fd) (T : Txt K mg) : FnOk P w K mg base CX0 1 f fd ["_law_script"] (spPen K) := by
  refine F.ok sc_law_pen (fun vs H Q E h => ?_) (fun cdv A outer s H vs Q E hr h => ?_)
  · obtain ⟨a, ns, rfl, _⟩ := h
    rfl
  · obtain ⟨a, ns, rfl, hS, hl, k⟩ := h
    refine ⟨_, pss_cons (ps_set (i := 1) sc_law_pen.nd rfl (Or.inl rfl) pe_int)
      (pss_cons (ps_for PassesOwn.never rfl (pi_list (pv 0)) (pg_name (i := 2) sc_law_pen.nd rfl (Or.inl rfl))
        (pss_one (ps_set (i := 1) sc_law_pen.nd rfl (Or.inl rfl) (pe_op op_mod (pe_callTy call_int1 (by rfl) T.int (by decide +kernel) (pa_cons (pe_op op_add (pe_op op_mul (pv 1) pe_int) (pv 2)) pa_nil)) pe_int))))
      (pss_one (ps_ret (pe_disp (pps_cons pe_str (pe_callTy call_list_of (by rfl) T.list (by decide +kernel) (pa_cons (pv 0) pa_nil)) (pps_cons pe_str pe_int (pps_cons pe_str pe_int (pps_cons pe_str pe_int (pps_cons pe_str (pv 1) pps_nil))))) (by rfl) (by rfl) (fun z => by cases z) (by decide))))), ?_⟩
    refine ⟨_, rfl, a, rfl, ⟨_, hS⟩, for_list (K := K) (a := a) (xs := ns.map V.int) (fun i σ H' => ∃ (v : Int) (c : Option V), σ = [some (.ref a), some (.int v), c] ∧ H' = H ∧ 0 ≤ v ∧ v < 1000000007)
      ⟨0, none, rfl, rfl, by decide, by decide⟩ (fun i σ H' _ ⟨_, _, _, e, _⟩ => e ▸ hS) ?_ ?_⟩
    · rintro i y σ H' hi ⟨v, c, rfl, rfl, h0, h1⟩
      obtain ⟨z, rfl⟩ : ∃ z, y = V.int z := by
        rw [List.getElem?_map] at hi
        cases e : ns[i]? with
        | none => rw [e] at hi; cases hi
        | some z => rw [e] at hi; exact ⟨z, (Option.some.inj hi).symm⟩
      refine ⟨_, rfl, _, _, rfl, rfl, .inl ⟨by omega, by omega⟩, _, rfl, _, _, rfl, rfl, .inl ⟨_, rfl, ?_⟩⟩
      refine ⟨_, _, rfl, rfl, (by show (0 : Int) < 1000000007; decide), ?_⟩
      exact ⟨_, _, rfl, rfl, Int.emod_nonneg _ (by decide), Int.emod_lt_of_pos _ (by decide)⟩
    · rintro σ H' ⟨v, c, rfl, rfl, h0, h1⟩
      intro p hp
      refine ⟨_, rfl, a, _, rfl, .inl (Same.seq (Same.new hp) hS), fun l hl' => ?_⟩
      refine ⟨_, rfl, ?_⟩
      have npl : p ≠ l := ne_of_none upd_same hl'
      refine ⟨by rw [upd_ne npl, upd_same], penK l 0 0 0 v, rfl, (by show 5 ≤ 15; decide), ?_⟩
      rw [merge_pen]
      have hl0 : H' l = none := (Same.new hp).free hl'
      refine k p l _ (fun b o e => ?_) ⟨0, 0, 0, v, ns, upd_same, ?_, by decide, by omega, by decide, by decide, by decide, h0, by omega⟩
      · rw [upd_ne (ne_of_none e hp), upd_ne (ne_of_none e hl0), upd_ne (ne_of_none e hp)]
        exact e
      · rw [upd_ne npl.symm, upd_same]
theorem ok_draw {f : Addr} {fd : FuncData} (F : Fun K "_law_draw" "_law_draw" s_law_draw f fd) (T : Txt K mg) : FnOk P w K mg base CX0 1 f fd ["_law_pen_here", "_law_many"] spDraw := by
  refine F.ok sc_law_draw (fun vs H Q E h => ?_) (fun cdv A outer s H vs Q E hr h => ?_)
  · obtain ⟨p, c, many, m, rfl, _⟩ := h
    rfl
  · obtain ⟨p, c, many, m, rfl, hP, hm, h0, h1, k⟩ := h
    have hu := hu_of hr
    refine ⟨_, pss_cons (ps_dput hu (pv 0) pe_str (pe_op op_add (pe_dget hu (pv 0) pe_str (fun _ _ => rfl)) pe_int) rfl)
      (C8.pss_cut (ps_if (PW.pt (pw_and (pt_cmpR op_eq (pe_dget hu (pv 0) pe_str (fun _ _ => rfl)) pe_int (nomark _))
          (pw_and1 (pt_cmpR op_lt (pe_dget hu (pv 0) pe_str (fun _ _ => rfl)) (pe_callB call_len_seq (by rfl) T.len PySem.boot_len (pa_cons (pe_dget hu (pv 0) pe_str (fun _ _ => rfl)) pa_nil)) (nomark _)))))
        (pss_cons (ps_set (i := 2) sc_law_draw.nd rfl (Or.inl rfl) (pe_ix ix_list (pe_dget hu (pv 0) pe_str (fun _ _ => rfl)) (pe_dget hu (pv 0) pe_str (fun _ _ => rfl)) (fun _ _ => rfl)))
        (pss_cons (ps_dput hu (pv 0) pe_str (pe_op op_add (pe_dget hu (pv 0) pe_str (fun _ _ => rfl)) pe_int) rfl)
        (pss_one (ps_if (pt_cmpR op_ge (pv 2) (pe_op op_pow pe_int pe_int) (nomark _))
          (pss_one (ps_dput hu (pv 0) pe_str (pe_op op_sub (pv 2) (pe_op op_pow pe_int pe_int)) rfl))
          (pss_one (ps_dput hu (pv 0) pe_str (pe_op op_mod (pe_callTy call_int1 (by rfl) T.int (by decide +kernel) (pa_cons (pe_op op_add (pe_op op_mul (pe_dget hu (pv 0) pe_str (fun _ _ => rfl)) pe_int) (pv 2)) pa_nil)) pe_int) rfl))))))
        pss_nil)
      (pss_cons (ps_if (pt_cmpR op_gt (pe_dget hu (pv 0) pe_str (fun _ _ => rfl)) pe_int (nomark _))
        (pss_cons (ps_set (i := 3) sc_law_draw.nd rfl (Or.inl rfl) (pe_op op_modN (pe_callTy call_int1 (by rfl) T.int (by decide +kernel) (pa_cons (pe_dget hu (pv 0) pe_str (fun _ _ => rfl)) pa_nil)) (pv 1)))
        (pss_cons (ps_dput hu (pv 0) pe_str (pe_op op_fdivN (pe_dget hu (pv 0) pe_str (fun _ _ => rfl)) (pv 1)) rfl)
        (pss_one (ps_ret (pv 3)))))
        pss_nil)
      (pss_cons (ps_set (i := 4) sc_law_draw.nd rfl (Or.inl rfl) (pe_op op_add (pe_op op_add (pe_dget hu (pv 0) pe_str (fun _ _ => rfl)) (pe_op op_mul (pe_dget hu (pv 0) pe_str (fun _ _ => rfl)) pe_int)) pe_int))
      (pss_one (ps_ret (pe_op op_modN (pe_op op_fdiv (pe_callTy call_int1 (by rfl) T.int (by decide +kernel) (pa_cons (pe_op op_mod (pe_op op_pow (pv 4) pe_int) pe_int) pa_nil)) pe_int) (pv 1))))))), ?_⟩
    obtain ⟨a, d, n, fo, ns, hp, hc, b1, b2, b3, b4, b5, b6, b7⟩ := hP
    have npc : c ≠ p := ne_of hc hp (by intro z; cases z)
    have get : ∀ {z1 z2 z3 : Option V} {H1 : Hp} {c : Addr} {a d n f : Int} {k : Key} {v : V}, H1 p = some (.dK (penK c a d n f)) → valV (penK c a d n f) k = some v →
      Val (tDGet (tVar 0) (tC (kV k))) [some (.ref p), some (.int many), z1, z2, z3] H1 v := fun h1 h2 => v_get (val_var rfl) h1 h2
    have pn : ∀ {H1 : Hp} {o : HO}, H1 c = some (.lst (ns.map V.int)) → upd H1 p o c = some (.lst (ns.map V.int)) := fun e => by rw [upd_ne npc]; exact e
    have bu : ∀ {H1 : Hp} {o : HO}, But p H H1 → But p H (upd H1 p o) := fun e b o h ne => by rw [upd_ne ne]; exact e b o h ne
    -- count
    refine s_put (k := kCo) (val_var rfl) (v_I0 (get (k := kCo) hp pen_count) val_c) hp (by show 5 ≤ 100; decide) ?_
    rw [put_count]
    have hp1 : upd H p (HO.dK (penK c a d (n + 1) fo)) p = some (.dK (penK c a d (n + 1) fo)) := upd_same
    have hc1 : upd H p (HO.dK (penK c a d (n + 1) fo)) c = some (.lst (ns.map V.int)) := pn hc
    have bt : But p H (upd H p (HO.dK (penK c a d (n + 1) fo))) := bu But.refl
    generalize upd H p (HO.dK (penK c a d (n + 1) fo)) = H1 at hp1 hc1 bt
    refine ⟨fun σ' H' => ∃ (a' d' f' : Int) (z : Option V), σ' = [some (.ref p), some (.int many), z, none, none] ∧ But p H H' ∧ H' p = some (.dK (penK c a' d' (n + 1) f')) ∧ H' c = some (.lst (ns.map V.int)) ∧
      0 ≤ a' ∧ a' ≤ ns.length ∧ 0 ≤ d' ∧ 0 ≤ f' ∧ f' < 2147483587, ?_, ?_⟩
    · -- a cell is taken
      refine st_if (b := decide (d = 0) && decide (a < ns.length)) (ans_and2 ((ans_eq (get (k := kDi) hp1 pen_digits) val_c rfl rfl).to (by simp)) ((a_I (get (k := kAt) hp1 pen_at) (v_len (get (k := kCe) hp1 pen_cells) (.inl (SqL.of hc1)))).to (by simp))) (fun e => ?_) (fun e => ?_)
      · have e1 : d = 0 ∧ a < ns.length := by simpa using e
        obtain ⟨i, rfl⟩ : ∃ i : Nat, a = i := ⟨a.toNat, by omega⟩
        have hi : i < ns.length := by omega
        refine st_set (v := .int ns[i]) (v_ixL (get (k := kCe) hp1 pen_cells) (get (k := kAt) hp1 pen_at) (SqL.of hc1) (by simp [hi])) ?_
        refine s_put (k := kAt) (val_var rfl) (v_I0 (get (k := kAt) hp1 pen_at) val_c) hp1 (by show 5 ≤ 100; decide) ?_
        rw [put_at]
        refine st_if (b := decide (ns[i] ≥ 10 ^ 18)) ((a_I (val_var rfl) (v_pow val_c val_c ⟨by decide, by decide, by decide⟩)).to ?_) (fun e2 => ?_) (fun e2 => ?_)
        · simp
        · refine s_put (k := kDi) (val_var rfl) (v_I0 (val_var rfl) (v_pow val_c val_c ⟨by decide, by decide, by decide⟩)) upd_same (by show 5 ≤ 100; decide) ?_
          rw [put_digits]
          exact ⟨_, _, _, _, rfl, bu (bu bt), upd_same, pn (pn hc1), by omega, by omega, by simp at e2; simp; omega, b6, b7⟩
        · refine s_put (k := kFo) (val_var rfl) (v_I (v_int1 (v_I0 (v_I (get (k := kFo) upd_same pen_fold) val_c (.inl ⟨by omega, by omega⟩)) (val_var rfl))) val_c (by decide)) upd_same (by show 5 ≤ 100; decide) ?_
          rw [put_fold]
          exact ⟨_, _, _, _, rfl, bu (bu bt), upd_same, pn (pn hc1), by omega, by omega, b3, Int.emod_nonneg _ (by decide), Int.emod_lt_of_pos _ (by decide)⟩
      · exact ⟨a, d, fo, none, rfl, bt, hp1, hc1, b1, b2, b3, b6, b7⟩
    · rintro σ' H' ⟨a', d', f', z, rfl, bt', hp', hc', g1, g2, g3, g4, g5⟩
      refine st_if (b := decide (0 < d')) ((a_I (get (k := kDi) hp' pen_digits) val_c).to (by simp)) (fun e => ?_) (fun e => ?_)
      · have e1 : 0 < d' := by simpa using e
        refine st_set (v_I (v_int1 (get (k := kDi) hp' pen_digits)) (val_var rfl) (by omega)) ?_
        refine s_put (k := kDi) (val_var rfl) (v_I (get (k := kDi) hp' pen_digits) (val_var rfl) ⟨by omega, by omega⟩) hp' (by show 5 ≤ 100; decide) ?_
        rw [put_digits]
        refine st_ret (val_var rfl) ?_
        refine k _ _ (Int.fmod_nonneg_of_pos _ h0) (Int.fmod_lt_of_pos _ h0) (bu bt') ⟨_, _, _, _, _, upd_same, pn hc', g1, g2, Int.fdiv_nonneg (by omega) (by omega), by omega, by omega, g4, g5⟩
      · refine st_set (v_add (v_add (get (k := kFo) hp' pen_fold) (v_mul (get (k := kCo) hp' pen_count) val_c (.inl ⟨by omega, by unfold most at hm; omega⟩))) val_c) ?_
        refine st_ret (v_fmod (v_div (v_int1 (v_mod (v_pow (val_var rfl) val_c ⟨by decide, by decide, by unfold most at hm; omega⟩) val_c (by decide))) val_c ⟨by decide, by decide⟩) (val_var rfl) (by omega)) ?_
        exact k _ _ (Int.fmod_nonneg_of_pos _ h0) (Int.fmod_lt_of_pos _ h0) bt' ⟨_, _, _, _, _, hp', hc', g1, g2, g3, by omega, by omega, g4, g5⟩
theorem But.seq {K : PySem.W.Frag} {H H' : Hp} {p q : Addr} {kvs : List (Key × V)} {xs : List V} (b : But p H H') (hp : H p = some (.dK kvs)) (h : SqL K H q xs) : SqL K H' q xs := by
  rcases h with (h | ⟨o, h⟩) | h
  · exact .inl (.inl (b _ _ h (ne_of h hp (by intro z; cases z))))
  · exact .inl (.inr ⟨o, b _ _ h (ne_of h hp (by intro z; cases z))⟩)
  · exact .inr h
theorem PenAt.dk {H : Hp} {p c : Addr} {m : Nat} (h : PenAt H p c m) : ∃ kvs, H p = some (.dK kvs) := by
  obtain ⟨a, d, n, f, ns, h1, _⟩ := h
  exact ⟨_, h1⟩
/-- one item of a list is drawn -/
def spPick (K : PySem.W.Frag) : Sp := fun vs H Q _ => ∃ (p c q : Addr) (xs : List V) (m : Nat), vs = [.ref p, .ref q] ∧ PenAt H p c m ∧ m < most ∧ SqL K H q xs ∧ 0 < xs.length ∧ xs.length < 1000000000 ∧
  ∀ (v : V) (H' : Hp), v ∈ xs → But p H H' → PenAt H' p c (m + 1) → Q v H'
theorem ok_pick (T : Txt K mg) : FnOk P w K mg base CX0 3 (fA mg "_law_pick") (fDat K (fA mg "_law_pick")) ["_law_pen_here", "_law_some"] (spPick K) := by
  have G_law_draw := ok_draw (P := P) (w := w) (base := base) T._law_draw.F T
  refine T._law_pick.F.ok sc_law_pick (fun vs H Q E h => ?_) (fun cdv A outer s H vs Q E hr h => ?_)
  · obtain ⟨p, c, q, xs, m, rfl, _⟩ := h
    rfl
  · obtain ⟨p, c, q, xs, m, rfl, hP, hm, hS, h0, h1, k⟩ := h
    refine ⟨_, (pss_one (ps_ret (pe_ix ix_list (pv 1) (pe_c T._law_draw G_law_draw (hr.mono (by decide)) (pa_cons (pv 0) (pa_cons (pe_callB call_len_seq (by rfl) T.len PySem.boot_len (pa_cons (pv 1) pa_nil)) pa_nil))) (fun _ _ => rfl)))), ?_⟩
    refine ⟨_, rfl, c_call (va_cons (val_var rfl) (va_cons (v_len (val_var rfl) (.inl hS)) va_nil)) ⟨p, c, _, m, rfl, hP, hm, by omega, by omega, fun r H' r0 r1 b P' => ?_⟩⟩
    obtain ⟨kvs, hd⟩ := hP.dk
    obtain ⟨i, rfl⟩ : ∃ i : Nat, r = i := ⟨r.toNat, by omega⟩
    have hi : i < xs.length := by omega
    exact ⟨q, xs, i, xs[i], rfl, rfl, b.seq hd hS, atI_nat (List.getElem?_eq_getElem hi), k _ _ (List.getElem_mem hi) b P'⟩
/-- a number of any of some sizes -/
def big : Int := 1000000000000000000
def spFar : Sp := fun vs H Q _ => ∃ (p c : Addr) (m : Nat), vs = [.ref p] ∧ PenAt H p c m ∧ m + 8 < most ∧ ∀ (n : Int) (H' : Hp), -big < n → n < big → But p H H' → PenAt H' p c (m + 8) → Q (.int n) H'
theorem ok_far (T : Txt K mg) : FnOk P w K mg base CX0 5 (fA mg "_law_far") (fDat K (fA mg "_law_far")) ["_law_pen_here"] spFar := by
  have G_law_draw := ok_draw (P := P) (w := w) (base := base) T._law_draw.F T
  have G_law_pick := ok_pick (P := P) (w := w) (base := base) T
  refine T._law_far.F.ok sc_law_far (fun vs H Q E h => ?_) (fun cdv A outer s H vs Q E hr h => ?_)
  · obtain ⟨p, c, m, rfl, _⟩ := h
    rfl
  · obtain ⟨p, c, m, rfl, hP, hm, k⟩ := h
    refine ⟨_, (pss_cons (ps_set (i := 1) sc_law_far.nd rfl (Or.inl rfl) pe_int)
  (pss_cons (ps_for PassesOwn.never rfl (pi_range1 (by rfl) T.range (pa_cons (pe_c T._law_pick G_law_pick (hr.mono (by decide)) (pa_cons (pv 0) (pa_cons (pe_lst (pa_cons pe_int (pa_cons pe_int (pa_cons pe_int (pa_cons pe_int (pa_cons pe_int pa_nil)))))) pa_nil))) pa_nil)) (pg_name (i := 2) sc_law_far.nd rfl (Or.inl rfl))
  (pss_one (ps_set (i := 1) sc_law_far.nd rfl (Or.inl rfl) (pe_op op_add (pe_op op_mul (pv 1) pe_int) (pe_c T._law_draw G_law_draw (hr.mono (by decide)) (pa_cons (pv 0) (pa_cons pe_int pa_nil)))))))
  (pss_one (ps_ret (pe_ifExp (pt_cmpR op_gt (pe_c T._law_draw G_law_draw (hr.mono (by decide)) (pa_cons (pv 0) (pa_cons pe_int pa_nil))) pe_int (nomark _)) (pv 1) (pe_un un_neg (pv 1))))))), ?_⟩
    -- how many groups of three figures
    refine ⟨_, rfl, l_lst (va_cons val_c (va_cons val_c (va_cons val_c (va_cons val_c (va_cons val_c va_nil))))) (by decide) fun q hq => ?_⟩
    refine ⟨p, c, q, _, m, rfl, hP.same (Same.new hq), by omega, SqL.of upd_same, by decide, by decide, fun v H1 hv b1 P1 => ?_⟩
    obtain ⟨j, rfl, hj⟩ : ∃ j : Nat, v = .int j ∧ j ≤ 6 := by
      simp at hv
      rcases hv with e | e | e | e
      · exact ⟨0, e, by decide⟩
      · exact ⟨1, e, by decide⟩
      · exact ⟨2, e, by decide⟩
      · exact ⟨6, e, by decide⟩
    have b0 : But p H H1 := (But.of (Same.new hq)).trans b1
    refine ⟨(j : Int), rfl, by omega, by omega, for_range (lo := 0) (n := (j : Int).toNat) (fun i σ H' => ∃ (v : Int) (z : Option V), σ = [some (.ref p), some (.int v), z] ∧ But p H H' ∧ PenAt H' p c (m + 1 + i) ∧ 0 ≤ v ∧ v < ((1000 ^ i : Nat) : Int))
      ⟨0, none, rfl, b0, P1, by decide, by decide⟩ ?_ ?_⟩
    · rintro i σ H' hi ⟨v, z, rfl, b, P', v0, v1⟩
      have hi6 : i < 6 := by omega
      have hv : v < 1000000000000000 := by
        have : 1000 ^ i ≤ 1000 ^ 5 := Nat.pow_le_pow_right (by decide) (by omega)
        omega
      refine (v_mul (C := CMul) (val_var rfl) val_c (.inl ⟨by omega, by omega⟩)) _ ?_
      refine c_call (va_cons (val_var rfl) (va_cons val_c va_nil)) ⟨p, c, 1000, m + 1 + i, rfl, P', by omega, by decide, by decide, fun r H2 r0 r1 b2 P2 => ?_⟩
      refine ⟨_, _, rfl, rfl, _, _, rfl, b.trans b2, P2, by omega, ?_⟩
      rw [Nat.pow_succ]
      omega
    · rintro σ H' ⟨v, z, rfl, b, P', v0, v1⟩
      have hv : v < big := by
        have : 1000 ^ (j : Int).toNat ≤ 1000 ^ 6 := Nat.pow_le_pow_right (by decide) (by omega)
        unfold big
        omega
      refine c_call (va_cons (val_var rfl) (va_cons val_c va_nil)) ⟨p, c, 3, m + 1 + (j : Int).toNat, rfl, P', by omega, by decide, by decide, fun r H2 r0 r1 b2 P2 => ?_⟩
      refine ⟨_, _, rfl, rfl, _, rfl, ?_⟩
      refine ite2 (fun _ => ?_) (fun _ => ?_)
      · exact ⟨_, rfl, k _ _ (by unfold big at *; omega) hv (b.trans b2) (P2.le (by omega))⟩
      · exact ⟨_, rfl, _, rfl, k _ _ (by omega) (by unfold big at *; omega) (b.trans b2) (P2.le (by omega))⟩

/-! ### which class -/

/-! ### the law's own ratios -/
theorem half {a b : Nat} (h : b < a) (h0 : 0 < b) : b * (a % b) * 2 ≤ a * b := by
  have h1 := Nat.mod_lt a h0
  have h2 := Nat.mod_add_div a b
  have h3 : 1 ≤ a / b := Nat.div_pos (Nat.le_of_lt h) h0
  have h4 : b ≤ b * (a / b) := Nat.le_mul_of_pos_right _ h3
  have h5 : a % b * 2 ≤ a := by omega
  rw [Nat.mul_assoc, Nat.mul_comm a b]
  exact Nat.mul_le_mul_left _ h5
theorem v_abs {te : TE} {σ : L2.St} {H : Hp} {x : Int} (h : Val te σ H (.int x)) : Val (tCB (fun xs H Q => ∃ i, xs = [.int i] ∧ Q (.int (if i < 0 then -i else i)) H) (tCons te tNil)) σ H (.int (x.natAbs : Int)) := fun Q q => h _ ⟨x, rfl, by
  have e : (if x < 0 then -x else x) = (x.natAbs : Int) := by split <;> omega
  rw [e]
  exact q⟩
def spLGcd : Sp := fun vs H Q _ => ∃ x y : Int, vs = [.int x, .int y] ∧ x.natAbs < 2 ^ wd ∧ y.natAbs < 2 ^ wd ∧ Q (.int (gI x y)) H
theorem ok_law_gcd (T : Txt K mg) : FnOk P w K mg base CX0 1 (fA mg "_law_gcd") (fDat K (fA mg "_law_gcd")) ["_law_one", "_law_two"] spLGcd := by
  refine T._law_gcd.F.ok sc_law_gcd (fun vs H Q E h => ?_) (fun cdv A outer s H vs Q E hr h => ?_)
  · obtain ⟨x, y, rfl, _⟩ := h
    rfl
  · obtain ⟨x, y, rfl, hx, hy, k⟩ := h
    refine ⟨_, (pss_cons (ps_par (i := 0) (j := 1) (by rfl) sc_law_gcd.nd rfl rfl (by decide) rfl rfl (pa_cons (pe_callB call_abs (by rfl) T.abs (by decide +kernel) (pa_cons (pv 0) pa_nil)) (pa_cons (pe_callB call_abs (by rfl) T.abs (by decide +kernel) (pa_cons (pv 1) pa_nil)) pa_nil)) (by rfl))
  (pss_cons (ps_for PassesOwn.never rfl (pi_range1 (by rfl) T.range (pa_cons pe_int pa_nil)) (pg_name (i := 2) sc_law_gcd.nd rfl (Or.inl rfl))
  (pss_cons (ps_if (pt_cmpR op_eq (pv 1) pe_int (nomark _)) (pss_one ps_break) pss_nil)
  (pss_one (ps_par (i := 0) (j := 1) (by rfl) sc_law_gcd.nd rfl rfl (by decide) rfl rfl (pa_cons (pv 1) (pa_cons (pe_op op_modN (pe_callTy call_int1 (by rfl) T.int (by decide +kernel) (pa_cons (pv 0) pa_nil)) (pv 1)) pa_nil)) (by rfl)))))
  (pss_one (ps_ret (pv 0))))), ?_⟩
    have hM : x.natAbs * y.natAbs < 2 ^ (wd + wd) := by
      rw [Nat.pow_add]
      exact Nat.mul_lt_mul'' hx hy
    refine (show tPar 0 1 _ _ _ _ from ?_)
    refine (va_cons (v_abs (val_var rfl)) (va_cons (v_abs (val_var rfl)) va_nil)) _ ⟨_, _, rfl, ?_⟩
    refine q_forR1 (n := 50000) (va_cons val_c va_nil) (by decide) (fun i σ H' => ∃ (a b : Nat) (z : Option V), σ = [some (.int a), some (.int b), z] ∧ H' = H ∧ Nat.gcd a b = Nat.gcd x.natAbs y.natAbs ∧ (i = 0 ∨ b < a) ∧ a * b * 2 ^ (i - 1) ≤ x.natAbs * y.natAbs)
      ⟨x.natAbs, y.natAbs, none, rfl, rfl, rfl, .inl rfl, by simp⟩ ?_ ?_
    · rintro i σ H' hi ⟨a, b, z, rfl, rfl, hg, hb, hm⟩
      refine (show tSeq (tIfS _ _ _) _ _ _ _ from ?_)
      by_cases b0 : b = 0
      · subst b0
        refine q_when (b := true) (ans_eq (x := .int ((0 : Nat) : Int)) (y := .int 0) (val_var rfl) val_c rfl rfl) (fun _ => ?_) (fun z => nomatch z)
        unfold tBreak
        refine st_ret (val_var rfl) ?_
        have e : gI x y = (a : Int) := by
          unfold gI
          rw [← hg, Nat.gcd_zero_right]
        rw [← e]
        exact k
      · refine q_unless (ans_eq (x := .int (b : Int)) (y := .int 0) (val_var rfl) val_c rfl (decide_eq_false (by simp [b0]))) ?_
        have e : ((a : Int).fmod (b : Int)) = ((a % b : Nat) : Int) := by
          rw [Int.fmod_eq_emod_of_nonneg _ (by omega)]
          exact (Int.natCast_emod a b).symm
        refine (show tPar 0 1 _ _ _ _ from ?_)
        refine (va_cons (val_var rfl) (va_cons (v_fmod (i := (a : Int)) (j := (b : Int)) (v_int1 (val_var rfl)) (val_var rfl) (by omega)) va_nil)) _ ⟨_, _, rfl, ?_⟩
        rw [e]
        refine ⟨b, a % b, _, rfl, rfl, ?_, .inr (Nat.mod_lt _ (by omega)), ?_⟩
        · rw [← hg, Nat.gcd_comm b, ← Nat.gcd_rec, Nat.gcd_comm]
        · rcases hb with rfl | hb
          · refine Nat.le_trans ?_ hm
            simp only [Nat.zero_add, Nat.sub_self, Nat.zero_sub, Nat.pow_zero, Nat.mul_one]
            rw [Nat.mul_comm a b]
            exact Nat.mul_le_mul_left _ (Nat.mod_le _ _)
          · cases i with
            | zero => 
              refine Nat.le_trans ?_ hm
              simp only [Nat.zero_add, Nat.sub_self, Nat.zero_sub, Nat.pow_zero, Nat.mul_one]
              rw [Nat.mul_comm a b]
              exact Nat.mul_le_mul_left _ (Nat.mod_le _ _)
            | succ i =>
              refine Nat.le_trans ?_ hm
              have h := Nat.mul_le_mul_right (2 ^ i) (half hb (by omega))
              simp only [Nat.add_sub_cancel]
              rw [Nat.pow_succ, Nat.mul_comm (2 ^ i) 2, ← Nat.mul_assoc]
              exact h
    · rintro σ H' ⟨a, b, z, rfl, rfl, hg, hb, hm⟩
      have b0 : b = 0 := by
        rcases Nat.eq_zero_or_pos b with h | h
        · exact h
        · exfalso
          have ha : b < a := hb.resolve_left (by decide)
          have h1 : 1 ≤ a * b := Nat.mul_pos (by omega) h
          have h2 : 2 ^ (50000 - 1) ≤ a * b * 2 ^ (50000 - 1) := Nat.le_mul_of_pos_left _ h1
          have h3 : 2 ^ (wd + wd) ≤ 2 ^ (50000 - 1) := Nat.pow_le_pow_right (by decide) (by decide)
          exact Nat.lt_irrefl _ (Nat.lt_of_le_of_lt (Nat.le_trans h3 (Nat.le_trans h2 hm)) hM)
      subst b0
      refine st_ret (val_var rfl) ?_
      have e : gI x y = (a : Int) := by
        unfold gI
        rw [← hg, Nat.gcd_zero_right]
      rw [← e]
      exact k
def spLQ : Sp := fun vs H Q _ => ∃ x y : Int, vs = [.int x, .int y] ∧ x.natAbs < 2 ^ wd ∧ y.natAbs < 2 ^ wd ∧ ((0 < y ∧ ∀ (p : Addr) (H' : Hp), Same H H' → H' p = some (.tup [.int (x / gI x y), .int (y / gI x y)]) → Q (.ref p) H') ∨
  (y < 0 ∧ ∀ (p : Addr) (H' : Hp), Same H H' → H' p = some (.tup [.int ((-x) / gI x y), .int ((-y) / gI x y)]) → Q (.ref p) H'))
theorem ok_law_q (T : Txt K mg) : FnOk P w K mg base CX0 2 (fA mg "_law_q") (fDat K (fA mg "_law_q")) ["_law_top", "_law_bottom"] spLQ := by
  have G_law_gcd := ok_law_gcd (P := P) (w := w) (base := base) T
  refine T._law_q.F.ok sc_law_q (fun vs H Q E h => ?_) (fun cdv A outer s H vs Q E hr h => ?_)
  · obtain ⟨x, y, rfl, _⟩ := h
    rfl
  · obtain ⟨x, y, rfl, hx, hy, k⟩ := h
    refine ⟨_, (pss_cons (ps_set (i := 2) sc_law_q.nd rfl (Or.inl rfl) (pe_c T._law_gcd G_law_gcd (hr.mono (by decide)) (pa_cons (pv 0) (pa_cons (pv 1) pa_nil))))
  (pss_cons (ps_set (i := 2) sc_law_q.nd rfl (Or.inl rfl) (pe_ifExp (pt_cmpR op_lt (pv 1) pe_int (nomark _)) (pe_un un_neg (pv 2)) (pv 2)))
  (pss_one (ps_ret (pe_tup (pa_cons (pe_op op_fdivS (pv 0) (pv 2)) (pa_cons (pe_op op_fdivS (pv 1) (pv 2)) pa_nil))))))), ?_⟩
    refine q_asg (c_call (va_cons (val_var rfl) (va_cons (val_var rfl) va_nil)) ⟨x, y, rfl, hx, hy, ?_⟩)
    have big : ∀ {d : Int}, d = gI x y ∨ d = -gI x y → 0 < gI x y → y ≠ 0 → d ≠ 0 ∧ d.natAbs.log2 < 9000 := fun {d} h g y0 => by
      have l : gI x y ≤ y.natAbs := by
        have : Nat.gcd x.natAbs y.natAbs ≤ y.natAbs := Nat.le_of_dvd (by omega) (Nat.gcd_dvd_right _ _)
        unfold gI
        omega
      have n : d.natAbs ≤ y.natAbs := by omega
      exact ⟨by omega, Nat.lt_of_lt_of_le (PySem.Flt.log2_lt_of (k := wd) (by decide) (Nat.lt_of_le_of_lt n hy)) (by decide)⟩
    rcases k with ⟨y0, k⟩ | ⟨y0, k⟩
    · have g := gI_pos (i := x) y0
      refine q_asg ((a_I (i := y) (j := 0) (val_var rfl) val_c) _ ?_)
      rw [decide_eq_false (by omega : ¬ y < 0)]
      refine iteF ?_
      refine (val_var rfl) _ ?_
      refine r_ret (te := tTup _) ((va_cons (v_fdiv (i := x) (j := gI x y) (val_var rfl) (val_var rfl) (big (.inl rfl) g (by omega))) (va_cons (v_fdiv (i := y) (j := gI x y) (val_var rfl) (val_var rfl) (big (.inl rfl) g (by omega))) va_nil)) _ ⟨by show 2 ≤ sizeLine; decide, fun p hp => k p _ (Same.new' hp) ?_⟩)
      rw [Int.fdiv_eq_ediv_of_nonneg _ (by omega), Int.fdiv_eq_ediv_of_nonneg _ (by omega)]
      exact upd_same
    · have g : 0 < gI x y := by
        have : 0 < Nat.gcd x.natAbs y.natAbs := Nat.gcd_pos_of_pos_right _ (by omega)
        unfold gI
        omega
      have ng : ∀ x d : Int, 0 < d → x.fdiv (-d) = (-x) / d := fun x d h => by
        have e := Int.neg_fdiv_neg (-x) d
        rw [Int.neg_neg] at e
        rw [e, Int.fdiv_eq_ediv_of_nonneg _ (by omega)]
      refine q_asg ((a_I (i := y) (j := 0) (val_var rfl) val_c) _ ?_)
      rw [decide_eq_true (by omega : y < 0)]
      refine iteT ?_
      refine (v_neg (n := gI x y) (val_var rfl)) _ ?_
      refine r_ret (te := tTup _) ((va_cons (v_fdiv (i := x) (j := -gI x y) (val_var rfl) (val_var rfl) (big (.inr rfl) g (by omega))) (va_cons (v_fdiv (i := y) (j := -gI x y) (val_var rfl) (val_var rfl) (big (.inr rfl) g (by omega))) va_nil)) _ ⟨by show 2 ≤ sizeLine; decide, fun p hp => k p _ (Same.new' hp) ?_⟩)
      rw [ng _ _ g, ng _ _ g]
      exact upd_same

def sp_law_plus : Sp := fun vs H Q _ => ∃ (p q : Addr) (i j k l : Int), vs = [.ref p, .ref q] ∧ H p = some (.tup [.int i, .int j]) ∧ H q = some (.tup [.int k, .int l]) ∧ Fit i j ∧ Fit k l ∧ 0 < j ∧ 0 < l ∧ ∀ (p : Addr) (H' : Hp), Same H H' → H' p = some (.tup [.int ((i * l + k * j) / gI (i * l + k * j) (j * l)), .int ((j * l) / gI (i * l + k * j) (j * l))]) → Q (.ref p) H'
theorem ok_law_plus (T : Txt K mg) : FnOk P w K mg base CX0 3 (fA mg "_law_plus") (fDat K (fA mg "_law_plus")) ["_law_one", "_law_two"] sp_law_plus := by
  have G_law_q := ok_law_q (P := P) (w := w) (base := base) T
  refine T._law_plus.F.ok sc_law_plus (fun vs H Q E h => ?_) (fun cdv A outer s H vs Q E hr h => ?_)
  · obtain ⟨p, q, i, j, k, l, rfl, _⟩ := h
    rfl
  · obtain ⟨p, q, i, j, k, l, rfl, hp, hq, ⟨fi, fj⟩, ⟨fk, fl⟩, j0, l0, z⟩ := h
    refine ⟨_, (pss_one (ps_ret (pe_c T._law_q G_law_q (hr.mono (by decide)) (pa_cons (pe_op op_add (pe_op op_mulW (pe_ix ix_tup (pv 0) pe_int (fun _ _ => rfl)) (pe_ix ix_tup (pv 1) pe_int (fun _ _ => rfl))) (pe_op op_mulW (pe_ix ix_tup (pv 1) pe_int (fun _ _ => rfl)) (pe_ix ix_tup (pv 0) pe_int (fun _ _ => rfl)))) (pa_cons (pe_op op_mulW (pe_ix ix_tup (pv 0) pe_int (fun _ _ => rfl)) (pe_ix ix_tup (pv 1) pe_int (fun _ _ => rfl))) pa_nil))))), ?_⟩
    exact r_ret (te := tCall _ _ _ _) (c_call (va_cons (v_add (v_mul (v_ixT (n := 0) (val_var rfl) val_c (SqT.of hp) rfl) (v_ixT (n := 1) (val_var rfl) val_c (SqT.of hq) rfl) (fit_mul fi fl)) (v_mul (v_ixT (n := 0) (val_var rfl) val_c (SqT.of hq) rfl) (v_ixT (n := 1) (val_var rfl) val_c (SqT.of hp) rfl) (fit_mul fk fj))) (va_cons (v_mul (v_ixT (n := 1) (val_var rfl) val_c (SqT.of hp) rfl) (v_ixT (n := 1) (val_var rfl) val_c (SqT.of hq) rfl) (fit_mul fj fl)) va_nil)) ⟨_, _, rfl, fit_add (wide_lt fi fl) (wide_lt fk fj), fit_lt fj fl, .inl ⟨Int.mul_pos j0 l0, z⟩⟩)

def sp_law_minus : Sp := fun vs H Q _ => ∃ (p q : Addr) (i j k l : Int), vs = [.ref p, .ref q] ∧ H p = some (.tup [.int i, .int j]) ∧ H q = some (.tup [.int k, .int l]) ∧ Fit i j ∧ Fit k l ∧ 0 < j ∧ 0 < l ∧ ∀ (p : Addr) (H' : Hp), Same H H' → H' p = some (.tup [.int ((i * l - k * j) / gI (i * l - k * j) (j * l)), .int ((j * l) / gI (i * l - k * j) (j * l))]) → Q (.ref p) H'
theorem ok_law_minus (T : Txt K mg) : FnOk P w K mg base CX0 3 (fA mg "_law_minus") (fDat K (fA mg "_law_minus")) ["_law_one", "_law_two"] sp_law_minus := by
  have G_law_q := ok_law_q (P := P) (w := w) (base := base) T
  refine T._law_minus.F.ok sc_law_minus (fun vs H Q E h => ?_) (fun cdv A outer s H vs Q E hr h => ?_)
  · obtain ⟨p, q, i, j, k, l, rfl, _⟩ := h
    rfl
  · obtain ⟨p, q, i, j, k, l, rfl, hp, hq, ⟨fi, fj⟩, ⟨fk, fl⟩, j0, l0, z⟩ := h
    refine ⟨_, (pss_one (ps_ret (pe_c T._law_q G_law_q (hr.mono (by decide)) (pa_cons (pe_op op_sub (pe_op op_mulW (pe_ix ix_tup (pv 0) pe_int (fun _ _ => rfl)) (pe_ix ix_tup (pv 1) pe_int (fun _ _ => rfl))) (pe_op op_mulW (pe_ix ix_tup (pv 1) pe_int (fun _ _ => rfl)) (pe_ix ix_tup (pv 0) pe_int (fun _ _ => rfl)))) (pa_cons (pe_op op_mulW (pe_ix ix_tup (pv 0) pe_int (fun _ _ => rfl)) (pe_ix ix_tup (pv 1) pe_int (fun _ _ => rfl))) pa_nil))))), ?_⟩
    exact r_ret (te := tCall _ _ _ _) (c_call (va_cons (v_sub (v_mul (v_ixT (n := 0) (val_var rfl) val_c (SqT.of hp) rfl) (v_ixT (n := 1) (val_var rfl) val_c (SqT.of hq) rfl) (fit_mul fi fl)) (v_mul (v_ixT (n := 0) (val_var rfl) val_c (SqT.of hq) rfl) (v_ixT (n := 1) (val_var rfl) val_c (SqT.of hp) rfl) (fit_mul fk fj))) (va_cons (v_mul (v_ixT (n := 1) (val_var rfl) val_c (SqT.of hp) rfl) (v_ixT (n := 1) (val_var rfl) val_c (SqT.of hq) rfl) (fit_mul fj fl)) va_nil)) ⟨_, _, rfl, fit_sub (wide_lt fi fl) (wide_lt fk fj), fit_lt fj fl, .inl ⟨Int.mul_pos j0 l0, z⟩⟩)

def sp_law_times : Sp := fun vs H Q _ => ∃ (p q : Addr) (i j k l : Int), vs = [.ref p, .ref q] ∧ H p = some (.tup [.int i, .int j]) ∧ H q = some (.tup [.int k, .int l]) ∧ Fit i j ∧ Fit k l ∧ 0 < j ∧ 0 < l ∧ ∀ (p : Addr) (H' : Hp), Same H H' → H' p = some (.tup [.int ((i * k) / gI (i * k) (j * l)), .int ((j * l) / gI (i * k) (j * l))]) → Q (.ref p) H'
theorem ok_law_times (T : Txt K mg) : FnOk P w K mg base CX0 3 (fA mg "_law_times") (fDat K (fA mg "_law_times")) ["_law_one", "_law_two"] sp_law_times := by
  have G_law_q := ok_law_q (P := P) (w := w) (base := base) T
  refine T._law_times.F.ok sc_law_times (fun vs H Q E h => ?_) (fun cdv A outer s H vs Q E hr h => ?_)
  · obtain ⟨p, q, i, j, k, l, rfl, _⟩ := h
    rfl
  · obtain ⟨p, q, i, j, k, l, rfl, hp, hq, ⟨fi, fj⟩, ⟨fk, fl⟩, j0, l0, z⟩ := h
    refine ⟨_, (pss_one (ps_ret (pe_c T._law_q G_law_q (hr.mono (by decide)) (pa_cons (pe_op op_mulW (pe_ix ix_tup (pv 0) pe_int (fun _ _ => rfl)) (pe_ix ix_tup (pv 1) pe_int (fun _ _ => rfl))) (pa_cons (pe_op op_mulW (pe_ix ix_tup (pv 0) pe_int (fun _ _ => rfl)) (pe_ix ix_tup (pv 1) pe_int (fun _ _ => rfl))) pa_nil))))), ?_⟩
    exact r_ret (te := tCall _ _ _ _) (c_call (va_cons (v_mul (v_ixT (n := 0) (val_var rfl) val_c (SqT.of hp) rfl) (v_ixT (n := 0) (val_var rfl) val_c (SqT.of hq) rfl) (fit_mul fi fk)) (va_cons (v_mul (v_ixT (n := 1) (val_var rfl) val_c (SqT.of hp) rfl) (v_ixT (n := 1) (val_var rfl) val_c (SqT.of hq) rfl) (fit_mul fj fl)) va_nil)) ⟨_, _, rfl, fit_lt fi fk, fit_lt fj fl, .inl ⟨Int.mul_pos j0 l0, z⟩⟩)

def sp_law_share : Sp := fun vs H Q _ => ∃ (p q : Addr) (i j k l : Int), vs = [.ref p, .ref q] ∧ H p = some (.tup [.int i, .int j]) ∧ H q = some (.tup [.int k, .int l]) ∧ Fit i j ∧ Fit k l ∧ 0 < j ∧ 0 < l ∧ k ≠ 0 ∧ (0 < k → ∀ (p : Addr) (H' : Hp), Same H H' → H' p = some (.tup [.int ((i * l) / gI (i * l) (j * k)), .int ((j * k) / gI (i * l) (j * k))]) → Q (.ref p) H') ∧ (k < 0 → ∀ (p : Addr) (H' : Hp), Same H H' → H' p = some (.tup [.int ((-(i * l)) / gI (-(i * l)) (-(j * k))), .int ((-(j * k)) / gI (-(i * l)) (-(j * k)))]) → Q (.ref p) H')
theorem ok_law_share (T : Txt K mg) : FnOk P w K mg base CX0 3 (fA mg "_law_share") (fDat K (fA mg "_law_share")) ["_law_one", "_law_two"] sp_law_share := by
  have G_law_q := ok_law_q (P := P) (w := w) (base := base) T
  refine T._law_share.F.ok sc_law_share (fun vs H Q E h => ?_) (fun cdv A outer s H vs Q E hr h => ?_)
  · obtain ⟨p, q, i, j, k, l, rfl, _⟩ := h
    rfl
  · obtain ⟨p, q, i, j, k, l, rfl, hp, hq, ⟨fi, fj⟩, ⟨fk, fl⟩, j0, l0, z⟩ := h
    refine ⟨_, (pss_one (ps_ret (pe_c T._law_q G_law_q (hr.mono (by decide)) (pa_cons (pe_op op_mulW (pe_ix ix_tup (pv 0) pe_int (fun _ _ => rfl)) (pe_ix ix_tup (pv 1) pe_int (fun _ _ => rfl))) (pa_cons (pe_op op_mulW (pe_ix ix_tup (pv 0) pe_int (fun _ _ => rfl)) (pe_ix ix_tup (pv 1) pe_int (fun _ _ => rfl))) pa_nil))))), ?_⟩
    obtain ⟨k0, z1, z2⟩ := z
    refine r_ret (te := tCall _ _ _ _) (c_call (va_cons (v_mul (v_ixT (n := 0) (val_var rfl) val_c (SqT.of hp) rfl) (v_ixT (n := 1) (val_var rfl) val_c (SqT.of hq) rfl) (fit_mul fi fl)) (va_cons (v_mul (v_ixT (n := 1) (val_var rfl) val_c (SqT.of hp) rfl) (v_ixT (n := 0) (val_var rfl) val_c (SqT.of hq) rfl) (fit_mul fj fk)) va_nil)) ⟨_, _, rfl, fit_lt fi fl, fit_lt fj fk, ?_⟩)
    by_cases hk : 0 < k
    · exact .inl ⟨Int.mul_pos j0 hk, z1 hk⟩
    · have kn : k < 0 := by omega
      refine .inr ⟨Int.mul_neg_of_pos_of_neg j0 kn, fun p H' s e => z2 kn p H' s ?_⟩
      have g : gI (-(i * l)) (-(j * k)) = gI (i * l) (j * k) := by
        unfold gI
        rw [Int.natAbs_neg, Int.natAbs_neg]
      rw [g]
      exact e

def sp_law_less : Sp := fun vs H Q _ => ∃ (p q : Addr) (i j k l : Int), vs = [.ref p, .ref q] ∧ H p = some (.tup [.int i, .int j]) ∧ H q = some (.tup [.int k, .int l]) ∧ Fit i j ∧ Fit k l ∧ 0 < j ∧ 0 < l ∧ Q (.bl (decide (i * l < k * j))) H
theorem ok_law_less (T : Txt K mg) : FnOk P w K mg base CX0 3 (fA mg "_law_less") (fDat K (fA mg "_law_less")) ["_law_one", "_law_two"] sp_law_less := by
  refine T._law_less.F.ok sc_law_less (fun vs H Q E h => ?_) (fun cdv A outer s H vs Q E hr h => ?_)
  · obtain ⟨p, q, i, j, k, l, rfl, _⟩ := h
    rfl
  · obtain ⟨p, q, i, j, k, l, rfl, hp, hq, ⟨fi, fj⟩, ⟨fk, fl⟩, j0, l0, z⟩ := h
    refine ⟨_, (pss_one (ps_ret (pe_cmpR op_lt (pe_op op_mulW (pe_ix ix_tup (pv 0) pe_int (fun _ _ => rfl)) (pe_ix ix_tup (pv 1) pe_int (fun _ _ => rfl))) (pe_op op_mulW (pe_ix ix_tup (pv 1) pe_int (fun _ _ => rfl)) (pe_ix ix_tup (pv 0) pe_int (fun _ _ => rfl))) (nomark _)))), ?_⟩
    exact r_ret ((v_mul (v_ixT (n := 0) (val_var rfl) val_c (SqT.of hp) rfl) (v_ixT (n := 1) (val_var rfl) val_c (SqT.of hq) rfl) (fit_mul fi fl)) _ ((v_mul (v_ixT (n := 0) (val_var rfl) val_c (SqT.of hq) rfl) (v_ixT (n := 1) (val_var rfl) val_c (SqT.of hp) rfl) (fit_mul fk fj)) _ ⟨_, _, rfl, rfl, z⟩))

/-! ### lowest terms, the sums behind them -/
theorem gI_mul (x y : Int) {s : Int} (hs : 0 < s) : gI (x * s) (y * s) = gI x y * s := by
  unfold gI
  rw [Int.natAbs_mul, Int.natAbs_mul, Nat.gcd_mul_right, Int.natCast_mul]
  congr 1
  omega
theorem low_mul (x y : Int) {s : Int} (hs : 0 < s) : x * s / gI (x * s) (y * s) = x / gI x y ∧ y * s / gI (x * s) (y * s) = y / gI x y := by
  rw [gI_mul _ _ hs]
  exact ⟨Int.mul_ediv_mul_of_pos_left _ _ hs, Int.mul_ediv_mul_of_pos_left _ _ hs⟩
theorem gI_dvd (x y : Int) : gI x y ∣ x ∧ gI x y ∣ y := ⟨Int.ofNat_dvd_left.mpr (Nat.gcd_dvd_left _ _), Int.ofNat_dvd_left.mpr (Nat.gcd_dvd_right _ _)⟩
theorem low_one (x : Int) {y : Int} (hy : 0 < y) : gI (x / gI x y) (y / gI x y) = 1 := by
  have g : 0 < Nat.gcd x.natAbs y.natAbs := Nat.gcd_pos_of_pos_right _ (by omega)
  have e : (gI x y).natAbs = Nat.gcd x.natAbs y.natAbs := by unfold gI; exact Int.natAbs_natCast _
  have h := Nat.gcd_div (Nat.gcd_dvd_left x.natAbs y.natAbs) (Nat.gcd_dvd_right x.natAbs y.natAbs)
  rw [Nat.div_self g] at h
  have e1 := Int.natAbs_ediv_of_dvd (gI_dvd x y).1
  have e2 := Int.natAbs_ediv_of_dvd (gI_dvd x y).2
  show ((Nat.gcd (x / gI x y).natAbs (y / gI x y).natAbs : Nat) : Int) = 1
  rw [e1, e2, e, h]
  rfl
theorem low_abs (x : Int) {y : Int} : (x / gI x y).natAbs ≤ x.natAbs := by
  rw [Int.natAbs_ediv_of_dvd (gI_dvd x y).1]
  exact Nat.div_le_self _ _
theorem low_pos (x : Int) {y : Int} (hy : 0 < y) : 0 < y / gI x y ∧ y / gI x y ≤ y := by
  have g := gI_pos (i := x) hy
  refine ⟨Int.ediv_pos_of_pos_of_dvd hy (Int.le_of_lt g) (gI_dvd x y).2, Int.ediv_le_self _ (Int.le_of_lt hy)⟩
theorem call_1 {sp : Sp} {L : List V} {E : XK} {te : TE} {tr : TA} {σ : L2.St} {H : Hp} {Q : VK} (h : te σ H fun v H1 => tr σ H1 fun vs H2 => sp ((v :: vs) ++ L) H2 Q E) : tCall sp L E (tCons te tr) σ H Q := h
theorem va_1 {te : TE} {σ : L2.St} {H : Hp} {Q : List V → Hp → Prop} (h : te σ H fun v H1 => Q [v] H1) : tCons te tNil σ H Q := h
/-- a ratio in lowest terms of up to eighteen figures -/
def Low (H : Hp) (t : Addr) (a b : Int) : Prop := H t = some (.tup [.int a, .int b]) ∧ 0 < b ∧ gI a b = 1 ∧ a.natAbs ≤ 10 ^ 18 ∧ b ≤ 10 ^ 18
def spSomeR : Sp := fun vs H Q _ => ∃ (p c : Addr) (m : Nat), vs = [.ref p] ∧ PenAt H p c m ∧ m + 16 < most ∧ ∀ (t : Addr) (H' : Hp) (a b : Int), Low H' t a b → But p H H' → PenAt H' p c (m + 16) → Q (.ref t) H'
theorem ok_some_ratio (T : Txt K mg) : FnOk P w K mg base CX0 6 (fA mg "_law_some_ratio") (fDat K (fA mg "_law_some_ratio")) ["_law_pen_here"] spSomeR := by
  have G_law_q := ok_law_q (P := P) (w := w) (base := base) T
  have G_law_far := ok_far (P := P) (w := w) (base := base) T
  refine T._law_some_ratio.F.ok sc_law_some_ratio (fun vs H Q E h => ?_) (fun cdv A outer s H vs Q E hr h => ?_)
  · obtain ⟨p, c, m, rfl, _⟩ := h
    rfl
  · obtain ⟨p, c, m, rfl, hP, hm, k⟩ := h
    refine ⟨_, (pss_one (ps_ret (pe_c T._law_q G_law_q (hr.mono (by decide)) (pa_cons (pe_c T._law_far G_law_far (hr.mono (by decide)) (pa_cons (pv 0) pa_nil)) (pa_cons (pe_op op_add pe_int (pe_callB call_abs (by rfl) T.abs (by decide +kernel) (pa_cons (pe_c T._law_far G_law_far (hr.mono (by decide)) (pa_cons (pv 0) pa_nil)) pa_nil))) pa_nil))))), ?_⟩
    refine r_ret (te := tCall _ _ _ _) (call_1 ?_)
    refine c_call (va_cons (val_var rfl) va_nil) ⟨p, c, m, rfl, hP, by omega, fun n H1 n0 n1 b1 P1 => ?_⟩
    refine va_1 (op_l val_c ?_)
    refine c_call (va_cons (val_var rfl) va_nil) ⟨p, c, m + 8, rfl, P1, by omega, fun d H2 d0 d1 b2 P2 => ?_⟩
    refine ⟨d, rfl, _, _, rfl, rfl, ?_⟩
    have hb : ∀ {z : Int}, z.natAbs ≤ 10 ^ 18 → z.natAbs < 2 ^ wd := fun h => Nat.lt_of_le_of_lt h (by decide +kernel)
    have y0 : 0 < 1 + (if d < 0 then -d else d) := by split <;> omega
    have y1 : 1 + (if d < 0 then -d else d) ≤ 10 ^ 18 := by unfold big at *; split <;> omega
    have x1 : n.natAbs ≤ 10 ^ 18 := by unfold big at *; omega
    refine ⟨n, _, rfl, hb x1, hb (by omega), .inl ⟨y0, fun t H' s e => ?_⟩⟩
    have lp := low_pos n y0
    refine k t H' _ _ ⟨e, lp.1, low_one n y0, Nat.le_trans (low_abs n) x1, by omega⟩ ((b1.trans b2).trans (But.of s)) (P2.same s)

theorem q_ifAndK {σ : L2.St} {H : Hp} {t u : TT} {t1 tz : TS} {D : Ends} {I : Hp → Prop} (rest : ∀ H1, I H1 → tz D σ H1) (h : (∀ H1, I H1 → tz D σ H1) → t σ H fun c H1 => if c = true then u σ H1 (fun b H2 => if b = true then t1 { D with nx := tz D } σ H2 else tz D σ H2) else
    (if false = true then t1 { D with nx := tz D } σ H1 else tz D σ H1)) : tSeq (tIfS (tAnd t u) t1 tNext) tz D σ H := h rest
theorem l_two {σ : L2.St} {H : Hp} {t1 t2 : TE} {Q : VK} (h : t1 σ H fun v H1 => t2 σ H1 fun w H2 => 2 ≤ sizeLine ∧ ∀ q, H2 q = none → Q (.ref q) (upd H2 q (.lst [v, w]))) : tLst (tCons t1 (tCons t2 tNil)) σ H Q := h
/-- as a caller may pass a ratio a / b -/
def spPassed : Sp := fun vs H Q _ => ∃ (p c t : Addr) (m : Nat) (a b : Int), vs = [.ref p, .ref t] ∧ PenAt H p c m ∧ m + 3 < most ∧ Low H t a b ∧ ∀ (v : V) (H' : Hp) (s : Int), 0 < s → s ≤ 3 → Rt H' v (a * s) (b * s) → But p H H' → PenAt H' p c (m + 3) → Q v H'
theorem ok_passed (T : Txt K mg) : FnOk P w K mg base CX0 4 (fA mg "_law_passed") (fDat K (fA mg "_law_passed")) ["_law_pen_here", "_law_ratio"] spPassed := by
  have G_law_draw := ok_draw (P := P) (w := w) (base := base) T._law_draw.F T
  have G_law_pick := ok_pick (P := P) (w := w) (base := base) T
  refine T._law_passed.F.ok sc_law_passed (fun vs H Q E h => ?_) (fun cdv A outer s H vs Q E hr h => ?_)
  · obtain ⟨p, c, t, m, a, b, rfl, _⟩ := h
    rfl
  · obtain ⟨p, c, t, m, a, b, rfl, hP, hm, ⟨ht, b0, ab, al, bl⟩, k⟩ := h
    refine ⟨_, (pss_cons (ps_if (PW.pt (pw_and (pt_cmpR op_eq (pe_ix ix_tup (pv 1) pe_int (fun _ _ => rfl)) pe_int (nomark _)) (pw_and1 (pt_cmpR op_eq (pe_c T._law_draw G_law_draw (hr.mono (by decide)) (pa_cons (pv 0) (pa_cons pe_int pa_nil))) pe_int (nomark _))))) (pss_one (ps_ret (pe_ix ix_tup (pv 1) pe_int (fun _ _ => rfl)))) pss_nil)
  (pss_cons (ps_set (i := 2) sc_law_passed.nd rfl (Or.inl rfl) (pe_c T._law_pick G_law_pick (hr.mono (by decide)) (pa_cons (pv 0) (pa_cons (pe_lst (pa_cons pe_int (pa_cons pe_int (pa_cons pe_int (pa_cons pe_int pa_nil))))) pa_nil))))
  (pss_one (ps_ret (pe_c T._law_pick G_law_pick (hr.mono (by decide)) (pa_cons (pv 0) (pa_cons (pe_lst (pa_cons (pe_tup (pa_cons (pe_op op_mulW (pe_ix ix_tup (pv 1) pe_int (fun _ _ => rfl)) (pv 2)) (pa_cons (pe_op op_mulW (pe_ix ix_tup (pv 1) pe_int (fun _ _ => rfl)) (pv 2)) pa_nil))) (pa_cons (pe_lst (pa_cons (pe_op op_mulW (pe_ix ix_tup (pv 1) pe_int (fun _ _ => rfl)) (pv 2)) (pa_cons (pe_op op_mulW (pe_ix ix_tup (pv 1) pe_int (fun _ _ => rfl)) (pv 2)) pa_nil))) pa_nil))) pa_nil))))))), ?_⟩
    obtain ⟨kvs, hd⟩ := hP.dk
    have np : t ≠ p := ne_of ht hd (by intro z; cases z)
    have c1 : (2 : Nat) ^ 64 < 2 ^ 1000 := Nat.pow_lt_pow_right (by decide) (by decide)
    have fa : a.natAbs < 2 ^ 1000 := by
      have : (10 : Nat) ^ 18 < 2 ^ 64 := by decide
      omega
    have fb : b.natAbs < 2 ^ 1000 := by
      have : (10 : Nat) ^ 18 < 2 ^ 64 := by decide
      omega
    refine q_ifAndK (I := fun H1 => But p H H1 ∧ PenAt H1 p c (m + 1)) (fun H1 ⟨b1, P1⟩ => ?_) (fun rest => ?_)
    · have ht1 := b1 _ _ ht np
      refine q_asg (call_1 ((val_var rfl) _ (va_1 (l_lst (va_cons val_c (va_cons val_c (va_cons val_c (va_cons val_c va_nil)))) (by decide) fun q hq => ?_))))
      refine ⟨p, c, q, _, m + 1, rfl, P1.same (Same.new hq), by omega, SqL.of upd_same, by decide, by decide, fun v H2 hv b2 P2 => ?_⟩
      obtain ⟨s, rfl, s0, s1⟩ : ∃ s : Int, v = .int s ∧ 0 < s ∧ s ≤ 3 := by
        simp at hv
        rcases hv with e | e | e
        · exact ⟨1, e, by decide, by decide⟩
        · exact ⟨2, e, by decide, by decide⟩
        · exact ⟨3, e, by decide, by decide⟩
      have ht2 := b2 _ _ ((Same.new hq) _ _ ht1) np
      have fs : s.natAbs < 2 ^ 1000 := by omega
      refine r_ret (te := tCall _ _ _ _) (call_1 ((val_var rfl) _ (va_1 ?_)))
      have two : ∀ {σ : L2.St}, σ[1]? = some (some (.ref t)) → σ[2]? = some (some (.int s)) → ∀ {H3 : Hp}, H3 t = some (.tup [.int a, .int b]) → VA (tCons (tOp (rI CMulW fun i j => V.int (i * j)) (tOp (rIxT K) (tVar 1) (tC (V.int 0))) (tVar 2)) (tCons (tOp (rI CMulW fun i j => V.int (i * j)) (tOp (rIxT K) (tVar 1) (tC (V.int 1))) (tVar 2)) tNil)) σ H3 [.int (a * s), .int (b * s)] := fun e1 e2 H3 h =>
        va_cons (v_mul (v_ixT (n := 0) (val_var e1) val_c (SqT.of h) rfl) (val_var e2) (fit_mul fa fs)) (va_cons (v_mul (v_ixT (n := 1) (val_var e1) val_c (SqT.of h) rfl) (val_var e2) (fit_mul fb fs)) va_nil)
      refine l_two (l_tup (two rfl rfl ht2) (by show 2 ≤ 100000; decide) fun x hx => l_lst (two rfl rfl ((Same.new' hx) _ _ ht2)) (by show 2 ≤ 100000; decide) fun y hy => ⟨by show 2 ≤ sizeLine; decide, fun q2 hq2 => ?_⟩)
      have S := ((Same.new' (o := .tup [.int (a * s), .int (b * s)]) hx).trans (Same.new' (o := .lst [.int (a * s), .int (b * s)]) hy)).trans (Same.new' (o := .lst [.ref x, .ref y]) hq2)
      obtain ⟨kv2, hd2⟩ := P2.dk
      have px : x ≠ p := fun z => by rw [z, hd2] at hx; cases hx
      have py : y ≠ p := fun z => by
        have := (Same.new' (o := .tup [.int (a * s), .int (b * s)]) hx) _ _ hd2
        rw [z, this] at hy
        cases hy
      have ex := (Same.new' (o := .lst [.ref x, .ref y]) hq2) _ _ ((Same.new' (o := .lst [.int (a * s), .int (b * s)]) hy) _ _ (upd_same (H := H2) (a := x) (o := .tup [.int (a * s), .int (b * s)])))
      have ey := (Same.new' (o := .lst [.ref x, .ref y]) hq2) _ _ (upd_same (a := y) (o := .lst [.int (a * s), .int (b * s)]))
      refine ⟨p, c, q2, _, m + 2, rfl, P2.same S, by omega, SqL.of upd_same, by show 0 < 2; decide, by show 2 < 1000000000; decide, fun v H3 hv b3 P3 => ?_⟩
      have B := (((b1.trans (But.of (Same.new hq))).trans b2).trans (But.of S)).trans b3
      have bs : 0 < b * s := Int.mul_pos b0 s0
      rcases List.mem_cons.mp hv with e | hv
      · rw [e]
        exact k _ _ s s0 s1 (.pair (.inr (b3 _ _ ex px)) bs) B P3
      · rcases List.mem_cons.mp hv with e | hv
        · rw [e]
          exact k _ _ s s0 s1 (.pair (.inl (b3 _ _ ey py)) bs) B P3
        · cases hv
    · by_cases e1 : b = 1
      · refine (ans_eq (x := .int b) (y := .int 1) (v_ixT (n := 1) (val_var rfl) val_c (SqT.of ht) rfl) val_c rfl (decide_eq_true (by rw [e1]))) _ ?_
        refine iteT ?_
        refine c_call (va_cons (val_var rfl) (va_cons val_c va_nil)) ⟨p, c, 2, m, rfl, hP, by omega, by decide, by decide, fun r H1 r0 r1 b1 P1 => ?_⟩
        refine ⟨rfl, _, rfl, ?_⟩
        refine ite2 (fun _ => ?_) (fun _ => rest _ ⟨b1, P1⟩)
        refine st_ret (v_ixT (n := 0) (val_var rfl) val_c (SqT.of (b1 _ _ ht np)) rfl) (k _ _ 1 (by decide) (by decide) ?_ b1 (P1.le (by omega)))
        rw [e1, Int.mul_one, Int.mul_one]
        exact .int a
      · refine (ans_eq (x := .int b) (y := .int 1) (v_ixT (n := 1) (val_var rfl) val_c (SqT.of ht) rfl) val_c rfl (decide_eq_false (by simp [e1]))) _ ?_
        refine iteF (iteF (rest _ ⟨But.refl, hP.le (by omega)⟩))

/-! ### values that are no ratios -/
def aK : Key := Sum.inr ("a" : Str)
def Fine (K : PySem.W.Frag) (H : Hp) (v : V) (d : PyData) : Prop := Dd K H v d ∧ d.showable = true ∧ d.depth ≤ 3 ∧ d.shown.length ≤ 1000 ∧ PyData.strOk d.shown = true
inductive Odd (H : Hp) : V → Prop
  | non : Odd H .non
  | bl : Odd H (.bl true)
  | str : Odd H (.str "1")
  | tup {q : Addr} {xs : List V} (e : H q = some (.tup xs)) (h : xs = [.int 1, .int 0] ∨ xs = [.int 1, .int (-2)] ∨ xs = [.int 1, .bl true] ∨ xs = [.int 1, .int 2, .int 3] ∨ xs = [.str "1", .int 2] ∨ xs = [.non, .int 1] ∨ xs = [.bl true, .int 2] ∨ xs = []) : Odd H (.ref q)
  | lst {q : Addr} {xs : List V} (e : H q = some (.lst xs)) (h : xs = [.int 1] ∨ xs = [.int 2, .bl false]) : Odd H (.ref q)
  | dic {q : Addr} (e : H q = some (.dK [(aK, .int 1)])) : Odd H (.ref q)
  | nest {q r : Addr} (e : H q = some (.tup [.ref r, .int 3])) (e2 : H r = some (.tup [.int 1, .int 2])) : Odd H (.ref q)
theorem Odd.same {H H' : Hp} {v : V} (g : Odd H v) (s : Same H H') : Odd H' v := by
  cases g with
  | non => exact .non
  | bl => exact .bl
  | str => exact .str
  | tup e h => exact .tup (s _ _ e) h
  | lst e h => exact .lst (s _ _ e) h
  | dic e => exact .dic (s _ _ e)
  | nest e e2 => exact .nest (s _ _ e) (s _ _ e2)
theorem Odd.but {H H' : Hp} {v : V} {p c : Addr} {m : Nat} (g : Odd H v) (P : PenAt H p c m) (b : But p H H') : Odd H' v := by
  obtain ⟨a, d, n, f, ns, hp, _⟩ := P
  have k : ∀ {q : Addr} {o : HO}, H q = some o → (∀ kvs, o = .dK kvs → kvs.length < 5) → H' q = some o := fun {q o} e h => b q o e (fun z => by
    rw [z, hp] at e
    have := h _ (Option.some.inj e).symm
    exact absurd this (by show ¬ 5 < 5; decide))
  cases g with
  | non => exact .non
  | bl => exact .bl
  | str => exact .str
  | tup e h => exact .tup (k e (fun _ z => by cases z)) h
  | lst e h => exact .lst (k e (fun _ z => by cases z)) h
  | dic e => exact .dic (k e (fun _ z => by cases z; show 1 < 5; decide))
  | nest e e2 => exact .nest (k e (fun _ z => by cases z)) (k e2 (fun _ z => by cases z))
theorem Odd.rat {H : Hp} {v : V} (g : Odd H v) : RatQ H v false := by
  cases g with
  | non => exact .odd .non (by simp)
  | bl => exact .odd (.bl _) (by simp)
  | str => exact .odd (.str _) (by simp)
  | tup e h =>
    rcases h with rfl | rfl | rfl | rfl | rfl | rfl | rfl | rfl
    · exact .pair (j := 0) (.inr e)
    · exact .pair (j := -2) (.inr e)
    · exact .snd (.inr e) (.bl _) (by decide)
    · exact .len (.inr e) (by decide)
    · exact .fst (.inr e) (.str _) (by decide)
    · exact .fst (.inr e) .non (by decide)
    · exact .fst (.inr e) (.bl _) (by decide)
    · exact .len (.inr e) (by decide)
  | lst e h =>
    rcases h with rfl | rfl
    · exact .len (.inl e) (by decide)
    · exact .snd (.inl e) (.bl _) (by decide)
  | dic e => exact .odd (.dic e) (by simp)
  | nest e e2 => exact .fst (.inr e) (.tup e2) (by decide)
theorem Odd.fine {H : Hp} {v : V} (g : Odd H v) : ∃ d, Fine K H v d := by
  have kk : ∀ {d : PyData}, Dd K H v d → d.showable = true ∧ d.depth ≤ 3 ∧ d.shown.length ≤ 1000 ∧ PyData.strOk d.shown = true → ∃ d, Fine K H v d := fun a b => ⟨_, a, b⟩
  cases g with
  | non => exact kk .non (by decide +kernel)
  | bl => exact kk (.bl _) (by decide +kernel)
  | str => exact kk (.str _) (by decide +kernel)
  | tup e h =>
    rcases h with rfl | rfl | rfl | rfl | rfl | rfl | rfl | rfl
    · exact kk (.tup (SqT.of e) (.cons (.int _) (.cons (.int _) .nil))) (by decide +kernel)
    · exact kk (.tup (SqT.of e) (.cons (.int _) (.cons (.int _) .nil))) (by decide +kernel)
    · exact kk (.tup (SqT.of e) (.cons (.int _) (.cons (.bl _) .nil))) (by decide +kernel)
    · exact kk (.tup (SqT.of e) (.cons (.int _) (.cons (.int _) (.cons (.int _) .nil)))) (by decide +kernel)
    · exact kk (.tup (SqT.of e) (.cons (.str _) (.cons (.int _) .nil))) (by decide +kernel)
    · exact kk (.tup (SqT.of e) (.cons .non (.cons (.int _) .nil))) (by decide +kernel)
    · exact kk (.tup (SqT.of e) (.cons (.bl _) (.cons (.int _) .nil))) (by decide +kernel)
    · exact kk (.tup (SqT.of e) .nil) (by decide +kernel)
  | lst e h =>
    rcases h with rfl | rfl
    · exact kk (.lst (SqL.of e) (.cons (.int _) .nil)) (by decide +kernel)
    · exact kk (.lst (SqL.of e) (.cons (.int _) (.cons (.bl _) .nil))) (by decide +kernel)
  | dic e => exact kk (.dic e (.cons (.int _) .nil)) (by decide +kernel)
  | nest e e2 => exact kk (.tup (SqT.of e) (.cons (.tup (SqT.of e2) (.cons (.int _) (.cons (.int _) .nil))) (.cons (.int _) .nil))) (by decide +kernel)
def Odds (n : Nat) (vs : List V) (H : Hp) : Prop := (∀ v ∈ vs, Odd H v) ∧ vs.length = n
theorem Odds.stays {n : Nat} : Stays (Odds n) := fun vs H1 H2 s h => ⟨fun v hv => (h.1 v hv).same s, h.2⟩
theorem om_nil {σ : L2.St} {H : Hp} : VM tNil σ H (Odds 0) := fun Q q => q [] H (Same.refl H) ⟨(fun _ h => nomatch h), rfl⟩
theorem om_cons {σ : L2.St} {H : Hp} {te : TE} {tr : TA} {n : Nat} (h : EM te σ H (fun v H' => Odd H' v)) (hr : ∀ H1, Same H H1 → VM tr σ H1 (Odds n)) : VM (tCons te tr) σ H (Odds (n + 1)) := fun Q q =>
  h _ fun v H1 s1 p1 => hr H1 s1 _ fun r H2 s2 ⟨r2, e2⟩ => q (v :: r) H2 (s1.trans s2) ⟨fun x hx => by
    rcases List.mem_cons.mp hx with e | e
    · rw [e]; exact p1.same s2
    · exact r2 x e, by rw [List.length_cons, e2]⟩
theorem tup_two {σ : L2.St} {H : Hp} {t1 t2 : TE} {Q : VK} (h : t1 σ H fun v H1 => t2 σ H1 fun w H2 => 2 ≤ sizeLine ∧ ∀ q, H2 q = none → Q (.ref q) (upd H2 q (.tup [v, w]))) : tTup (tCons t1 (tCons t2 tNil)) σ H Q := h
theorem nest {σ : L2.St} {H : Hp} : EM (tTup (tCons (tTup (tCons (tC (.int 1)) (tCons (tC (.int 2)) tNil))) (tCons (tC (.int 3)) tNil))) σ H (fun v H' => Odd H' v) := fun Q q => tup_two (l_tup (va_cons val_c (va_cons val_c va_nil)) (by decide) fun a ha => val_c _ ⟨by show 2 ≤ sizeLine; decide, fun b hb => q _ _ ((Same.new' ha).trans (Same.new' hb)) (.nest upd_same ((Same.new' hb) _ _ upd_same))⟩)
theorem om_val {σ : L2.St} {H : Hp} {te : TE} {v : V} (h : Val te σ H v) (g : Odd H v) : EM te σ H (fun v H' => Odd H' v) := fun Q q => h _ (q v H (Same.refl H) g)
def spAny : Sp := fun vs H Q _ => ∃ (p c : Addr) (m : Nat), vs = [.ref p] ∧ PenAt H p c m ∧ m + 1 < most ∧ ∀ (v : V) (H' : Hp), Odd H' v → But p H H' → PenAt H' p c (m + 1) → Q v H'
theorem ok_any (T : Txt K mg) : FnOk P w K mg base CX0 4 (fA mg "_law_any") (fDat K (fA mg "_law_any")) ["_law_pen_here"] spAny := by
  have G_law_pick := ok_pick (P := P) (w := w) (base := base) T
  refine T._law_any.F.ok sc_law_any (fun vs H Q E h => ?_) (fun cdv A outer s H vs Q E hr h => ?_)
  · obtain ⟨p, c, m, rfl, _⟩ := h
    rfl
  · obtain ⟨p, c, m, rfl, hP, hm, k⟩ := h
    refine ⟨_, (pss_cons (ps_set (i := 1) sc_law_any.nd rfl (Or.inl rfl) (pe_lst (pa_cons pe_non (pa_cons pe_bl (pa_cons pe_str (pa_cons (pe_tup (pa_cons pe_int (pa_cons pe_int pa_nil))) (pa_cons (pe_tup (pa_cons pe_int (pa_cons (pe_un un_neg pe_int) pa_nil))) (pa_cons (pe_tup (pa_cons pe_int (pa_cons pe_bl pa_nil))) (pa_cons (pe_lst (pa_cons pe_int pa_nil)) (pa_cons (pe_tup (pa_cons pe_int (pa_cons pe_int (pa_cons pe_int pa_nil)))) (pa_cons (pe_disp (pps_cons pe_str pe_int pps_nil) (by rfl) (by rfl) (fun z => by cases z) (by decide)) (pa_cons (pe_tup (pa_cons pe_str (pa_cons pe_int pa_nil))) (pa_cons (pe_tup (pa_cons pe_non (pa_cons pe_int pa_nil))) (pa_cons (pe_tup (pa_cons pe_bl (pa_cons pe_int pa_nil))) pa_nil))))))))))))))
  (pss_one (ps_ret (pe_c T._law_pick G_law_pick (hr.mono (by decide)) (pa_cons (pv 0) (pa_cons (pe_op op_cat (pv 1) (pe_lst (pa_cons (pe_lst (pa_cons pe_int (pa_cons pe_bl pa_nil))) (pa_cons (pe_tup (pa_cons (pe_tup (pa_cons pe_int (pa_cons pe_int pa_nil))) (pa_cons pe_int pa_nil))) (pa_cons (pe_tup pa_nil) pa_nil))))) pa_nil)))))), ?_⟩
    have ot : ∀ {tb : TA} {σ : L2.St} {H : Hp} {xs : List V}, VA tb σ H xs → (xs = [.int 1, .int 0] ∨ xs = [.int 1, .int (-2)] ∨ xs = [.int 1, .bl true] ∨ xs = [.int 1, .int 2, .int 3] ∨ xs = [.str "1", .int 2] ∨ xs = [.non, .int 1] ∨ xs = [.bl true, .int 2] ∨ xs = []) → EM (tTup tb) σ H (fun v H' => Odd H' v) := fun h o =>
      em_tup h (by rcases o with rfl | rfl | rfl | rfl | rfl | rfl | rfl | rfl <;> decide) fun a H' e => .tup e o
    have ol : ∀ {tb : TA} {σ : L2.St} {H : Hp} {xs : List V}, VA tb σ H xs → (xs = [.int 1] ∨ xs = [.int 2, .bl false]) → EM (tLst tb) σ H (fun v H' => Odd H' v) := fun h o =>
      em_lst' h (by rcases o with rfl | rfl <;> decide) fun a H' e => .lst e o
    refine q_lstM (Odds.stays (n := 12)) (om_cons (om_val val_c .non) fun _ _ => om_cons (om_val val_c .bl) fun _ _ => om_cons (om_val val_c .str) fun _ _ => om_cons (ot (va_cons val_c (va_cons val_c va_nil)) (by simp)) fun _ _ =>
      om_cons (ot (va_cons val_c (va_cons (v_neg val_c) va_nil)) (by simp)) fun _ _ => om_cons (ot (va_cons val_c (va_cons val_c va_nil)) (by simp)) fun _ _ => om_cons (ol (va_cons val_c va_nil) (by simp)) fun _ _ => om_cons (ot (va_cons val_c (va_cons val_c (va_cons val_c va_nil))) (by simp)) fun _ _ =>
      om_cons (em_dic1 (key := aK) (v := .int 1) (fun _ => val_c) fun a H' e => .dic e) fun _ _ => om_cons (ot (va_cons val_c (va_cons val_c va_nil)) (by simp)) fun _ _ => om_cons (ot (va_cons val_c (va_cons val_c va_nil)) (by simp)) fun _ _ => om_cons (ot (va_cons val_c (va_cons val_c va_nil)) (by simp)) fun _ _ => om_nil) (fun vs H' r => by rw [r.2]; decide) fun q1 xs H1 s1 e1 r1 => ?_
    refine r_ret (te := tCall _ _ _ _) (call_1 ((val_var rfl) _ (va_1 ?_)))
    refine l_catM (Odds.stays (n := 3)) (val_var rfl) e1 (by rw [r1.2]; decide) (om_cons (ol (va_cons val_c (va_cons val_c va_nil)) (by simp)) fun _ _ => om_cons nest fun _ _ => om_cons (ot va_nil (by simp)) fun _ _ => om_nil) (fun vs H' r => by rw [r.2]; decide) fun q2 ys H2 s2 e2 r2 => ?_
    have len : (xs ++ ys).length = 15 := by rw [List.length_append, r1.2, r2.2]
    refine ⟨p, c, q2, xs ++ ys, m, rfl, (hP.same s1).same s2, by omega, SqL.of e2, by omega, by omega, fun v H3 hv b3 P3 => k v H3 ?_ ((But.of (s1.trans s2)).trans b3) P3⟩
    refine Odd.but ?_ ((hP.same s1).same s2) b3
    rcases List.mem_append.mp hv with h | h
    · exact (r1.1 v h).same s2
    · exact r2.1 v h

def spIs : Sp := fun vs H Q _ => ∃ a b : Bool, vs = [.bl a, .bl b] ∧ Q (.bl (decide (a = b))) H
theorem ok_law_is (T : Txt K mg) : FnOk P w K mg base CX0 1 (fA mg "_law_is") (fDat K (fA mg "_law_is")) ["_law_value", "_law_due"] spIs := by
  refine T._law_is.F.ok sc_law_is (fun vs H Q E h => ?_) (fun cdv A outer s H vs Q E hr h => ?_)
  · obtain ⟨a, b, rfl, _⟩ := h
    rfl
  · obtain ⟨a, b, rfl, k⟩ := h
    refine ⟨_, (pss_one (ps_ret (pe_ifExp (pt_val (pv 1)) (pe_cmpR op_isBl (pv 0) pe_bl (nomark _)) (pe_cmpR op_isBl (pv 0) pe_bl (nomark _))))), ?_⟩
    refine r_ret ((ans_val (val_var rfl)) _ ?_)
    cases b with
    | true => exact iteT ((val_var rfl) _ (val_c _ ⟨a, true, rfl, rfl, k⟩))
    | false => exact iteF ((val_var rfl) _ (val_c _ ⟨a, false, rfl, rfl, k⟩))
theorem ok_law_is_whole (T : Txt K mg) : FnOk P w K mg base CX0 1 (fA mg "_law_is_whole") (fDat K (fA mg "_law_is_whole")) ["_law_thing"] spInt := by
  refine T._law_is_whole.F.ok sc_law_is_whole (fun vs H Q E h => ?_) (fun cdv A outer s H vs Q E hr h => ?_)
  · obtain ⟨v, n, rfl, _⟩ := h
    rfl
  · obtain ⟨v, n, rfl, is, k⟩ := h
    obtain ⟨ty, hn⟩ := is.ty (K := K)
    refine ⟨_, (pss_one (ps_ret (pe_and (pe_callB call_isi (by rfl) T.isinstance (by decide +kernel) (pa_cons (pv 0) (pa_cons (pe_bltn (v := .ty "int") (by rfl) T.int (by decide +kernel) rfl) pa_nil))) (pe_one (pe_not (pe_callB call_isi (by rfl) T.isinstance (by decide +kernel) (pa_cons (pv 0) (pa_cons (pe_bltn (v := .ty "bool") (by rfl) T.bool (by decide +kernel) rfl) pa_nil)))))))), ?_⟩
    refine r_ret ?_
    refine (v_isi (val_var rfl) ty (kit_int hn)) _ ?_
    refine ⟨_, rfl, ?_⟩
    by_cases h1 : n = "int"
    · subst h1
      refine iteT ?_
      refine (v_isi (val_var rfl) ty (kit_bool hn)) _ ?_
      exact ⟨_, rfl, k⟩
    · by_cases h2 : n = "bool"
      · subst h2
        refine iteT ?_
        refine (v_isi (val_var rfl) ty (kit_bool hn)) _ ?_
        exact ⟨_, rfl, k⟩
      · have e : (decide (n = "int") || decide (n = "bool")) = false := by simp [h1, h2]
        rw [e]
        refine iteF ?_
        rw [decide_eq_false h1] at k
        exact k

/-! ### the error of a call -/
theorem ExcC.xf {K : PySem.W.Frag} {C : Addr} (e : ExcC K C) : XfC K C := ⟨e.1, e.2, e.3, e.4⟩
/-- what _law_why makes of a call: None, or the fields of a BadNumber -/
def TTwhy (K : PySem.W.Frag) (mg : Str → Option Value) : (XK → Hp → VK → Prop) → Hp → VK → Prop := fun tl H Q =>
  tl (fun cls d H' => cls = .ref (fA mg "BadNumber") ∧ ∃ (dd : Addr) (v wh : V) (t : PyData), d = some dd ∧ H' dd = some (.xd [("number", v), ("what", wh)]) ∧ Fine K H' v t ∧ ∀ (p : Addr) (H2 : Hp), Same H' H2 → H2 p = some (.tup [.str "number", wh, .str t.shown]) → Q (.ref p) H2)
    H (fun _ H' => Q .non H')
theorem st_ret' {te : TE} {D : Ends} {σ : L2.St} {H : Hp} (h : te σ H D.rt) : tRet te D σ H := h
theorem why_gives {X : Cx} (T : Txt X.K X.mg) (hq : Quiet X.A) {q : Str} {cdg : Value} (hr : ∀ e, Room 1 (X.A.deeper e)) : LamX.GivesTo X ["_law_call", "e"] "_law_why" (defScope s_law_why) (fA X.mg "_law_why") cdg (defBody s_law_why) "_law_call" q (TTwhy X.K X.mg) := by
  intro f c' s H Q tl act hc h
  have xT := ExcC.xf T.BadText.e
  have xN := ExcC.xf T.BadNumber.e
  have xR := ExcC.xf T.BadRow.e
  refine ⟨_, pss_cons (TM.ps_try_names (X := (cxOf C8.CX0 X.prog X.w X.K X.mg X.base ["_law_call", "e"] "_law_why" (defScope s_law_why) (fA X.mg "_law_why") cdg X.A X.stack s H C8.E0).nox) (tb := fun W D σ H => ∃ Ech : XK, (∀ cls d σ' H', Ech cls d H' → W cls d σ' H') ∧ σ[0]? = some (some (.ref f)) ∧ H c' = some (LamX.CodeO c' q) ∧ tl Ech H (fun _ H' => D.nx σ H'))
      rfl rfl sc_law_why.nd LamX.takes0 (fun W pn xe tk _ => ?_)
      (.cons (i := 1) rfl rfl ⟨by rfl, by decide, .inl T.BadText.g⟩ (fun a oe cls d pn hz hf => pss_one (ps_ret (pe_tup (pa_cons pe_str (pa_cons (pe_xf xT (T.BadText.n _ (by simp)) hz hf (pv 1)) pa_nil)))))
      (.cons (i := 1) rfl rfl ⟨by rfl, by decide, .inl T.BadNumber.g⟩ (fun a oe cls d pn hz hf => pss_one (ps_ret (pe_tup (pa_cons pe_str (pa_cons (pe_xf xN (T.BadNumber.n _ (by simp)) hz hf (pv 1)) (pa_cons (pe_callB (id := "repr") (show CallR _ _ (rShow X.K) from call_show ?_ ?_) (by rfl) T.repr (by decide +kernel) (pa_cons (pe_xf xN (T.BadNumber.n _ (by simp)) hz hf (pv 1)) pa_nil)) pa_nil))))))
      (.cons (i := 1) rfl rfl ⟨by rfl, by decide, .inl T.BadRow.g⟩ (fun a oe cls d pn hz hf => pss_one (ps_ret (pe_tup (pa_cons pe_str (pa_cons (pe_callB (id := "repr") (show CallR _ _ (rShow X.K) from call_show ?_ ?_) (by rfl) T.repr (by decide +kernel) (pa_cons (pe_xf xR (T.BadRow.n _ (by simp)) hz hf (pv 1)) pa_nil)) pa_nil))))) .nil))))
      (pss_one (ps_ret pe_non)), ?_⟩
  case refine_1 =>
    refine ⟨fun pins s' σ H' D I h' => ?_⟩
    obtain ⟨Ech, hW, h1, h2, h3⟩ := h'
    exact (pss_one (ps_expr (act W pn xe Ech _ _ tk hW))).run pins s' σ H' D I ⟨h1, h2, h3⟩
  case refine_6 =>
    refine ⟨_, fun cls d σ' H' e => ?_, rfl, hc, h⟩
    obtain ⟨rfl, dd, v, wh, t, rfl, hx, hF, k⟩ := e
    intro hl
    refine ⟨false, T.xBadNumberBadText, And.intro (fun z => (Bool.false_ne_true z).elim) (fun _ => ?_)⟩
    refine ⟨true, T.xBadNumberBadNumber, And.intro (fun _ a ha => ?_) (fun z => (Bool.false_ne_true z.symm).elim)⟩
    have h1 : (σ'.set 1 (some (V.ref a)))[1]? = some (some (V.ref a)) := by
      rw [List.getElem?_set_self (by rw [hl]; show 1 < 2; decide)]
    have fd : ∀ {n : Str} {z : V}, ([("number", v), ("what", wh)] : List (Str × V)).lookup n = some z → Val (tXf a (.ref (fA X.mg "BadNumber")) (some dd) (fA X.mg "BadNumber") n (tVar 1)) (σ'.set 1 (some (V.ref a))) H' z := fun l Q q =>
      (val_var h1) _ ⟨rfl, rfl, dd, _, _, rfl, hx, l, q⟩
    have w1 := fd (n := "what") (z := wh) (by
      have ne : (("what" : Str) == ("number" : Str)) = false := by decide +kernel
      rw [List.lookup_cons, ne]
      rfl)
    have n1 := fd (n := "number") (z := v) rfl
    refine st_ret' (l_tup (va_cons val_c (va_cons w1 (va_cons (v_show n1 hF.1 hF.2.1 (Nat.le_trans hF.2.2.1 (by decide)) (Nat.le_trans hF.2.2.2.1 (by decide))) va_nil))) (by show 3 ≤ 100000; decide) fun p hp => k p _ (Same.new' hp) upd_same)
  all_goals first | exact hq | exact (hu64 (hr (envOfC "_law_why" (defScope s_law_why) s.heap.objs.size (fA X.mg "_law_why") cdg)) :)
end
end LW

namespace LW
open PySem PySem.Spec PyProof.Rows L2 GL
section
variable {P : Program} {w : World} {K : PySem.W.Frag} {mg : Str → Option Value} {base : Heap}

/-! ### heaps without their tables -/
def bareH (H : Hp) : Hp := fun b => match H b with
  | some (.tbl _) => none
  | o => o
def NoTab (S : Hp) : Prop := ∀ b ps, S b ≠ some (.tbl ps)
theorem bare_at {H : Hp} {b : Addr} {o : HO} (h : H b = some o) (n : ∀ ps, o ≠ .tbl ps) : bareH H b = some o := by
  unfold bareH
  rw [h]
  cases o with
  | tbl ps => exact (n ps rfl).elim
  | _ => rfl
theorem bare_of {H : Hp} {b : Addr} {o : HO} (h : bareH H b = some o) : H b = some o ∧ ∀ ps, o ≠ .tbl ps := by
  unfold bareH at h
  split at h
  · cases h
  · rename_i o' e
    exact ⟨h, fun ps z => e ps (by rw [h, z])⟩
theorem bare_no (H : Hp) : NoTab (bareH H) := fun b ps z => (bare_of z).2 ps rfl
theorem bare_in (H : Hp) : Same (bareH H) H := fun b o h => (bare_of h).1
theorem ext_same {S H H1 : Hp} (n : NoTab S) (s : Same S H) (x : LamX.ExtN H H1) : Same S H1 := fun b o h => x b o (s b o h) fun ps z => n b ps (by rw [h, z])
theorem same_bare {S H : Hp} (n : NoTab S) (s : Same S H) : Same S (bareH H) := fun b o h => bare_at (s b o h) fun ps z => n b ps (by rw [h, z])
theorem Fine.same {H H' : Hp} {v : V} {d : PyData} (f : Fine K H v d) (s : Same H H') : Fine K H' v d := ⟨Dd.same s _ _ f.1, f.2⟩
theorem Tabs.but {T : List (Addr × Str)} {H H' : Hp} {p c : Addr} {m : Nat} (t : LamX.Tabs T H) (P : PenAt H p c m) (b : But p H H') : LamX.Tabs T H' := by
  obtain ⟨kvs, hd⟩ := P.dk
  intro q hq
  obtain ⟨ps, h1, h2, h3⟩ := t q hq
  refine ⟨ps, b _ _ h1 (fun z => by rw [z, hd] at h1; cases h1), h2, fun pos cv e => ?_⟩
  obtain ⟨c', e1, e2⟩ := h3 pos cv e
  exact ⟨c', e1, b _ _ e2 (fun z => by rw [z, hd] at e2; unfold LamX.CodeO at e2; cases e2)⟩
theorem Tabs.same {T : List (Addr × Str)} {H H' : Hp} (t : LamX.Tabs T H) (s : Same H H') : LamX.Tabs T H' := t.ext s
/-! ### what bare heaps still know -/
theorem PenAt.bare {H : Hp} {p c : Addr} {m : Nat} (h : PenAt H p c m) : PenAt (bareH H) p c m := h.off (fun o e => by
  obtain ⟨kvs, hd⟩ := h.dk
  rw [hd] at e
  cases e
  exact bare_at hd (fun ps z => by cases z)) (fun o e => by
  obtain ⟨a, d, n, f, ns, _, hc, _⟩ := h
  rw [hc] at e
  cases e
  exact bare_at hc (fun ps z => by cases z))
theorem Sq.bare {H : Hp} {a : Addr} {xs : List V} (h : Sq H a xs) : Sq (bareH H) a xs := h.elim (fun z => .inl (bare_at z fun _ e => by cases e)) fun z => .inr (bare_at z fun _ e => by cases e)
theorem Rt.bare {H : Hp} {v : V} {i j : Int} (h : Rt H v i j) : Rt (bareH H) v i j := by
  cases h with
  | int i => exact .int i
  | pair h p => exact .pair h.bare p
theorem Odd.bare {H : Hp} {v : V} (g : Odd H v) : Odd (bareH H) v := by
  cases g with
  | non => exact .non
  | bl => exact .bl
  | str => exact .str
  | tup e h => exact .tup (bare_at e fun _ z => by cases z) h
  | lst e h => exact .lst (bare_at e fun _ z => by cases z) h
  | dic e => exact .dic (bare_at e fun _ z => by cases z)
  | nest e e2 => exact .nest (bare_at e fun _ z => by cases z) (bare_at e2 fun _ z => by cases z)
/-- zeros as they are passed -/
inductive Zr (H : Hp) : V → Prop
  | int : Zr H (.int 0)
  | tup {q : Addr} (e : H q = some (.tup [.int 0, .int 1])) : Zr H (.ref q)
  | lst {q : Addr} (e : H q = some (.lst [.int 0, .int 5])) : Zr H (.ref q)
theorem Zr.same {H H' : Hp} {v : V} (g : Zr H v) (s : Same H H') : Zr H' v := by
  cases g with
  | int => exact .int
  | tup e => exact .tup (s _ _ e)
  | lst e => exact .lst (s _ _ e)
theorem Zr.bare {H : Hp} {v : V} (g : Zr H v) : Zr (bareH H) v := by
  cases g with
  | int => exact .int
  | tup e => exact .tup (bare_at e fun _ z => by cases z)
  | lst e => exact .lst (bare_at e fun _ z => by cases z)
theorem Zr.but {H H' : Hp} {v : V} {p c : Addr} {m : Nat} (g : Zr H v) (P : PenAt H p c m) (b : But p H H') : Zr H' v := by
  obtain ⟨kvs, hd⟩ := P.dk
  cases g with
  | int => exact .int
  | tup e => exact .tup (b _ _ e fun z => by rw [z, hd] at e; cases e)
  | lst e => exact .lst (b _ _ e fun z => by rw [z, hd] at e; cases e)
theorem Zr.rt {H : Hp} {v : V} (g : Zr H v) : ∃ j, Rt H v 0 j ∧ Fit 0 j := by
  have f : ∀ j : Int, j.natAbs ≤ 5 → Fit 0 j := fun j h => ⟨by show (0 : Nat) < 2 ^ 1000; exact Nat.two_pow_pos _, Nat.lt_of_le_of_lt h (by
    have : (2 : Nat) ^ 3 ≤ 2 ^ 1000 := Nat.pow_le_pow_right (by decide) (by decide)
    omega)⟩
  cases g with
  | int => exact ⟨1, .int 0, f 1 (by decide)⟩
  | tup e => exact ⟨1, .pair (.inr e) (by decide), f 1 (by decide)⟩
  | lst e => exact ⟨5, .pair (.inl e) (by decide), f 5 (by decide)⟩
theorem Zr.fine {H : Hp} {v : V} (g : Zr H v) : ∃ d, Fine K H v d := by
  have kk : ∀ {d : PyData}, Dd K H v d → d.showable = true ∧ d.depth ≤ 3 ∧ d.shown.length ≤ 1000 ∧ PyData.strOk d.shown = true → ∃ d, Fine K H v d := fun a b => ⟨_, a, b⟩
  cases g with
  | int => exact kk (.int _) (by decide +kernel)
  | tup e => exact kk (.tup (SqT.of e) (.cons (.int _) (.cons (.int _) .nil))) (by decide +kernel)
  | lst e => exact kk (.lst (SqL.of e) (.cons (.int _) (.cons (.int _) .nil))) (by decide +kernel)
theorem Rt.but {H H' : Hp} {v : V} {i j : Int} {p c : Addr} {m : Nat} (g : Rt H v i j) (P : PenAt H p c m) (b : But p H H') : Rt H' v i j := by
  obtain ⟨kvs, hd⟩ := P.dk
  cases g with
  | int i => exact .int i
  | pair h q => exact .pair (h.elim (fun e => .inl (b _ _ e fun z => by rw [z, hd] at e; cases e)) fun e => .inr (b _ _ e fun z => by rw [z, hd] at e; cases e)) q
/-! ### the error of a lambda's call -/
section
variable {S H : Hp} {σ : L2.St} {v : V} {d : PyData} {T : List (Addr × Str)} {te : XK → TE}
theorem l_why {wh : Str} {Q : VK} (nt : NoTab S) (s : Same S H) (hT : LamX.Tabs T H) (f : Fine K S v d) (h : ∀ (H1 : Hp) (E : XK) (Q1 : VK), Same S H1 → Bad mg H1 (.str wh) v E → te E σ H1 Q1)
    (q : ∀ p H2, Same S H2 → LamX.Tabs T H2 → H2 p = some (.tup [.str "number", .str wh, .str d.shown]) → Q (.ref p) H2) : LamX.tLam T (TTwhy K mg) te σ H Q := by
  refine ⟨hT, fun H1 x T1 => ?_⟩
  have s1 := ext_same nt s x
  refine h H1 _ _ s1 fun a H2 s2 _ e => ?_
  exact ⟨rfl, a, v, .str wh, d, rfl, e, f.same (s1.trans s2), fun p H3 s3 e3 => q p H3 ((s1.trans s2).trans s3) (T1.ext fun b o z => s3 b o (s2 b o z)) e3⟩
theorem shaped3 {a b c : Str} (ha : PyData.strOk a = true) (hb : PyData.strOk b = true) (hc : PyData.strOk c = true) : SeqAt.shaped (.tuple [.str a, .str b, .str c]) = true := by
  simp [SeqAt.shaped, PyData.canLay0, PyData.canLayAll0, PyData.depth, PyData.depthAll, ha, hb, hc]
theorem eqv3 (a b c : Str) : PyData.eqv (.tuple [.str a, .str b, .str c]) (.tuple [.str a, .str b, .str c]) = true := by
  simp [PyData.eqv, PyData.eqvAll]
theorem op_in {r : R2} {ta tb : TE} {Q : VK} (h : ta σ H fun x H1 => tb σ H1 fun y H2 => r x y H2 Q) : tOp r ta tb σ H Q := h
theorem dp3 {H : Hp} {p : Addr} {a b c : Str} (h : H p = some (.tup [.str a, .str b, .str c])) : Dp K H (.ref p) (.tuple [.str a, .str b, .str c]) := .tup (SqT.of h) (.cons (.str _) (.cons (.str _) (.cons (.str _) .nil)))
theorem why_row {r : R2} {wh : Str} {Q : VK} {i : Nat} (hi : σ[i]? = some (some v)) (nt : NoTab S) (s : Same S H) (hT : LamX.Tabs T H) (f : Fine K S v d) (h : ∀ (H1 : Hp) (E : XK) (Q1 : VK), Same S H1 → Bad mg H1 (.str wh) v E → te E σ H1 Q1)
    (q : ∀ p b H2, Same S H2 → LamX.Tabs T H2 → H2 p = some (.tup [.str "number", .str wh, .str d.shown]) → H2 b = some (.tup [.str "number", .str wh, .str d.shown]) → r (.ref p) (.ref b) H2 Q) :
    tOp r (LamX.tLam T (TTwhy K mg) te) (tTup (tCons (tC (.str "number")) (tCons (tC (.str wh)) (tCons (tCB (rShow K) (tCons (tVar i) tNil)) tNil)))) σ H Q := by
  refine op_in (l_why nt s hT f h fun p H2 s2 T2 e2 => ?_)
  have f2 := f.same s2
  refine l_tup (va_cons val_c (va_cons val_c (va_cons (v_show (val_var hi) f2.1 f2.2.1 (Nat.le_trans f2.2.2.1 (by decide)) (Nat.le_trans f2.2.2.2.1 (by decide))) va_nil))) (by show 3 ≤ 100000; decide) fun b hb => ?_
  exact q p b _ (s2.trans (Same.new' hb)) (Tabs.same T2 (Same.new' hb)) ((Same.new' hb) _ _ e2) upd_same
theorem why_ne {wh : Str} {Q : VK} {i : Nat} (hw : PyData.strOk wh = true) (hi : σ[i]? = some (some v)) (nt : NoTab S) (s : Same S H) (hT : LamX.Tabs T H) (f : Fine K S v d) (h : ∀ (H1 : Hp) (E : XK) (Q1 : VK), Same S H1 → Bad mg H1 (.str wh) v E → te E σ H1 Q1)
    (q : ∀ H2, Same S H2 → LamX.Tabs T H2 → Q (.bl false) H2) : tOp (rNeD K) (LamX.tLam T (TTwhy K mg) te) (tTup (tCons (tC (.str "number")) (tCons (tC (.str wh)) (tCons (tCB (rShow K) (tCons (tVar i) tNil)) tNil)))) σ H Q :=
  why_row hi nt s hT f h fun p b H2 s2 T2 e1 e2 => ⟨_, _, dp3 e1, dp3 e2, shaped3 (by decide +kernel) hw f.2.2.2.2, shaped3 (by decide +kernel) hw f.2.2.2.2, by rw [eqv3]; exact q H2 s2 T2⟩
theorem why_eq {wh : Str} {Q : VK} {i : Nat} (hw : PyData.strOk wh = true) (hi : σ[i]? = some (some v)) (nt : NoTab S) (s : Same S H) (hT : LamX.Tabs T H) (f : Fine K S v d) (h : ∀ (H1 : Hp) (E : XK) (Q1 : VK), Same S H1 → Bad mg H1 (.str wh) v E → te E σ H1 Q1)
    (q : ∀ H2, Same S H2 → LamX.Tabs T H2 → Q (.bl true) H2) : tOp (rEqD K) (LamX.tLam T (TTwhy K mg) te) (tTup (tCons (tC (.str "number")) (tCons (tC (.str wh)) (tCons (tCB (rShow K) (tCons (tVar i) tNil)) tNil)))) σ H Q :=
  why_row hi nt s hT f h fun p b H2 s2 T2 e1 e2 => ⟨_, _, dp3 e1, dp3 e2, shaped3 (by decide +kernel) hw f.2.2.2.2, shaped3 (by decide +kernel) hw f.2.2.2.2, by rw [eqv3]; exact q H2 s2 T2⟩
end
/-! ### a local that holds one of several defs -/
structure HeldX (P : Program) (w : World) (K : PySem.W.Frag) (mg : Str → Option Value) (base : Heap) (k : Nat) (f : Addr) (sp : Sp) : Prop where
  ex : ∃ (fd : FuncData) (ps : List Str), FnOk P w K mg base (L2.CX P w) k f fd ps sp ∧ PySem.W.keepIn K (.ref f) = true ∧ Binds K fd ps []
def tCallX (i : Nat) (S : Addr → Sp → Prop) (E : XK) (t : TA) : TE := fun σ H Q => ∃ f sp, σ[i]? = some (some (.ref f)) ∧ S f sp ∧ t σ H fun vs H1 => sp vs H1 Q E
theorem pe_callX {X : Cx} {k i : Nat} {S : Addr → Sp → Prop} {E : XK} {x : Str} {p pos : Pos} {e : Expr} {es : List Expr} {t : TA} (A : ∀ f sp, S f sp → HeldX X.prog X.w X.K X.mg X.base k f sp) (hr : Room k X.A)
    (hN : X.N[i]? = some x) (hv : Vis X.env.scope x) (hx : Passes (L2.CX X.prog X.w) X E) (ha : PA X (e :: es) t) (hdb : (x == ("__debug__" : Str)) = false := by decide) (hcd : (x == ("__classdict__" : Str)) = false := by decide)
    (he : starEach (e :: es) X.env = (false, eval e X.env) :: starEach es X.env := by rfl) (hpl : (backTo pos (starEach es X.env)).any (·.1) = false := by rfl) : PE X (.Call (.Name x p) (e :: es) [] pos) (tCallX i S E t) := by
  refine ⟨fun pins s σ H Q I h => ?_⟩
  obtain ⟨f, sp, hs, hS, ht⟩ := h
  obtain ⟨fd, ps, F, hk, hb⟩ := (A f sp hS).ex
  have e0 : (fun (vs : List V) (H1 : Hp) => sp (vs ++ []) H1 Q E) = fun vs H1 => sp vs H1 Q E := by
    funext vs H1
    rw [List.append_nil]
  refine (pe_callL (i := i) (sp := sp) (dvs := []) F hr hN hv hk hb .nil hx ha hdb hcd he hpl).run pins s σ H Q I ⟨hs, ?_⟩
  show t σ H (fun vs H1 => sp (vs ++ []) H1 Q E)
  rw [e0]
  exact ht
def Both (mg : Str → Option Value) (f : Addr) (sp : Sp) : Prop := (f = fA mg "plus" ∧ sp = sp_plus mg) ∨ (f = fA mg "minus" ∧ sp = sp_minus mg) ∨ (f = fA mg "times" ∧ sp = sp_times mg) ∨ (f = fA mg "share" ∧ sp = sp_share mg) ∨ (f = fA mg "lower" ∧ sp = sp_lower mg)
def Ones (mg : Str → Option Value) (f : Addr) (sp : Sp) : Prop := (f = fA mg "floor_of" ∧ sp = sp_floor_of mg) ∨ (f = fA mg "ratio_text" ∧ sp = sp_ratio_text mg)
theorem FnOk.up {CX : CXT} {j k : Nat} {f : Addr} {fd : FuncData} {ps : List Str} {sp : Sp} (F : FnOk P w K mg base CX j f fd ps sp) (h : j ≤ k) : FnOk P w K mg base CX k f fd ps sp := ⟨F.len, fun A outer s H args us vs Q E hr e0 hb r z => F.run A outer s H args us vs Q E (hr.mono h) e0 hb r z⟩
theorem Both.held (T : Txt K mg) : ∀ f sp, Both mg f sp → HeldX P w K mg base 6 f sp := fun f sp h => by
  rcases h with ⟨rfl, rfl⟩ | ⟨rfl, rfl⟩ | ⟨rfl, rfl⟩ | ⟨rfl, rfl⟩ | ⟨rfl, rfl⟩
  · exact ⟨_, _, ok_plus T, T.plus.F.kp, T.plus.b⟩
  · exact ⟨_, _, ok_minus T, T.minus.F.kp, T.minus.b⟩
  · exact ⟨_, _, ok_times T, T.times.F.kp, T.times.b⟩
  · exact ⟨_, _, ok_share T, T.share.F.kp, T.share.b⟩
  · exact ⟨_, _, ok_lower T, T.lower.F.kp, T.lower.b⟩
theorem Ones.held (T : Txt K mg) : ∀ f sp, Ones mg f sp → HeldX P w K mg base 7 f sp := fun f sp h => by
  rcases h with ⟨rfl, rfl⟩ | ⟨rfl, rfl⟩
  · exact ⟨_, _, FnOk.up (ok_floor_of T) (by decide), T.floor_of.F.kp, T.floor_of.b⟩
  · exact ⟨_, _, ok_ratio_text T, T.ratio_text.F.kp, T.ratio_text.b⟩
theorem Both.first {f : Addr} {sp : Sp} (h : Both mg f sp) {v u : V} {H : Hp} {Q : VK} {E : XK} (r : RatQ H v false) (b : Bad mg H (.str "ratio") v E) : sp [v, u] H Q E := by
  rcases h with ⟨_, rfl⟩ | ⟨_, rfl⟩ | ⟨_, rfl⟩ | ⟨_, rfl⟩ | ⟨_, rfl⟩ <;> exact ⟨v, u, rfl, .inr (.inl ⟨r, b⟩)⟩
theorem Ones.first {f : Addr} {sp : Sp} (h : Ones mg f sp) {v : V} {H : Hp} {Q : VK} {E : XK} (r : RatQ H v false) (b : Bad mg H (.str "ratio") v E) : sp [v] H Q E := by
  rcases h with ⟨_, rfl⟩ | ⟨_, rfl⟩ <;> exact ⟨v, rfl, .inr ⟨r, b⟩⟩
end
end LW

namespace LW
open PySem PySem.Spec PyProof.Rows L2 GL
section
variable {P : Program} {w : World} {K : PySem.W.Frag} {mg : Str → Option Value} {base : Heap}
theorem lam_mem {P : Addr} {q r l : Str} (h : q = r) : (P, q ++ l) ∈ [(P, r ++ l)] := by rw [h]; exact List.mem_singleton.mpr rfl
theorem lam_only {P : Addr} {q r l : Str} (h : q = r) : ∀ p ∈ [(P, r ++ l)], p.1 = P → p.2 = q ++ l := fun p hp _ => by rw [List.mem_singleton.mp hp, h]
abbrev TTab (cP : Addr) : List (Addr × Str) := [(cP, (("_law_refused_right" : Str) ++ (".<locals>." : Str)) ++ ("<lambda>" : Str))]
/-- as okG0, of a def whose code object is known -/
theorem okGc {k : Nat} {f c : Addr} {fd : FuncData} {ps : List Str} {sp : Sp} {x qual : Str} {st : Stmt} {N : List Str} (F : Fun K x qual st f fd) (hc : fd.code = .ref c) (S : FnScope N ps (defScope st)) (len : ∀ vs H Q E, sp vs H Q E → vs.length = ps.length)
    (body : ∀ (A : Around) (outer : List Env) (s : Shared) (H : Hp) (vs : List V) (Q : VK) (E : XK), Room k (A.deeper (envOfC qual (defScope st) s.heap.objs.size f (.ref c))) → Quiet A → sp vs H Q E →
      ∃ t, PSs (cxOf CX0 P w K mg base N qual (defScope st) f (.ref c) A outer s H E).nox (defBody st) t ∧ t { nx := fun _ H' => Q .non H', rt := Q } (start N vs) H) : OkG P w K mg base CX0 (k + 1) f fd ps sp := by
  obtain ⟨oc, od, kV, doc, pm, an, cdv, ct, osl, rfl, lk, hcd⟩ := F.ex
  have ec : cdv = .ref c := hc
  subst ec
  refine ⟨len, fun A outer s H args us vs Q E hr hq e0 hb r hsp => ?_⟩
  have KS : K.In s.heap := e0.mod.kin.keeps (fun b o e => (e0.bs b o e).1)
  have NL : s.heap.NoLimit := e0.mod.nolimit.keeps (fun b o e => (e0.bs b o e).1)
  have hl := len _ _ _ _ hsp
  refine codeAny_call_function hr.depth (KS _ _ lk) rfl S.co S.gen rfl (PySem.W.codeRec_of KS hcd) (hb _ _ _ _ ?_)
  refine wpAny_newFunctionEnv_cells S.kind ?_ (fun env he s1 x => ?_)
  · rintro ⟨n, v⟩ hy
    rcases S.par n (List.of_mem_zip hy).1 with q | q
    · exact .inl q
    · exact .inr ⟨q, PySem.W.cellsFrom_some _ _ _ (.inl q)⟩
  subst he
  refine ⟨NL.keeps x.toInCall.keep, codeAny_func ?_⟩
  obtain ⟨t, ht, hT⟩ := body A outer s H vs Q E (hr.deeper _) hq hsp
  have I0 := inv_start (CX := CX0) (E := E) S hr.hd e0 hl r x
  refine wpAny_mono (ht.nox.run [] s1 (start N vs) H _ I0 hT) (fun fl s' hs => ?_) (fun e s' hs => hs)
  cases fl with
  | ret u =>
    obtain ⟨v, _, H', J, rv, q⟩ := hs
    exact ⟨v, H', J.os, J.bare, J.base, J.hok, rv, q⟩
  | next =>
    obtain ⟨_, H', J, q⟩ := hs
    exact ⟨V.non, H', J.os, J.bare, J.base, J.hok, rfl, q⟩
  | brk => obtain ⟨_, _, _, q⟩ := hs; exact q.elim
  | cont => obtain ⟨_, _, _, q⟩ := hs; exact q.elim
theorem q_asgG {te : TE} {g : TG} {tz : TS} {D : Ends} {σ : L2.St} {H : Hp} (h : te σ H fun v H' => g v σ H' fun σ2 H2 => tz D σ2 H2) : tSeq (tAsg te g) tz D σ H := h
theorem tup_3 {t1 t2 t3 : TE} {σ : L2.St} {H : Hp} {Q : VK} (h : t1 σ H fun v H1 => t2 σ H1 fun w H2 => t3 σ H2 fun z H3 => 3 ≤ sizeLine ∧ ∀ q, H3 q = none → Q (.ref q) (upd H3 q (.tup [v, w, z]))) : tTup (tCons t1 (tCons t2 (tCons t3 tNil))) σ H Q := h
theorem g_three {i j k : Nat} {x y z : V} {T : Addr} {σ : L2.St} {H : Hp} {K' : L2.St → Hp → Prop} (hT : SqT K H T [x, y, z]) (q : K' (((σ.set i (some x)).set j (some y)).set k (some z)) H) : gTup K 3 (gCons (gName i) (gCons (gName j) (gCons (gName k) gNil))) (.ref T) σ H K' :=
  ⟨T, _, rfl, hT, rfl, x, _, rfl, y, _, rfl, z, _, rfl, rfl, q⟩
theorem tb_in {te : TE} {σ : L2.St} {H : Hp} {Q : Bool → Hp → Prop} (h : te σ H fun v H1 => ∃ b, v = .bl b ∧ Q b H1) : tB te σ H Q := h
theorem q_unlessC {r : R2} {a b : TE} {t1 tz : TS} {D : Ends} {σ : L2.St} {H : Hp} (h : tOp r a b σ H fun v H1 => v = .bl false ∧ tz D σ H1) (mono : ∀ {R S : VK}, (∀ v H', R v H' → S v H') → tOp r a b σ H R → tOp r a b σ H S) : tSeq (tIfS (tTest (tOp r a b)) t1 tNext) tz D σ H :=
  mono (fun v H' ⟨e, q⟩ => ⟨false, e, q⟩) h
theorem t_unless {te : TE} {t1 tz : TS} {D : Ends} {σ : L2.St} {H : Hp} (h : te σ H fun v H1 => ∃ b, v = .bl b ∧ if b = true then t1 { D with nx := tz D } σ H1 else tz D σ H1) : tSeq (tIfS (tTest te) t1 tNext) tz D σ H := h
theorem t_unless1 {te : TE} {t1 : TS} {D : Ends} {σ : L2.St} {H : Hp} (h : te σ H fun v H1 => ∃ b, v = .bl b ∧ if b = true then t1 D σ H1 else D.nx σ H1) : tIfS (tTest te) t1 tNext D σ H := h
/-- for x in [..] -/
theorem q_forN {g : TG} {ta : TA} {tb tz : TS} {D : Ends} {σ : L2.St} {H : Hp} {ys : List V} (h : VA ta σ H ys) (hl : ys.length ≤ 100000) (k : ∀ a, H a = none → ∃ Pv : Nat → L2.St → Hp → Prop, Pv 0 σ (upd H a (.lst ys)) ∧ (∀ i σ H, Pv i σ H → SqL K H a ys) ∧
      (∀ i x σ H, ys[i]? = some x → Pv i σ H → g x σ H fun σ2 H2 => tb { D with nx := Pv (i + 1), ct := Pv (i + 1), bk := tz D } σ2 H2) ∧ ∀ σ H, Pv ys.length σ H → tz D σ H) : tSeq (tFor (iList K (tLst ta)) g tb) tz D σ H :=
  h _ ⟨Nat.le_trans hl (by decide), fun a ha => ⟨a, rfl, ⟨_, SqL.of upd_same⟩, (k a ha).elim fun Pv z => for_list (K := K) (a := a) (xs := ys) (D := { D with nx := tz D }) Pv z.1 (fun i σ H _ p => z.2.1 i σ H p) z.2.2.1 z.2.2.2⟩⟩
theorem tt_in {te : TE} {σ : L2.St} {H : Hp} {Q : Bool → Hp → Prop} (h : te σ H fun v H1 => ∃ b, v = .bl b ∧ Q b H1) : tTest te σ H Q := h
theorem Both.second {f : Addr} {sp : Sp} (h : Both mg f sp) {v u : V} {i j : Int} {H : Hp} {Q : VK} {E : XK} (t : Rt H v i j) (r : RatQ H u false) (b : Bad mg H (.str "ratio") u E) : sp [v, u] H Q E := by
  rcases h with ⟨_, rfl⟩ | ⟨_, rfl⟩ | ⟨_, rfl⟩ | ⟨_, rfl⟩ | ⟨_, rfl⟩
  · exact ⟨v, u, rfl, .inr (.inr ⟨i, j, t, r, b⟩)⟩
  · exact ⟨v, u, rfl, .inr (.inr ⟨i, j, t, r, b⟩)⟩
  · exact ⟨v, u, rfl, .inr (.inr ⟨i, j, t, r, b⟩)⟩
  · exact ⟨v, u, rfl, .inr (.inr (.inl ⟨i, j, t, r, b⟩))⟩
  · exact ⟨v, u, rfl, .inr (.inr ⟨i, j, t, r, b⟩)⟩
def spRef (cP : Addr) : Sp := fun vs H Q _ => ∃ (p c : Addr) (m : Nat) (v : V) (i j : Int), vs = [.ref p, v] ∧ PenAt H p c m ∧ m + 3 < most ∧ Rt H v i j ∧ Fit i j ∧ LamX.Tabs (TTab cP) H ∧ ∀ H', PenAt H' p c (m + 3) → LamX.Tabs (TTab cP) H' → Q (.bl true) H'
theorem ok_refused (T : Txt K mg) {cC cP : Addr} (TB : LamX.TabB base mg cC cP) (hcC : (fDat K (fA mg "_law_refused_right")).code = .ref cC) : OkG P w K mg base CX0 11 (fA mg "_law_refused_right") (fDat K (fA mg "_law_refused_right")) ["_law_pen_here", "_law_a"] (spRef cP) := by
  have G_law_pick := ok_pick (P := P) (w := w) (base := base) T
  have G_law_any := ok_any (P := P) (w := w) (base := base) T
  have Gtold := ok_told (P := P) (w := w) (base := base) T
  have Gshare := ok_share (P := P) (w := w) (base := base) T
  have G_law_is := ok_law_is (P := P) (w := w) (base := base) T
  have Gis_ratio := ok_is_ratio (P := P) (w := w) (base := base) T
  obtain ⟨oc, od, kV, doc, pm, an, cdw, ct, osl, efd, lk, hcg⟩ := T._law_why.F.ex
  have lk' := efd ▸ lk
  have b' := efd ▸ T._law_why.b
  refine okGc T._law_refused_right.F hcC sc_law_refused_right (fun vs H Q E h => ?_) (fun A outer s H vs Q E hr hq h => ?_)
  · obtain ⟨p, c, m, v, i, j, rfl, _⟩ := h
    rfl
  obtain ⟨p, c, m, va, i, j, rfl, hP, hm, hR, hF, hT, k⟩ := h
  refine ⟨_, (pss_cons (ps_asg (pe_tup (pa_cons (pe_c T._law_any G_law_any (hr.mono (by decide)) (pa_cons (pv 0) pa_nil)) (pa_cons (pe_c T._law_any G_law_any (hr.mono (by decide)) (pa_cons (pv 0) pa_nil)) (pa_cons (pe_c T._law_pick G_law_pick (hr.mono (by decide)) (pa_cons (pv 0) (pa_cons (pe_lst (pa_cons pe_int (pa_cons (pe_tup (pa_cons pe_int (pa_cons pe_int pa_nil))) (pa_cons (pe_lst (pa_cons pe_int (pa_cons pe_int pa_nil))) pa_nil)))) pa_nil))) pa_nil))))
    (pg_tup rfl (pgs_cons (pg_name (i := 2) sc_law_refused_right.nd rfl (Or.inr rfl)) (pgs_cons (pg_name (i := 3) sc_law_refused_right.nd rfl (Or.inr rfl)) (pgs_cons (pg_name (i := 4) sc_law_refused_right.nd rfl (Or.inr rfl)) pgs_nil)))))
 (pss_cons (ps_if (PW.pt (pw_or (pt_not (pt_val (pe_c T._law_is G_law_is (hr.mono (by decide)) (pa_cons (pe_c T.is_ratio Gis_ratio (hr.mono (by decide)) (pa_cons (pv 2) pa_nil)) (pa_cons pe_bl pa_nil))))) (pw_or1 (pt_cmpR (op_neD (hu64 hr)) (LamX.pe_lamcall (T := TTab cP) (TT := TTwhy K mg) (x := "_law_why") (a := "_law_call") (g := fA mg "_law_why") (c := cC) (P := cP) (k := 7) (Ng := ["_law_call", "e"]) (t := fun E => tCall (sp_told mg) [] E (tCons (tVar 2) (tCons (tC (.str "price")) tNil)))
     (by rfl) T._law_why.g T._law_why.F.kp lk' hcg b' sc_law_why rfl (.inl rfl) (why_gives T hq fun e => (hr.mono (by decide) : Room 2 _).deeper e) TB rfl (lam_mem (by rfl)) (lam_only (by rfl)) (hr.mono (by decide)) (LamX.lamS_by (show LamX.lamSB (defScope s_law_refused_right) _ = true from by decide +kernel)) rfl (fun _ _ _ _ _ => rfl)
     (fun A outer s H E f c' hr => pe_call Gtold (hr.mono (by decide)) (by rfl) T.told.g T.told.F.kp T.told.b .nil (passes_call (takes_of rfl rfl rfl rfl) (fun _ _ _ _ h => h)) (pa_cons (pv 2) (pa_cons pe_str pa_nil)))) (pe_tup (pa_cons pe_str (pa_cons pe_str (pa_cons (pe_callB (id := "repr") (call_show hq (hu64 hr)) (by rfl) T.repr (by decide +kernel) (pa_cons (pv 2) pa_nil)) pa_nil)))) (nomark _))))) (pss_one (ps_ret pe_bl)) pss_nil)
 (pss_cons (ps_for PassesOwn.never rfl (pi_list (pe_lst (pa_cons (pe_cls T.plus.g) (pa_cons (pe_cls T.minus.g) (pa_cons (pe_cls T.times.g) (pa_cons (pe_cls T.share.g) (pa_cons (pe_cls T.lower.g) pa_nil))))))) (pg_name (i := 5) sc_law_refused_right.nd rfl (Or.inr rfl))
   (pss_cons (ps_if (pt_cmpR (op_neD (hu64 hr)) (LamX.pe_lamcall (T := TTab cP) (TT := TTwhy K mg) (x := "_law_why") (a := "_law_call") (g := fA mg "_law_why") (c := cC) (P := cP) (k := 7) (Ng := ["_law_call", "e"]) (t := fun E => tCallX 5 (Both mg) E (tCons (tVar 2) (tCons (tVar 3) tNil)))
     (by rfl) T._law_why.g T._law_why.F.kp lk' hcg b' sc_law_why rfl (.inl rfl) (why_gives T hq fun e => (hr.mono (by decide) : Room 2 _).deeper e) TB rfl (lam_mem (by rfl)) (lam_only (by rfl)) (hr.mono (by decide)) (LamX.lamS_by (show LamX.lamSB (defScope s_law_refused_right) _ = true from by decide +kernel)) rfl (fun _ _ _ _ _ => rfl)
     (fun A outer s H E f c' hr => pe_callX (i := 5) (Both.held T) (hr.mono (by decide)) (by rfl) (by first | exact .inl rfl | exact .inr (.inl rfl) | exact .inr (.inr rfl)) (passes_call (takes_of rfl rfl rfl rfl) (fun _ _ _ _ h => h)) (pa_cons (pv 2) (pa_cons (pv 3) pa_nil)))) (pe_tup (pa_cons pe_str (pa_cons pe_str (pa_cons (pe_callB (id := "repr") (call_show hq (hu64 hr)) (by rfl) T.repr (by decide +kernel) (pa_cons (pv 2) pa_nil)) pa_nil)))) (nomark _)) (pss_one (ps_ret pe_bl)) pss_nil) (pss_one (ps_if (pt_cmpR (op_neD (hu64 hr)) (LamX.pe_lamcall (T := TTab cP) (TT := TTwhy K mg) (x := "_law_why") (a := "_law_call") (g := fA mg "_law_why") (c := cC) (P := cP) (k := 7) (Ng := ["_law_call", "e"]) (t := fun E => tCallX 5 (Both mg) E (tCons (tVar 1) (tCons (tVar 3) tNil)))
     (by rfl) T._law_why.g T._law_why.F.kp lk' hcg b' sc_law_why rfl (.inl rfl) (why_gives T hq fun e => (hr.mono (by decide) : Room 2 _).deeper e) TB rfl (lam_mem (by rfl)) (lam_only (by rfl)) (hr.mono (by decide)) (LamX.lamS_by (show LamX.lamSB (defScope s_law_refused_right) _ = true from by decide +kernel)) rfl (fun _ _ _ _ _ => rfl)
     (fun A outer s H E f c' hr => pe_callX (i := 5) (Both.held T) (hr.mono (by decide)) (by rfl) (by first | exact .inl rfl | exact .inr (.inl rfl) | exact .inr (.inr rfl)) (passes_call (takes_of rfl rfl rfl rfl) (fun _ _ _ _ h => h)) (pa_cons (pv 1) (pa_cons (pv 3) pa_nil)))) (pe_tup (pa_cons pe_str (pa_cons pe_str (pa_cons (pe_callB (id := "repr") (call_show hq (hu64 hr)) (by rfl) T.repr (by decide +kernel) (pa_cons (pv 3) pa_nil)) pa_nil)))) (nomark _)) (pss_one (ps_ret pe_bl)) pss_nil))))
 (pss_cons (ps_for PassesOwn.never rfl (pi_list (pe_lst (pa_cons (pe_cls T.floor_of.g) (pa_cons (pe_cls T.ratio_text.g) pa_nil)))) (pg_name (i := 5) sc_law_refused_right.nd rfl (Or.inr rfl))
   (pss_one (ps_if (pt_cmpR (op_neD (hu64 hr)) (LamX.pe_lamcall (T := TTab cP) (TT := TTwhy K mg) (x := "_law_why") (a := "_law_call") (g := fA mg "_law_why") (c := cC) (P := cP) (k := 7) (Ng := ["_law_call", "e"]) (t := fun E => tCallX 5 (Ones mg) E (tCons (tVar 2) tNil))
     (by rfl) T._law_why.g T._law_why.F.kp lk' hcg b' sc_law_why rfl (.inl rfl) (why_gives T hq fun e => (hr.mono (by decide) : Room 2 _).deeper e) TB rfl (lam_mem (by rfl)) (lam_only (by rfl)) (hr.mono (by decide)) (LamX.lamS_by (show LamX.lamSB (defScope s_law_refused_right) _ = true from by decide +kernel)) rfl (fun _ _ _ _ _ => rfl)
     (fun A outer s H E f c' hr => pe_callX (i := 5) (Ones.held T) (hr.mono (by decide)) (by rfl) (by first | exact .inl rfl | exact .inr (.inl rfl) | exact .inr (.inr rfl)) (passes_call (takes_of rfl rfl rfl rfl) (fun _ _ _ _ h => h)) (pa_cons (pv 2) pa_nil))) (pe_tup (pa_cons pe_str (pa_cons pe_str (pa_cons (pe_callB (id := "repr") (call_show hq (hu64 hr)) (by rfl) T.repr (by decide +kernel) (pa_cons (pv 2) pa_nil)) pa_nil)))) (nomark _)) (pss_one (ps_ret pe_bl)) pss_nil)))
 (pss_cons (ps_if (pt_cmpR (op_neD (hu64 hr)) (LamX.pe_lamcall (T := TTab cP) (TT := TTwhy K mg) (x := "_law_why") (a := "_law_call") (g := fA mg "_law_why") (c := cC) (P := cP) (k := 7) (Ng := ["_law_call", "e"]) (t := fun E => tCall (sp_share mg) [] E (tCons (tVar 2) (tCons (tVar 4) tNil)))
     (by rfl) T._law_why.g T._law_why.F.kp lk' hcg b' sc_law_why rfl (.inl rfl) (why_gives T hq fun e => (hr.mono (by decide) : Room 2 _).deeper e) TB rfl (lam_mem (by rfl)) (lam_only (by rfl)) (hr.mono (by decide)) (LamX.lamS_by (show LamX.lamSB (defScope s_law_refused_right) _ = true from by decide +kernel)) rfl (fun _ _ _ _ _ => rfl)
     (fun A outer s H E f c' hr => pe_call Gshare (hr.mono (by decide)) (by rfl) T.share.g T.share.F.kp T.share.b .nil (passes_call (takes_of rfl rfl rfl rfl) (fun _ _ _ _ h => h)) (pa_cons (pv 2) (pa_cons (pv 4) pa_nil)))) (pe_tup (pa_cons pe_str (pa_cons pe_str (pa_cons (pe_callB (id := "repr") (call_show hq (hu64 hr)) (by rfl) T.repr (by decide +kernel) (pa_cons (pv 2) pa_nil)) pa_nil)))) (nomark _)) (pss_one (ps_ret pe_bl)) pss_nil)
 (pss_one (ps_ret (pe_cmpR (op_eqD (hu64 hr)) (LamX.pe_lamcall (T := TTab cP) (TT := TTwhy K mg) (x := "_law_why") (a := "_law_call") (g := fA mg "_law_why") (c := cC) (P := cP) (k := 7) (Ng := ["_law_call", "e"]) (t := fun E => tCall (sp_share mg) [] E (tCons (tVar 1) (tCons (tVar 4) tNil)))
     (by rfl) T._law_why.g T._law_why.F.kp lk' hcg b' sc_law_why rfl (.inl rfl) (why_gives T hq fun e => (hr.mono (by decide) : Room 2 _).deeper e) TB rfl (lam_mem (by rfl)) (lam_only (by rfl)) (hr.mono (by decide)) (LamX.lamS_by (show LamX.lamSB (defScope s_law_refused_right) _ = true from by decide +kernel)) rfl (fun _ _ _ _ _ => rfl)
     (fun A outer s H E f c' hr => pe_call Gshare (hr.mono (by decide)) (by rfl) T.share.g T.share.F.kp T.share.b .nil (passes_call (takes_of rfl rfl rfl rfl) (fun _ _ _ _ h => h)) (pa_cons (pv 1) (pa_cons (pv 4) pa_nil)))) (pe_tup (pa_cons pe_str (pa_cons pe_str (pa_cons (pe_callB (id := "repr") (call_show hq (hu64 hr)) (by rfl) T.repr (by decide +kernel) (pa_cons (pv 4) pa_nil)) pa_nil)))) (nomark _))))))))), ?_⟩
  refine q_asgG (tup_3 ?_)
  refine c_call (va_cons (val_var rfl) va_nil) ⟨p, c, m, rfl, hP, by omega, fun odd H1 g1 b1 P1 => ?_⟩
  refine c_call (va_cons (val_var rfl) va_nil) ⟨p, c, m + 1, rfl, P1, by omega, fun more H2 g2 b2 P2 => ?_⟩
  refine c_callL (R := Rows (fun _ v H => Zr H v) 0 3) (val_var rfl) (Rows.stays fun _ v H1 H2 s g => g.same s) (vm_cons (fun _ v H1 H2 s g => g.same s) (fun Q q => val_c _ (q _ _ (Same.refl _) .int)) fun _ _ => vm_cons (fun _ v H1 H2 s g => g.same s) (em_tup (va_cons val_c (va_cons val_c va_nil)) (by decide) fun a H' e => .tup e) fun _ _ => vm_cons (fun _ v H1 H2 s g => g.same s) (em_lst' (va_cons val_c (va_cons val_c va_nil)) (by decide) fun a H' e => .lst e) fun _ _ => vm_nil) (fun vs H' r => by rw [r.2]; decide) fun l zs H3 s3 e3 r3 => ?_
  refine ⟨p, c, l, zs, m + 2, rfl, P2.same s3, by omega, SqL.of e3, by rw [r3.2]; decide, by rw [r3.2]; decide, fun zero H4 hz b4 P4 => ?_⟩
  have gz : Zr H4 zero := by
    obtain ⟨n, hn, e⟩ := List.getElem_of_mem hz
    exact Zr.but (r3.1.get (by rw [List.getElem?_eq_getElem hn, e])) (P2.same s3) b4
  have go : Odd H4 odd := (((g1.but P1 b2).same s3).but (P2.same s3) b4)
  have gm : Odd H4 more := ((g2.same s3).but (P2.same s3) b4)
  have gR : Rt H4 va i j := ((((hR.but hP b1).but P1 b2).same s3).but (P2.same s3) b4)
  have gT : LamX.Tabs (TTab cP) H4 := Tabs.but (Tabs.same (Tabs.but (Tabs.but hT hP b1) P1 b2) s3) (P2.same s3) b4
  refine ⟨by show 3 ≤ sizeLine; decide, fun q0 hq0 => ?_⟩
  have s4 : Same H4 (upd H4 q0 (.tup [odd, more, zero])) := Same.new' hq0
  refine g_three (SqT.of upd_same) ?_
  have hT5 := Tabs.same gT s4
  have P5 := P4.same s4
  have gz := gz.same s4
  have go := go.same s4
  have gm := gm.same s4
  have gR := gR.same s4
  revert s4 hT5 P5 gz go gm gR
  generalize upd H4 q0 (.tup [odd, more, zero]) = H5
  intro s4 hT5 P5 gz go gm gR
  clear s4 gT b4 hz e3 r3 s3 b1 b2
  obtain ⟨d1, f1⟩ := Odd.fine (K := K) go.bare
  obtain ⟨d2, f2⟩ := Odd.fine (K := K) gm.bare
  obtain ⟨d3, f3⟩ := Zr.fine (K := K) gz.bare
  obtain ⟨l0, gz0, _⟩ := Zr.rt gz.bare
  have gP := PenAt.bare P5
  have go' := go.bare
  have gm' := gm.bare
  have gR' := gR.bare
  have wr : PyData.strOk ("ratio" : Str) = true := by decide +kernel
  -- _law_is(is_ratio(odd), False), told
  refine q_ifOrNot (tb_in (call_1 (c_call (va_cons (val_var rfl) va_nil) ⟨odd, false, rfl, go.rat, fun H6 s6 => va_1 (val_c _ ⟨false, false, rfl, _, rfl, iteF (tt_in ?_)⟩)⟩)))
  have s56 := (bare_in H5).trans s6
  refine why_ne (by decide +kernel) rfl (bare_no H5) s56 (Tabs.same hT5 s6) f1 (fun H7 E1 Q1 s7 bd => c_call (va_cons (val_var rfl) (va_cons val_c va_nil)) ⟨odd, _, rfl, .inr ⟨(go'.same s7).rat, bd⟩⟩) fun H7 s7 T7 => ⟨false, rfl, iteF ?_⟩
  clear s6 s56
  -- the five of two arguments
  refine q_forN (va_cons val_c (va_cons val_c (va_cons val_c (va_cons val_c (va_cons val_c va_nil))))) (by show 5 ≤ 100000; decide) fun a ha => ?_
  have n8 : Same H7 (upd H7 a (.lst [.ref (fA mg "plus"), .ref (fA mg "minus"), .ref (fA mg "times"), .ref (fA mg "share"), .ref (fA mg "lower")])) := Same.new' ha
  have e8 : (upd H7 a (.lst [.ref (fA mg "plus"), .ref (fA mg "minus"), .ref (fA mg "times"), .ref (fA mg "share"), .ref (fA mg "lower")])) a = some (.lst [.ref (fA mg "plus"), .ref (fA mg "minus"), .ref (fA mg "times"), .ref (fA mg "share"), .ref (fA mg "lower")]) := upd_same
  revert n8 e8
  generalize upd H7 a (.lst [.ref (fA mg "plus"), .ref (fA mg "minus"), .ref (fA mg "times"), .ref (fA mg "share"), .ref (fA mg "lower")]) = H8
  intro n8 e8
  have b8 : Same (bareH H5) (bareH H8) := same_bare (bare_no H5) (s7.trans n8)
  have e8' := bare_at e8 (fun _ z => by cases z)
  refine ⟨fun _ σ H => (∃ z, σ = [some (.ref p), some va, some odd, some more, some zero, z]) ∧ Same (bareH H8) H ∧ LamX.Tabs (TTab cP) H, ⟨⟨_, rfl⟩, bare_in H8, Tabs.same T7 n8⟩, fun _ σ H z => SqL.of (z.2.1 _ _ e8'), fun n x σ H hx z => ?_, fun σ H z => ?_⟩
  · obtain ⟨⟨z0, rfl⟩, s9, T9⟩ := z
    obtain ⟨f, sp, rfl, hS⟩ : ∃ f sp, x = .ref f ∧ Both mg f sp := by
      have hx' := List.mem_of_getElem? hx
      simp only [List.mem_cons, List.not_mem_nil, or_false] at hx'
      rcases hx' with e | e | e | e | e
      · exact ⟨_, _, e, .inl ⟨rfl, rfl⟩⟩
      · exact ⟨_, _, e, .inr (.inl ⟨rfl, rfl⟩)⟩
      · exact ⟨_, _, e, .inr (.inr (.inl ⟨rfl, rfl⟩))⟩
      · exact ⟨_, _, e, .inr (.inr (.inr (.inl ⟨rfl, rfl⟩)))⟩
      · exact ⟨_, _, e, .inr (.inr (.inr (.inr ⟨rfl, rfl⟩)))⟩
    refine g_name (t_unless (why_ne wr rfl (bare_no H8) s9 T9 (f1.same b8) (fun H1 E1 Q1 s1 bd => ⟨f, sp, rfl, hS, (va_cons (val_var rfl) (va_cons (val_var rfl) va_nil)) _ (hS.first (((go'.same b8).same s1).rat) bd)⟩) fun H1 s1 T1 => ⟨false, rfl, iteF ?_⟩))
    refine t_unless1 (why_ne wr rfl (bare_no H8) s1 T1 (f2.same b8) (fun H2 E1 Q1 s2 bd => ⟨f, sp, rfl, hS, (va_cons (val_var rfl) (va_cons (val_var rfl) va_nil)) _ (hS.second ((gR'.same b8).same s2) (((gm'.same b8).same s2).rat) bd)⟩) fun H2 s2 T2 => ⟨false, rfl, iteF ?_⟩)
    exact ⟨⟨_, rfl⟩, s2, T2⟩
  obtain ⟨⟨z0, rfl⟩, s9, T9⟩ := z
  have f1 := f1.same b8
  have f3 := f3.same b8
  have go' := go'.same b8
  have gR' := gR'.same b8
  have gz0 := gz0.same b8
  have gP := gP.same b8
  -- the two of one
  refine q_forN (va_cons val_c (va_cons val_c va_nil)) (by show 2 ≤ 100000; decide) fun a2 ha2 => ?_
  have n10 : Same H (upd H a2 (.lst [.ref (fA mg "floor_of"), .ref (fA mg "ratio_text")])) := Same.new' ha2
  have e10 : (upd H a2 (.lst [.ref (fA mg "floor_of"), .ref (fA mg "ratio_text")])) a2 = some (.lst [.ref (fA mg "floor_of"), .ref (fA mg "ratio_text")]) := upd_same
  revert n10 e10
  generalize upd H a2 (.lst [.ref (fA mg "floor_of"), .ref (fA mg "ratio_text")]) = H10
  intro n10 e10
  have b10 : Same (bareH H8) (bareH H10) := same_bare (bare_no H8) (s9.trans n10)
  have e10' := bare_at e10 (fun _ z => by cases z)
  have T10 := Tabs.same T9 n10
  have f1 := f1.same b10
  have f3 := f3.same b10
  have go' := go'.same b10
  have gR' := gR'.same b10
  have gz0 := gz0.same b10
  have gP := gP.same b10
  refine ⟨fun _ σ H => (∃ z, σ = [some (.ref p), some va, some odd, some more, some zero, z]) ∧ Same (bareH H10) H ∧ LamX.Tabs (TTab cP) H, ⟨⟨_, rfl⟩, bare_in H10, T10⟩, fun _ σ H z => SqL.of (z.2.1 _ _ e10'), fun n x σ H hx z => ?_, fun σ H z => ?_⟩
  · obtain ⟨⟨z0, rfl⟩, s9, T9⟩ := z
    obtain ⟨f, sp, rfl, hS⟩ : ∃ f sp, x = .ref f ∧ Ones mg f sp := by
      have hx' := List.mem_of_getElem? hx
      simp only [List.mem_cons, List.not_mem_nil, or_false] at hx'
      rcases hx' with e | e
      · exact ⟨_, _, e, .inl ⟨rfl, rfl⟩⟩
      · exact ⟨_, _, e, .inr ⟨rfl, rfl⟩⟩
    refine g_name (t_unless1 (why_ne wr rfl (bare_no H10) s9 T9 f1 (fun H1 E1 Q1 s1 bd => ⟨f, sp, rfl, hS, (va_cons (val_var rfl) va_nil) _ (hS.first ((go'.same s1).rat) bd)⟩) fun H1 s1 T1 => ⟨false, rfl, iteF ?_⟩))
    exact ⟨⟨_, rfl⟩, s1, T1⟩
  obtain ⟨⟨z0, rfl⟩, s11, T11⟩ := z
  refine t_unless (why_ne wr rfl (bare_no H10) s11 T11 f1 (fun H1 E1 Q1 s1 bd => c_call (va_cons (val_var rfl) (va_cons (val_var rfl) va_nil)) ⟨odd, zero, rfl, .inr (.inl ⟨(go'.same s1).rat, bd⟩)⟩) fun H1 s1 T1 => ⟨false, rfl, iteF ?_⟩)
  refine st_ret' (why_eq (by decide +kernel) rfl (bare_no H10) s1 T1 f3 (fun H2 E1 Q1 s2 bd => c_call (va_cons (val_var rfl) (va_cons (val_var rfl) va_nil)) ⟨va, zero, rfl, .inr (.inr (.inr ⟨i, j, l0, gR'.same s2, gz0.same s2, bd⟩))⟩) fun H2 s2 T2 => ?_)
  exact k H2 (gP.same s2) T2
end
end LW

namespace LW
open PySem PySem.Spec PyProof.Rows L2 GL
section
variable {P : Program} {w : World} {K : PySem.W.Frag} {mg : Str → Option Value} {base : Heap}

/-! ### the law's numbers -/
theorem sum_low (i j k l s t : Int) (h : 0 < s * t) : (i * s * (l * t) + k * t * (j * s)) / gI (i * s * (l * t) + k * t * (j * s)) (j * s * (l * t)) = (i * l + k * j) / gI (i * l + k * j) (j * l) ∧
    (j * s * (l * t)) / gI (i * s * (l * t) + k * t * (j * s)) (j * s * (l * t)) = (j * l) / gI (i * l + k * j) (j * l) := by
  have e1 : i * s * (l * t) + k * t * (j * s) = (i * l + k * j) * (s * t) := by grind
  have e2 : j * s * (l * t) = j * l * (s * t) := by grind
  rw [e1, e2]
  exact low_mul _ _ h
theorem dif_low (i j k l s t : Int) (h : 0 < s * t) : (i * s * (l * t) - k * t * (j * s)) / gI (i * s * (l * t) - k * t * (j * s)) (j * s * (l * t)) = (i * l - k * j) / gI (i * l - k * j) (j * l) ∧
    (j * s * (l * t)) / gI (i * s * (l * t) - k * t * (j * s)) (j * s * (l * t)) = (j * l) / gI (i * l - k * j) (j * l) := by
  have e1 : i * s * (l * t) - k * t * (j * s) = (i * l - k * j) * (s * t) := by grind
  have e2 : j * s * (l * t) = j * l * (s * t) := by grind
  rw [e1, e2]
  exact low_mul _ _ h
theorem mul_low (i j k l s t : Int) (h : 0 < s * t) : (i * s * (k * t)) / gI (i * s * (k * t)) (j * s * (l * t)) = (i * k) / gI (i * k) (j * l) ∧ (j * s * (l * t)) / gI (i * s * (k * t)) (j * s * (l * t)) = (j * l) / gI (i * k) (j * l) := by
  have e1 : i * s * (k * t) = i * k * (s * t) := by grind
  have e2 : j * s * (l * t) = j * l * (s * t) := by grind
  rw [e1, e2]
  exact low_mul _ _ h
theorem neg_low (i j k l s t : Int) (h : 0 < s * t) : (-(i * s) * (l * t)) / gI (-(i * s) * (l * t)) (j * s * -(k * t)) = (-(i * l)) / gI (-(i * l)) (-(j * k)) ∧ (j * s * -(k * t)) / gI (-(i * s) * (l * t)) (j * s * -(k * t)) = (-(j * k)) / gI (-(i * l)) (-(j * k)) := by
  have e1 : -(i * s) * (l * t) = -(i * l) * (s * t) := by grind
  have e2 : j * s * -(k * t) = -(j * k) * (s * t) := by grind
  rw [e1, e2]
  exact low_mul _ _ h
theorem one_low {i j s : Int} (h : 0 < s) (g : gI i j = 1) : i * s / gI (i * s) (j * s) = i ∧ j * s / gI (i * s) (j * s) = j := by
  have e := low_mul i j h
  rw [g, Int.ediv_one, Int.ediv_one] at e
  exact e
theorem fit_of {i : Int} (h : i.natAbs ≤ 10 ^ 37) : i.natAbs < 2 ^ 1000 := by
  have a : (2 : Nat) ^ 130 ≤ 2 ^ 1000 := Nat.pow_le_pow_right (by decide) (by decide)
  have b : (10 : Nat) ^ 37 < 2 ^ 130 := by decide
  omega
theorem abs_mul {i s : Int} {a b : Nat} (h : i.natAbs ≤ a) (g : s.natAbs ≤ b) : (i * s).natAbs ≤ a * b := by
  rw [Int.natAbs_mul]
  exact Nat.mul_le_mul h g
theorem fit3 {i j s : Int} (hi : i.natAbs ≤ 10 ^ 18) (hj : j.natAbs ≤ 10 ^ 18) (s0 : 0 < s) (s3 : s ≤ 3) : Fit (i * s) (j * s) :=
  ⟨fit_of (Nat.le_trans (abs_mul hi (show s.natAbs ≤ 3 by omega)) (by decide)), fit_of (Nat.le_trans (abs_mul hj (show s.natAbs ≤ 3 by omega)) (by decide))⟩
/-! ### what repr tells of the law's pairs -/
theorem int_short {n : Int} (h : n.natAbs ≤ 10 ^ 38) : (PyData.shown (.int n)).length ≤ 60 := by
  have e := int_text_length_le10 (a := n) (k := 50) (by decide) (Nat.lt_of_le_of_lt h (by decide))
  show (Str.ofString (toString n)).length ≤ 60
  rw [PySem.ofString_length]
  omega
theorem int_log {n : Int} (h : n.natAbs ≤ 10 ^ 38) : n.natAbs.log2 < 1920 := by
  have : n.natAbs < 2 ^ 130 := Nat.lt_of_le_of_lt h (by decide)
  rcases Nat.eq_zero_or_pos n.natAbs with z | z
  · rw [z]; decide
  · have := (Nat.log2_lt (by omega)).mpr this
    omega
def Nice (d : PyData) : Prop := d.showable = true ∧ d.depth ≤ 3 ∧ d.shown.length ≤ 300
def pr (x y : Int) : PyData := .tuple [.int x, .int y]
theorem pr_nice {x y : Int} (hx : x.natAbs ≤ 10 ^ 38) (hy : y.natAbs ≤ 10 ^ 38) : Nice (pr x y) := by
  refine ⟨?_, by simp [pr, PyData.depth, PyData.depthAll], ?_⟩
  · simp only [pr, PyData.showable, PyData.showableAll, Bool.and_true, Bool.and_eq_true, decide_eq_true_eq]
    exact ⟨int_log hx, int_log hy⟩
  · have h1 := int_short hx
    have h2 := int_short hy
    have h3 := tupleText_len_le (PyData.shownAll [.int x, .int y])
    simp only [pr, PyData.shown, PyData.shownAll, List.map_cons, List.map_nil, List.sum_cons, List.sum_nil, List.length_cons, List.length_nil] at *
    omega
theorem lst_nice {x y : Int} (hx : x.natAbs ≤ 10 ^ 38) (hy : y.natAbs ≤ 10 ^ 38) : Nice (.list [.int x, .int y]) := by
  refine ⟨?_, by simp [PyData.depth, PyData.depthAll], ?_⟩
  · simp only [PyData.showable, PyData.showableAll, Bool.and_true, Bool.and_eq_true, decide_eq_true_eq]
    exact ⟨int_log hx, int_log hy⟩
  · have h1 := int_short hx
    have h2 := int_short hy
    have h3 := listText_len_le (PyData.shownAll [.int x, .int y])
    simp only [PyData.shown, PyData.shownAll, List.map_cons, List.map_nil, List.sum_cons, List.sum_nil, List.length_cons, List.length_nil] at *
    omega
theorem int_nice {x : Int} (hx : x.natAbs ≤ 10 ^ 38) : Nice (.int x) := ⟨decide_eq_true (int_log hx), by simp [PyData.depth], Nat.le_trans (int_short hx) (by decide)⟩
theorem dd_pr {H : Hp} {q : Addr} {x y : Int} (h : H q = some (.tup [.int x, .int y])) : Dd K H (.ref q) (pr x y) := .tup (SqT.of h) (.cons (.int _) (.cons (.int _) .nil))
theorem Rt.nice {H : Hp} {v : V} {i j : Int} (h : Rt H v i j) (hi : i.natAbs ≤ 10 ^ 38) (hj : j.natAbs ≤ 10 ^ 38) : ∃ d, Dd K H v d ∧ Nice d := by
  cases h with
  | int i => exact ⟨_, .int _, int_nice hi⟩
  | pair h p =>
    rcases h with e | e
    · exact ⟨_, .lst (SqL.of e) (.cons (.int _) (.cons (.int _) .nil)), lst_nice hi hj⟩
    · exact ⟨_, .tup (SqT.of e) (.cons (.int _) (.cons (.int _) .nil)), pr_nice hi hj⟩
theorem show_one {H : Hp} {v : V} {d : PyData} {Q : VK} (h : Dd K H v d) (n : Nice d) (q : Q (.str d.shown) H) : rShow K [v] H Q := ⟨v, d, rfl, h, n.1, Nat.le_trans n.2.1 (by decide), Nat.le_trans n.2.2 (by decide), q⟩
theorem show_two {H : Hp} {q : Addr} {v u : V} {d e : PyData} {Q : VK} (hq : H q = some (.tup [v, u])) (h1 : Dd K H v d) (h2 : Dd K H u e) (n : Nice d) (m : Nice e) (z : Q (.str (PyData.tuple [d, e]).shown) H) : rShow K [.ref q] H Q := by
  refine ⟨_, .tuple [d, e], rfl, .tup (SqT.of hq) (.cons h1 (.cons h2 .nil)), ?_, ?_, ?_, z⟩
  · simp only [PyData.showable, PyData.showableAll, n.1, m.1, Bool.and_true]
  · have a := n.2.1
    have b := m.2.1
    simp only [PyData.depth, PyData.depthAll]
    omega
  · have a := n.2.2
    have b := m.2.2
    have h3 := tupleText_len_le (PyData.shownAll [d, e])
    refine Nat.le_trans (m := 1000) ?_ (by decide)
    simp only [PyData.shown, PyData.shownAll, List.map_cons, List.map_nil, List.sum_cons, List.sum_nil, List.length_cons, List.length_nil] at *
    omega
theorem ne_same {s : Str} {H : Hp} {Q : VK} (q : Q (.bl false) H) : rNe (.str s) (.str s) H Q := ⟨rfl, by rw [decide_eq_true rfl]; exact q⟩
theorem q_par {ta : TA} {tz : TS} {D : Ends} {σ : L2.St} {H : Hp} {i j : Nat} (h : ta σ H fun vs H1 => ∃ v w, vs = [v, w] ∧ tz D ((σ.set i (some v)).set j (some w)) H1) : tSeq (tPar i j ta) tz D σ H := h
theorem l_four {t1 t2 t3 t4 : TE} {σ : L2.St} {H : Hp} {Q : VK} (h : t1 σ H fun v1 H1 => t2 σ H1 fun v2 H2 => t3 σ H2 fun v3 H3 => t4 σ H3 fun v4 H4 => 4 ≤ sizeLine ∧ ∀ q, H4 q = none → Q (.ref q) (upd H4 q (.lst [v1, v2, v3, v4]))) :
    tLst (tCons t1 (tCons t2 (tCons t3 (tCons t4 tNil)))) σ H Q := h
theorem or_in {t u : TT} {σ : L2.St} {H : Hp} {Q : Bool → Hp → Prop} (h : t σ H fun c H1 => if (!c) = true then Q true H1 else u σ H1 Q) : tOr (tNot t) u σ H Q := h
theorem t_unlessN1 {te : TE} {t1 : TS} {D : Ends} {σ : L2.St} {H : Hp} (h : te σ H fun v H1 => ∃ b, v = .bl b ∧ if (!b) = true then t1 D σ H1 else D.nx σ H1) : tIfS (tNot (tB te)) t1 tNext D σ H := h
theorem chain_in {r r' : R2} {ta tb tc : TE} {σ : L2.St} {H : Hp} {Q : Bool → Hp → Prop} (h : ta σ H fun x H1 => tb σ H1 fun y H2 => r x y H2 fun z H3 => ∃ k, z = .bl k ∧ (if k = true then tc σ H3 fun w' H4 => r' y w' H4 (fun v H5 => ∃ b, v = .bl b ∧ Q (!b) H5) else (∃ b, V.bl false = .bl b ∧ Q (!b) H3))) :
    tNot (tTest (tChain r r' ta tb tc)) σ H Q := h
theorem v_tif2 {t : TT} {ta tb : TE} {x y z : V} {σ : L2.St} {H : Hp} {b : Bool} (h : Ans t σ H b) (h1 : b = true → Val ta σ H x) (h2 : b = false → Val tb σ H y) (e : (if b = true then x else y) = z) : Val (tIf t ta tb) σ H z := fun Q q => h _ (by
  subst e
  cases b with
  | true => exact iteT (h1 rfl _ q)
  | false => exact iteF (h2 rfl _ q))
theorem Low.same {H H' : Hp} {t : Addr} {a b : Int} (h : Low H t a b) (s : Same H H') : Low H' t a b := ⟨s _ _ h.1, h.2⟩
theorem Low.but {H H' : Hp} {t : Addr} {a b : Int} {p c : Addr} {m : Nat} (h : Low H t a b) (P : PenAt H p c m) (x : But p H H') : Low H' t a b := by
  obtain ⟨kvs, hd⟩ := P.dk
  have e := h.1
  exact ⟨x _ _ e (fun z => by rw [z, hd] at e; cases e), h.2⟩
theorem Low.fit {H : Hp} {t : Addr} {a b : Int} (h : Low H t a b) : Fit a b := ⟨fit_of (Nat.le_trans h.2.2.2.1 (by decide)), fit_of (Nat.le_trans (show b.natAbs ≤ 10 ^ 18 by have := h.2.1; have := h.2.2.2.2; omega) (by decide))⟩
theorem Low.neg {H H' : Hp} {t r : Addr} {a b : Int} (h : Low H t a b) (e : H' r = some (.tup [.int (-a), .int b])) : Low H' r (-a) b := ⟨e, h.2.1, by
  have := h.2.2.1
  unfold gI at this ⊢
  rw [Int.natAbs_neg]
  exact this, by rw [Int.natAbs_neg]; exact h.2.2.2.1, h.2.2.2.2⟩
theorem low2_abs {i j : Int} {a : Nat} (h : i.natAbs ≤ a) (l : a ≤ 10 ^ 38) : (i / gI i j).natAbs ≤ 10 ^ 38 := Nat.le_trans (low_abs i) (Nat.le_trans h l)
theorem low2_pos {i j : Int} (h : 0 < j) (l : j.natAbs ≤ 10 ^ 38) : (j / gI i j).natAbs ≤ 10 ^ 38 := by
  have := low_pos i h
  omega

def spLaw (cP : Addr) : Sp := fun vs H Q _ => ∃ (a : Addr) (ns : List Int), vs = [.ref a] ∧ SqL K H a (ns.map V.int) ∧ ns.length ≤ 63 ∧ LamX.Tabs (TTab cP) H ∧ ∀ H', Q (.bl true) H'
theorem ok_law (T : Txt K mg) {cC cP : Addr} (TB : LamX.TabB base mg cC cP) (hcC : (fDat K (fA mg "_law_refused_right")).code = .ref cC) : OkG P w K mg base CX0 12 (fA mg "law") (fDat K (fA mg "law")) ["_law_script"] (spLaw (K := K) cP) := by
  have G_law_pen := ok_pen (P := P) (w := w) (base := base) T._law_pen.F T
  have G_law_pick := ok_pick (P := P) (w := w) (base := base) T
  have G_law_some_ratio := ok_some_ratio (P := P) (w := w) (base := base) T
  have G_law_q := ok_law_q (P := P) (w := w) (base := base) T
  have G_law_far := ok_far (P := P) (w := w) (base := base) T
  have G_law_passed := ok_passed (P := P) (w := w) (base := base) T
  have Gtold := ok_told (P := P) (w := w) (base := base) T
  have Gplus := ok_plus (P := P) (w := w) (base := base) T
  have Gminus := ok_minus (P := P) (w := w) (base := base) T
  have Gtimes := ok_times (P := P) (w := w) (base := base) T
  have Gshare := ok_share (P := P) (w := w) (base := base) T
  have Glower := ok_lower (P := P) (w := w) (base := base) T
  have Gfloor_of := ok_floor_of (P := P) (w := w) (base := base) T
  have Gratio_text := ok_ratio_text (P := P) (w := w) (base := base) T
  have Gis_ratio := ok_is_ratio (P := P) (w := w) (base := base) T
  have G_law_plus := ok_law_plus (P := P) (w := w) (base := base) T
  have G_law_minus := ok_law_minus (P := P) (w := w) (base := base) T
  have G_law_times := ok_law_times (P := P) (w := w) (base := base) T
  have G_law_share := ok_law_share (P := P) (w := w) (base := base) T
  have G_law_less := ok_law_less (P := P) (w := w) (base := base) T
  have G_law_is := ok_law_is (P := P) (w := w) (base := base) T
  have G_law_is_whole := ok_law_is_whole (P := P) (w := w) (base := base) T
  have G_law_refused_right := ok_refused (P := P) (w := w) (base := base) T TB hcC
  refine okG0 T.law.F sclaw (fun vs H Q E h => ?_) (fun cdv A outer s H vs Q E hr hq h => ?_)
  · obtain ⟨a, ns, rfl, _⟩ := h
    rfl
  obtain ⟨a, ns, rfl, hS, hn, hT, k⟩ := h
  refine ⟨_, (pss_cons (ps_set (i := 1) sclaw.nd rfl (Or.inl rfl) (pe_c T._law_pen G_law_pen (hr.mono (by decide)) (pa_cons (pv 0) pa_nil)))
  (pss_cons (ps_for PassesOwn.never rfl (pi_range1 (by rfl) T.range (pa_cons pe_int pa_nil)) (pg_name (i := 2) sclaw.nd rfl (Or.inl rfl))
  (pss_cons (ps_par (i := 3) (j := 4) (by rfl) sclaw.nd rfl rfl (by decide) rfl rfl (pa_cons (pe_c T._law_some_ratio G_law_some_ratio (hr.mono (by decide)) (pa_cons (pv 1) pa_nil)) (pa_cons (pe_c T._law_pick G_law_pick (hr.mono (by decide)) (pa_cons (pv 1) (pa_cons (pe_lst (pa_cons (pe_c T._law_some_ratio G_law_some_ratio (hr.mono (by decide)) (pa_cons (pv 1) pa_nil)) (pa_cons (pe_c T._law_q G_law_q (hr.mono (by decide)) (pa_cons (pe_c T._law_far G_law_far (hr.mono (by decide)) (pa_cons (pv 1) pa_nil)) (pa_cons pe_int pa_nil))) pa_nil))) pa_nil))) pa_nil)) (by rfl))
  (pss_cons (ps_set (i := 4) sclaw.nd rfl (Or.inl rfl) (pe_c T._law_pick G_law_pick (hr.mono (by decide)) (pa_cons (pv 1) (pa_cons (pe_lst (pa_cons (pv 4) (pa_cons (pv 4) (pa_cons (pv 3) (pa_cons (pe_tup (pa_cons (pe_un un_neg (pe_ix ix_tup (pv 3) pe_int (fun _ _ => rfl))) (pa_cons (pe_ix ix_tup (pv 3) pe_int (fun _ _ => rfl)) pa_nil))) pa_nil))))) pa_nil))))
  (pss_cons (ps_par (i := 5) (j := 6) (by rfl) sclaw.nd rfl rfl (by decide) rfl rfl (pa_cons (pe_c T._law_passed G_law_passed (hr.mono (by decide)) (pa_cons (pv 1) (pa_cons (pv 3) pa_nil))) (pa_cons (pe_c T._law_passed G_law_passed (hr.mono (by decide)) (pa_cons (pv 1) (pa_cons (pv 4) pa_nil))) pa_nil)) (by rfl))
  (pss_cons (ps_set (i := 7) sclaw.nd rfl (Or.inl rfl) (pe_callB (id := "repr") (call_show hq (hu64 hr)) (by rfl) T.repr (by decide +kernel) (pa_cons (pe_tup (pa_cons (pv 5) (pa_cons (pv 6) pa_nil))) pa_nil)))
  (pss_cons (ps_if (pt_cmpR op_ne (pe_callB (id := "repr") (call_show hq (hu64 hr)) (by rfl) T.repr (by decide +kernel) (pa_cons (pe_tup (pa_cons (pe_call Gtold (hr.mono (by decide)) (by rfl) T.told.g T.told.F.kp T.told.b .nil passL (pa_cons (pv 5) (pa_cons pe_str pa_nil))) (pa_cons (pe_call Gplus (hr.mono (by decide)) (by rfl) T.plus.g T.plus.F.kp T.plus.b .nil passL (pa_cons (pv 5) (pa_cons (pv 6) pa_nil))) pa_nil))) pa_nil)) (pe_callB (id := "repr") (call_show hq (hu64 hr)) (by rfl) T.repr (by decide +kernel) (pa_cons (pe_tup (pa_cons (pv 3) (pa_cons (pe_c T._law_plus G_law_plus (hr.mono (by decide)) (pa_cons (pv 3) (pa_cons (pv 4) pa_nil))) pa_nil))) pa_nil)) (nomark _)) (pss_one (ps_ret pe_bl)) pss_nil)
  (pss_cons (ps_if (pt_cmpR op_ne (pe_callB (id := "repr") (call_show hq (hu64 hr)) (by rfl) T.repr (by decide +kernel) (pa_cons (pe_tup (pa_cons (pe_call Gminus (hr.mono (by decide)) (by rfl) T.minus.g T.minus.F.kp T.minus.b .nil passL (pa_cons (pv 5) (pa_cons (pv 6) pa_nil))) (pa_cons (pe_call Gtimes (hr.mono (by decide)) (by rfl) T.times.g T.times.F.kp T.times.b .nil passL (pa_cons (pv 5) (pa_cons (pv 6) pa_nil))) pa_nil))) pa_nil)) (pe_callB (id := "repr") (call_show hq (hu64 hr)) (by rfl) T.repr (by decide +kernel) (pa_cons (pe_tup (pa_cons (pe_c T._law_minus G_law_minus (hr.mono (by decide)) (pa_cons (pv 3) (pa_cons (pv 4) pa_nil))) (pa_cons (pe_c T._law_times G_law_times (hr.mono (by decide)) (pa_cons (pv 3) (pa_cons (pv 4) pa_nil))) pa_nil))) pa_nil)) (nomark _)) (pss_one (ps_ret pe_bl)) pss_nil)
  (pss_cons (ps_if (PW.pt (pw_and (pt_cmpR op_ne (pe_ix ix_tup (pv 4) pe_int (fun _ _ => rfl)) pe_int (nomark _)) (pw_and1 (pt_cmpR op_ne (pe_callB (id := "repr") (call_show hq (hu64 hr)) (by rfl) T.repr (by decide +kernel) (pa_cons (pe_call Gshare (hr.mono (by decide)) (by rfl) T.share.g T.share.F.kp T.share.b .nil passL (pa_cons (pv 5) (pa_cons (pv 6) pa_nil))) pa_nil)) (pe_callB (id := "repr") (call_show hq (hu64 hr)) (by rfl) T.repr (by decide +kernel) (pa_cons (pe_c T._law_share G_law_share (hr.mono (by decide)) (pa_cons (pv 3) (pa_cons (pv 4) pa_nil))) pa_nil)) (nomark _))))) (pss_one (ps_ret pe_bl)) pss_nil)
  (pss_cons (ps_set (i := 8) sclaw.nd rfl (Or.inl rfl) (pe_call Gfloor_of (hr.mono (by decide)) (by rfl) T.floor_of.g T.floor_of.F.kp T.floor_of.b .nil passL (pa_cons (pv 6) pa_nil)))
  (pss_cons (ps_if (PW.pt (pw_or (pt_not (pt_val (pe_c T._law_is_whole G_law_is_whole (hr.mono (by decide)) (pa_cons (pv 8) pa_nil)))) (pw_or1 (pt_not (pt_chain op_le op_lt (pe_op op_mulW (pv 8) (pe_ix ix_tup (pv 4) pe_int (fun _ _ => rfl))) (pe_ix ix_tup (pv 4) pe_int (fun _ _ => rfl)) (pe_op op_mulW (pe_op op_add (pv 8) pe_int) (pe_ix ix_tup (pv 4) pe_int (fun _ _ => rfl)))))))) (pss_one (ps_ret pe_bl)) pss_nil)
  (pss_cons (ps_if (pt_cmpR op_ne (pe_call Gratio_text (hr.mono (by decide)) (by rfl) T.ratio_text.g T.ratio_text.F.kp T.ratio_text.b .nil passL (pa_cons (pv 6) pa_nil)) (pe_op op_add_str (pe_callTy call_str_int (by rfl) T.str (by decide +kernel) (pa_cons (pe_ix ix_tup (pv 4) pe_int (fun _ _ => rfl)) pa_nil)) (pe_ifExp (pt_cmpR op_eq (pe_ix ix_tup (pv 4) pe_int (fun _ _ => rfl)) pe_int (nomark _)) pe_str (pe_op op_add_str pe_str (pe_callTy call_str_int (by rfl) T.str (by decide +kernel) (pa_cons (pe_ix ix_tup (pv 4) pe_int (fun _ _ => rfl)) pa_nil))))) (nomark _)) (pss_one (ps_ret pe_bl)) pss_nil)
  (pss_cons (ps_if (PW.pt (pw_or (pt_not (pt_val (pe_c T._law_is G_law_is (hr.mono (by decide)) (pa_cons (pe_call Glower (hr.mono (by decide)) (by rfl) T.lower.g T.lower.F.kp T.lower.b .nil passL (pa_cons (pv 5) (pa_cons (pv 6) pa_nil))) (pa_cons (pe_c T._law_less G_law_less (hr.mono (by decide)) (pa_cons (pv 3) (pa_cons (pv 4) pa_nil))) pa_nil))))) (pw_or (pt_not (pt_val (pe_c T._law_is G_law_is (hr.mono (by decide)) (pa_cons (pe_c T.is_ratio Gis_ratio (hr.mono (by decide)) (pa_cons (pv 5) pa_nil)) (pa_cons pe_bl pa_nil))))) (pw_or1 (pt_cmpR op_ne (pe_callB (id := "repr") (call_show hq (hu64 hr)) (by rfl) T.repr (by decide +kernel) (pa_cons (pe_tup (pa_cons (pv 5) (pa_cons (pv 6) pa_nil))) pa_nil)) (pv 7) (nomark _)))))) (pss_one (ps_ret pe_bl)) pss_nil)
  (pss_one (ps_if (pt_not (pt_val (pe_cG T._law_refused_right G_law_refused_right (hr.mono (by decide)) hq (pa_cons (pv 1) (pa_cons (pv 5) pa_nil))))) (pss_one (ps_ret pe_bl)) pss_nil))))))))))))))
  (pss_one (ps_ret pe_bl)))), ?_⟩
  refine q_asg (c_call (va_cons (val_var rfl) va_nil) ⟨a, ns, rfl, hS, hn, fun p c H0 s0 P0 => ?_⟩)
  have T0 := Tabs.same hT s0
  refine q_forR1 (n := 6) (va_cons val_c va_nil) (by decide) (fun n σ H => (∃ z2 z3 z4 z5 z6 z7 z8, σ = [some (.ref a), some (.ref p), z2, z3, z4, z5, z6, z7, z8]) ∧ PenAt H p c (60 * n) ∧ LamX.Tabs (TTab cP) H) ⟨⟨_, _, _, _, _, _, _, rfl⟩, P0, T0⟩ (fun n σ H hn z => ?_) (fun σ H z => ?_)
  case refine_2 => exact st_ret val_c (k H)
  obtain ⟨⟨z2, z3, z4, z5, z6, z7, z8, rfl⟩, P1, T1⟩ := z
  clear P0 T0 s0 hT hS
  have hm : 60 * n + 60 < most := by
    have : most = 1000000000 := rfl
    omega
  refine g_name (q_par (ta_two ?_))
  refine c_call (va_cons (val_var rfl) va_nil) ⟨p, c, 60 * n, rfl, P1, by omega, fun one H1 x1 y1 L1 b1 P2 => ?_⟩
  have T2 := Tabs.but T1 P1 b1
  refine call_1 ((val_var rfl) _ (va_1 (l_two ?_)))
  refine c_call (va_cons (val_var rfl) va_nil) ⟨p, c, _, rfl, P2, by omega, fun u2 H2 x2 y2 L2 b2 P3 => ?_⟩
  have T3 := Tabs.but T2 P2 b2
  have L1 := L1.but P2 b2
  refine call_1 ?_
  refine c_call (va_cons (val_var rfl) va_nil) ⟨p, c, _, rfl, P3, by omega, fun nf H3 n0 n1 b3 P4 => va_1 (val_c _ ?_)⟩
  have T4 := Tabs.but T3 P3 b3
  have L1 := L1.but P3 b3
  have L2 := L2.but P3 b3
  have nfb : nf.natAbs ≤ 10 ^ 18 := by unfold big at *; omega
  have wd1 : ∀ {z : Int}, z.natAbs ≤ 10 ^ 18 → z.natAbs < 2 ^ wd := fun h => Nat.lt_of_le_of_lt h (by decide +kernel)
  refine ⟨nf, 2, rfl, wd1 nfb, wd1 (by decide), .inl ⟨by decide, fun w2 H4 s4 e4 => ⟨by show 2 ≤ sizeLine; decide, fun q2 hq2 => ?_⟩⟩⟩
  have lp := low_pos nf (show (0 : Int) < 2 by decide)
  have L3 : Low H4 w2 (nf / gI nf 2) (2 / gI nf 2) := ⟨e4, lp.1, low_one nf (by decide), Nat.le_trans (low_abs nf) nfb, by omega⟩
  have s5 := s4.trans (Same.new' (o := .lst [.ref u2, .ref w2]) hq2)
  have P5 := P4.same s5
  have T5 := Tabs.same T4 s5
  have L1 := L1.same s5
  have L2 := L2.same s5
  have L3 := L3.same (Same.new' (o := .lst [.ref u2, .ref w2]) hq2)
  refine ⟨p, c, q2, _, _, rfl, P5, by omega, SqL.of upd_same, by show 0 < 2; decide, by show 2 < 1000000000; decide, fun v3 H6 hv b6 P6 => ⟨_, _, rfl, ?_⟩⟩
  have T6 := Tabs.but T5 P5 b6
  have L1 := L1.but P5 b6
  obtain ⟨r3, x3, y3, rfl, M3⟩ : ∃ r x y, v3 = .ref r ∧ Low H6 r x y := by
    rcases List.mem_cons.mp hv with e | hv
    · exact ⟨_, _, _, e, L2.but P5 b6⟩
    · rcases List.mem_cons.mp hv with e | hv
      · exact ⟨_, _, _, e, L3.but P5 b6⟩
      · cases hv
  clear L2 L3 s5 s4 e4 lp b3 b2 b1
  -- the second ratio
  refine q_asg (call_1 ((val_var rfl) _ (va_1 (l_four ((val_var rfl) _ ((val_var rfl) _ ((val_var rfl) _ (l_tup (va_cons (v_neg (v_ixT (n := 0) (val_var rfl) val_c (SqT.of L1.1) rfl)) (va_cons (v_ixT (n := 1) (val_var rfl) val_c (SqT.of L1.1) rfl) va_nil)) (by show 2 ≤ 100000; decide) fun r4 hr4 => ⟨by show 4 ≤ sizeLine; decide, fun q4 hq4 => ?_⟩))))))))
  have s7a := Same.new' (o := .tup [.int (-x1), .int y1]) hr4
  have s7b := Same.new' (o := .lst [.ref r3, .ref r3, .ref one, .ref r4]) hq4
  have L4 : Low _ r4 (-x1) y1 := L1.neg (s7b _ _ upd_same)
  have s7 := s7a.trans s7b
  have P7 := P6.same s7
  have T7 := Tabs.same T6 s7
  have L1 := L1.same s7
  have M3 := M3.same s7
  refine ⟨p, c, q4, _, _, rfl, P7, by omega, SqL.of upd_same, by show 0 < 4; decide, by show 4 < 1000000000; decide, fun v4 H8 hv b8 P8 => ?_⟩
  have T8 := Tabs.but T7 P7 b8
  obtain ⟨two, x2, y2, rfl, L2⟩ : ∃ r x y, v4 = .ref r ∧ Low H8 r x y := by
    have hv' := hv
    simp only [List.mem_cons, List.not_mem_nil, or_false] at hv'
    rcases hv' with e | e | e | e
    · exact ⟨_, _, _, e, M3.but P7 b8⟩
    · exact ⟨_, _, _, e, M3.but P7 b8⟩
    · exact ⟨_, _, _, e, L1.but P7 b8⟩
    · exact ⟨_, _, _, e, L4.but P7 b8⟩
  have L1 := L1.but P7 b8
  clear M3 L4 s7 s7a s7b
  -- as passed
  refine q_par (ta_two ?_)
  refine c_call (va_cons (val_var rfl) (va_cons (val_var rfl) va_nil)) ⟨p, c, one, _, x1, y1, rfl, P8, by omega, L1, fun va H9 sa sa0 sa3 Ra b9 P9 => ?_⟩
  have T9 := Tabs.but T8 P8 b9
  have L1 := L1.but P8 b9
  have L2 := L2.but P8 b9
  refine c_call (va_cons (val_var rfl) (va_cons (val_var rfl) va_nil)) ⟨p, c, two, _, x2, y2, rfl, P9, by omega, L2, fun vb HA sb sb0 sb3 Rb bA PA => ⟨_, _, rfl, ?_⟩⟩
  have TA := Tabs.but T9 P9 bA
  have L1 := L1.but P9 bA
  have L2 := L2.but P9 bA
  have Ra := Ra.but P9 bA
  have PZ : PenAt HA p c (60 * n + 57) := PA.le (by omega)
  clear bA b9 b8 T9 T8 T7 T6 T5 T4 T3 T2 T1 P1 P2 P3 P4 P5 P6 P7 P8 P9 PA
  have st := Int.mul_pos sa0 sb0
  have y1a : y1.natAbs ≤ 10 ^ 18 := by have := L1.2.1; have := L1.2.2.2.2; omega
  have y2a : y2.natAbs ≤ 10 ^ 18 := by have := L2.2.1; have := L2.2.2.2.2; omega
  have x1a := L1.2.2.2.1
  have x2a := L2.2.2.2.1
  have y10 := L1.2.1
  have y20 := L2.2.1
  have fA3 : Fit (x1 * sa) (y1 * sa) := fit3 x1a y1a sa0 sa3
  have fB3 : Fit (x2 * sb) (y2 * sb) := fit3 x2a y2a sb0 sb3
  have f1 := L1.fit
  have f2 := L2.fit
  have eA := one_low sa0 L1.2.2.1
  have eB := one_low sb0 L2.2.2.1
  have m3 : ∀ {x s : Int}, x.natAbs ≤ 10 ^ 18 → 0 < s → s ≤ 3 → (x * s).natAbs ≤ 10 ^ 38 := fun h s0 s3 => Nat.le_trans (abs_mul h (show (_ : Int).natAbs ≤ 3 by omega)) (by decide)
  obtain ⟨da, hda, na⟩ := Rt.nice (K := K) Ra (m3 x1a sa0 sa3) (m3 y1a sa0 sa3)
  obtain ⟨db, hdb, nb⟩ := Rt.nice (K := K) Rb (m3 x2a sb0 sb3) (m3 y2a sb0 sb3)
  have n1 : Nice (pr x1 y1) := pr_nice (Nat.le_trans x1a (by decide)) (Nat.le_trans y1a (by decide))
  have yy : (y1 * y2).natAbs ≤ 10 ^ 38 := Nat.le_trans (abs_mul y1a y2a) (by decide)
  have yy0 : 0 < y1 * y2 := Int.mul_pos y10 y20
  have tt : 2 ≤ sizeLine := by decide
  -- kept
  refine q_asg (cb_one (l_tup (va_cons (val_var rfl) (va_cons (val_var rfl) va_nil)) (by show 2 ≤ 100000; decide) fun q5 hq5 => ?_))
  have u1 : Same HA (upd HA q5 (.tup [va, vb])) := Same.new' hq5
  refine show_two upd_same (Dd.same u1 _ _ hda) (Dd.same u1 _ _ hdb) na nb ?_
  revert u1
  generalize upd HA q5 (.tup [va, vb]) = HB
  intro u1
  -- told, plus
  refine t_unless (op_in (cb_one (tup_two ?_)))
  refine c_call (va_cons (val_var rfl) (va_cons val_c va_nil)) ⟨va, _, rfl, .inl ⟨_, _, Ra.same u1, fA3, fun t1 H1 s1 e1 => ?_⟩⟩
  rw [eA.1, eA.2] at e1
  have u2 := u1.trans s1
  refine c_call (va_cons (val_var rfl) (va_cons (val_var rfl) va_nil)) ⟨va, vb, rfl, .inl ⟨_, _, _, _, Ra.same u2, Rb.same u2, fA3, fB3, fun t2 H2 s2 e2 => ⟨tt, fun q6 hq6 => ?_⟩⟩⟩
  rw [(sum_low x1 y1 x2 y2 sa sb st).1, (sum_low x1 y1 x2 y2 sa sb st).2] at e2
  have u6 := Same.new' (o := .tup [.ref t1, .ref t2]) hq6
  have nS : Nice (pr ((x1 * y2 + x2 * y1) / gI (x1 * y2 + x2 * y1) (y1 * y2)) ((y1 * y2) / gI (x1 * y2 + x2 * y1) (y1 * y2))) := pr_nice (low2_abs (a := 10 ^ 18 * 10 ^ 18 + 10 ^ 18 * 10 ^ 18) (Nat.le_trans (Int.natAbs_add_le _ _) (Nat.add_le_add (abs_mul x1a y2a) (abs_mul x2a y1a))) (by decide)) (low2_pos yy0 yy)
  refine show_two upd_same (dd_pr (u6 _ _ (s2 _ _ e1))) (dd_pr (u6 _ _ e2)) n1 nS ?_
  have u2 := (u2.trans s2).trans u6
  revert u2
  generalize upd H2 q6 (.tup [.ref t1, .ref t2]) = HC
  intro u2
  clear e1 e2 u6 s1 s2 hq6
  refine cb_one (tup_two ((val_var rfl) _ ?_))
  refine c_call (va_cons (val_var rfl) (va_cons (val_var rfl) va_nil)) ⟨one, two, x1, y1, x2, y2, rfl, (L1.same u2).1, (L2.same u2).1, f1, f2, y10, y20, fun t3 H3 s3 e3 => ⟨tt, fun q7 hq7 => ?_⟩⟩
  have u7 := Same.new' (o := .tup [.ref one, .ref t3]) hq7
  refine show_two upd_same (dd_pr (u7 _ _ (s3 _ _ (L1.same u2).1))) (dd_pr (u7 _ _ e3)) n1 nS (ne_same ⟨false, rfl, iteF ?_⟩)
  have u2 := (u2.trans s3).trans u7
  revert u2
  generalize upd H3 q7 (.tup [.ref one, .ref t3]) = HD
  intro u2
  clear e3 u7 s3 hq7 nS u1
  -- minus, times
  refine t_unless (op_in (cb_one (tup_two ?_)))
  refine c_call (va_cons (val_var rfl) (va_cons (val_var rfl) va_nil)) ⟨va, vb, rfl, .inl ⟨_, _, _, _, Ra.same u2, Rb.same u2, fA3, fB3, fun t1 H1 s1 e1 => ?_⟩⟩
  rw [(dif_low x1 y1 x2 y2 sa sb st).1, (dif_low x1 y1 x2 y2 sa sb st).2] at e1
  have u2 := u2.trans s1
  refine c_call (va_cons (val_var rfl) (va_cons (val_var rfl) va_nil)) ⟨va, vb, rfl, .inl ⟨_, _, _, _, Ra.same u2, Rb.same u2, fA3, fB3, fun t2 H2 s2 e2 => ⟨tt, fun q6 hq6 => ?_⟩⟩⟩
  rw [(mul_low x1 y1 x2 y2 sa sb st).1, (mul_low x1 y1 x2 y2 sa sb st).2] at e2
  have u6 := Same.new' (o := .tup [.ref t1, .ref t2]) hq6
  have nD : Nice (pr ((x1 * y2 - x2 * y1) / gI (x1 * y2 - x2 * y1) (y1 * y2)) ((y1 * y2) / gI (x1 * y2 - x2 * y1) (y1 * y2))) := pr_nice (low2_abs (a := 10 ^ 18 * 10 ^ 18 + 10 ^ 18 * 10 ^ 18) (Nat.le_trans (Int.natAbs_sub_le _ _) (Nat.add_le_add (abs_mul x1a y2a) (abs_mul x2a y1a))) (by decide)) (low2_pos yy0 yy)
  have nM : Nice (pr ((x1 * x2) / gI (x1 * x2) (y1 * y2)) ((y1 * y2) / gI (x1 * x2) (y1 * y2))) := pr_nice (low2_abs (abs_mul x1a x2a) (by decide)) (low2_pos yy0 yy)
  refine show_two upd_same (dd_pr (u6 _ _ (s2 _ _ e1))) (dd_pr (u6 _ _ e2)) nD nM ?_
  have u2 := (u2.trans s2).trans u6
  revert u2
  generalize upd H2 q6 (.tup [.ref t1, .ref t2]) = HE
  intro u2
  clear e1 e2 u6 s1 s2 hq6
  refine cb_one (tup_two ?_)
  refine c_call (va_cons (val_var rfl) (va_cons (val_var rfl) va_nil)) ⟨one, two, x1, y1, x2, y2, rfl, (L1.same u2).1, (L2.same u2).1, f1, f2, y10, y20, fun t4 H4 s4 e4 => ?_⟩
  have u2 := u2.trans s4
  refine c_call (va_cons (val_var rfl) (va_cons (val_var rfl) va_nil)) ⟨one, two, x1, y1, x2, y2, rfl, (L1.same u2).1, (L2.same u2).1, f1, f2, y10, y20, fun t3 H3 s3 e3 => ⟨tt, fun q7 hq7 => ?_⟩⟩
  have u7 := Same.new' (o := .tup [.ref t4, .ref t3]) hq7
  refine show_two upd_same (dd_pr (u7 _ _ (s3 _ _ e4))) (dd_pr (u7 _ _ e3)) nD nM (ne_same ⟨false, rfl, iteF ?_⟩)
  have u2 := (u2.trans s3).trans u7
  revert u2
  generalize upd H3 q7 (.tup [.ref t4, .ref t3]) = HF
  intro u2
  clear e3 e4 u7 s3 s4 hq7 nD nM
  -- share
  refine q_ifAndK (I := fun H1 => Same HA H1) (fun H1 u2 => ?_) (fun rest => ?_)
  case refine_2 =>
    by_cases hx2 : x2 = 0
    · refine (ans_ne (x := .int x2) (y := .int 0) (b := false) (v_ixT (n := 0) (val_var rfl) val_c (SqT.of (L2.same u2).1) rfl) val_c rfl (by rw [hx2]; rfl)) _ (iteF (iteF (rest _ u2)))
    refine (ans_ne (x := .int x2) (y := .int 0) (b := true) (v_ixT (n := 0) (val_var rfl) val_c (SqT.of (L2.same u2).1) rfl) val_c rfl (by simp [hx2])) _ (iteT ?_)
    have yx : (y1 * x2).natAbs ≤ 10 ^ 38 := Nat.le_trans (abs_mul y1a x2a) (by decide)
    refine tt_in (op_in (cb_one ?_))
    have k0 : x2 * sb ≠ 0 := by
      intro z
      rcases Int.mul_eq_zero.mp z with z | z
      · exact hx2 z
      · omega
    rcases Int.lt_or_lt_of_ne hx2 with hn0 | hp0
    · have kn : x2 * sb < 0 := Int.mul_neg_of_neg_of_pos hn0 sb0
      refine c_call (va_cons (val_var rfl) (va_cons (val_var rfl) va_nil)) ⟨va, vb, rfl, .inl ⟨_, _, _, _, Ra.same u2, Rb.same u2, fA3, fB3, k0, fun z => absurd z (by omega), fun _ t2 H2 s2 e2 => ?_⟩⟩
      rw [(neg_low x1 y1 x2 y2 sa sb st).1, (neg_low x1 y1 x2 y2 sa sb st).2] at e2
      have yn0 : 0 < -(y1 * x2) := by have := Int.mul_neg_of_pos_of_neg y10 hn0; omega
      have nQ : Nice (pr (-(x1 * y2) / gI (-(x1 * y2)) (-(y1 * x2))) (-(y1 * x2) / gI (-(x1 * y2)) (-(y1 * x2)))) := pr_nice (low2_abs (i := -(x1 * y2)) (by rw [Int.natAbs_neg]; exact abs_mul x1a y2a) (by decide)) (low2_pos yn0 (by rw [Int.natAbs_neg]; exact yx))
      refine show_one (dd_pr e2) nQ (cb_one ?_)
      have u2 := u2.trans s2
      refine c_call (va_cons (val_var rfl) (va_cons (val_var rfl) va_nil)) ⟨one, two, x1, y1, x2, y2, rfl, (L1.same u2).1, (L2.same u2).1, f1, f2, y10, y20, hx2, fun z => absurd z (by omega), fun _ t4 H4 s4 e4 => ?_⟩
      exact show_one (dd_pr e4) nQ (ne_same ⟨false, rfl, iteF (rest _ (u2.trans s4))⟩)
    · have kp : 0 < x2 * sb := Int.mul_pos hp0 sb0
      refine c_call (va_cons (val_var rfl) (va_cons (val_var rfl) va_nil)) ⟨va, vb, rfl, .inl ⟨_, _, _, _, Ra.same u2, Rb.same u2, fA3, fB3, k0, fun _ t2 H2 s2 e2 => ?_, fun z => absurd z (by omega)⟩⟩
      rw [(mul_low x1 y1 y2 x2 sa sb st).1, (mul_low x1 y1 y2 x2 sa sb st).2] at e2
      have nQ : Nice (pr ((x1 * y2) / gI (x1 * y2) (y1 * x2)) ((y1 * x2) / gI (x1 * y2) (y1 * x2))) := pr_nice (low2_abs (abs_mul x1a y2a) (by decide)) (low2_pos (Int.mul_pos y10 hp0) yx)
      refine show_one (dd_pr e2) nQ (cb_one ?_)
      have u2 := u2.trans s2
      refine c_call (va_cons (val_var rfl) (va_cons (val_var rfl) va_nil)) ⟨one, two, x1, y1, x2, y2, rfl, (L1.same u2).1, (L2.same u2).1, f1, f2, y10, y20, hx2, fun _ t4 H4 s4 e4 => ?_, fun z => absurd z (by omega)⟩
      exact show_one (dd_pr e4) nQ (ne_same ⟨false, rfl, iteF (rest _ (u2.trans s4))⟩)
  -- floor_of
  refine q_asg (c_call (va_cons (val_var rfl) va_nil) ⟨vb, rfl, .inl ⟨_, _, Rb.same u2, fB3, fun H2 s2 => ?_⟩⟩)
  rw [Int.mul_ediv_mul_of_pos_left _ _ sb0]
  have u2 := u2.trans s2
  clear s2
  have w1 : x2 / y2 * y2 ≤ x2 := Int.ediv_mul_le _ (by omega)
  have w2 : x2 < (x2 / y2 + 1) * y2 := Int.lt_ediv_add_one_mul_self _ y20
  have wf : (x2 / y2).natAbs < 2 ^ 1000 := fit_of (Nat.le_trans (Int.natAbs_ediv_le_natAbs _ _) (Nat.le_trans x2a (by decide)))
  have wg : (x2 / y2 + 1).natAbs < 2 ^ 1000 := fit_of (by
    have := Int.natAbs_ediv_le_natAbs x2 y2
    have h19 : (10 : Nat) ^ 18 + 1 ≤ 10 ^ 37 := by decide
    omega)
  refine q_ifOrNot (tb_in (c_call (va_cons (val_var rfl) va_nil) ⟨_, "int", rfl, .int _, true, by rw [decide_eq_true rfl], iteF ?_⟩))
  refine chain_in ((v_mul (val_var rfl) (v_ixT (n := 1) (val_var rfl) val_c (SqT.of (L2.same u2).1) rfl) (fit_mul wf f2.2)) _ ((v_ixT (n := 0) (val_var rfl) val_c (SqT.of (L2.same u2).1) rfl) _ ⟨_, _, rfl, rfl, true, congrArg V.bl (decide_eq_true w1), iteT ?_⟩))
  refine (v_mul (v_add (val_var rfl) val_c) (v_ixT (n := 1) (val_var rfl) val_c (SqT.of (L2.same u2).1) rfl) (fit_mul wg f2.2)) _ ⟨_, _, rfl, rfl, true, congrArg V.bl (decide_eq_true w2), iteF ?_⟩
  -- ratio_text
  have e64 : (x2 * sb / gI (x2 * sb) (y2 * sb)).natAbs < 10 ^ 64 ∧ y2 * sb / gI (x2 * sb) (y2 * sb) < 10 ^ 64 := by
    rw [eB.1, eB.2]
    have h18 : (10 : Nat) ^ 18 < 10 ^ 64 := by decide
    have h18' : (10 : Int) ^ 18 < 10 ^ 64 := by decide
    have := L2.2.2.2.2
    omega
  refine t_unless (op_in (c_call (va_cons (val_var rfl) va_nil) ⟨vb, rfl, .inl ⟨_, _, Rb.same u2, fB3, e64.1, e64.2, fun H3 s3 => ?_⟩⟩))
  rw [eB.1, eB.2]
  have u2 := u2.trans s3
  clear s3
  have lx : x2.natAbs.log2 < 1920 := int_log (Nat.le_trans x2a (by decide))
  have ly : y2.natAbs.log2 < 1920 := int_log (Nat.le_trans y2a (by decide))
  have sx : (Str.ofString (toString x2)).length ≤ 60 := int_short (Nat.le_trans x2a (by decide))
  have sy : (Str.ofString (toString y2)).length ≤ 60 := int_short (Nat.le_trans y2a (by decide))
  have hy1 := v_ixT (σ := [some (.ref a), some (.ref p), some (.int (n : Int)), some (.ref one), some (.ref two), some va, some vb, some (.str (PyData.tuple [da, db]).shown), some (.int (x2 / y2))]) (K := K) (n := 1) (te := tVar 4) (tb := tC (.int 1)) (val_var rfl) val_c (SqT.of (L2.same u2).1) rfl
  have hx1 := v_ixT (σ := [some (.ref a), some (.ref p), some (.int (n : Int)), some (.ref one), some (.ref two), some va, some vb, some (.str (PyData.tuple [da, db]).shown), some (.int (x2 / y2))]) (K := K) (n := 0) (te := tVar 4) (tb := tC (.int 0)) (val_var rfl) val_c (SqT.of (L2.same u2).1) rfl
  refine (v_cats (a := Str.ofString (toString x2)) (b := if y2 = 1 then ("" : Str) else ("/" : Str) ++ Str.ofString (toString y2)) (v_str hx1 lx) (v_tif2 (b := decide (y2 = 1)) (x := .str "") (y := .str (("/" : Str) ++ Str.ofString (toString y2))) (ans_eq (x := .int y2) (y := .int 1) hy1 val_c rfl (by simp)) (fun _ => val_c) (fun _ => v_cats val_c (v_str hy1 ly) ?_) (by by_cases e : y2 = 1 <;> simp [e])) ?_) _ ?_
  · have l1 : ("/" : Str).length = 1 := by decide +kernel
    omega
  · have l1 : ("/" : Str).length = 1 := by decide +kernel
    have l0 : ("" : Str).length = 0 := by decide +kernel
    have l2 : (if y2 = 1 then ("" : Str) else ("/" : Str) ++ Str.ofString (toString y2)).length ≤ 61 := by
      split
      · omega
      · rw [Str.length_append]
        omega
    omega
  clear hx1 hy1
  refine ne_same ⟨false, rfl, iteF ?_⟩
  -- lower, is_ratio, kept
  have lw : decide (x1 * sa * (y2 * sb) < x2 * sb * (y1 * sa)) = decide (x1 * y2 < x2 * y1) := by
    have g1 : x1 * sa * (y2 * sb) = x1 * y2 * (sa * sb) := by grind
    have g2 : x2 * sb * (y1 * sa) = x2 * y1 * (sa * sb) := by grind
    rw [g1, g2]
    exact decide_eq_decide.mpr (Int.mul_lt_mul_right st)
  refine q_ifOrNot (tb_in (call_1 (c_call (va_cons (val_var rfl) (va_cons (val_var rfl) va_nil)) ⟨va, vb, rfl, .inl ⟨_, _, _, _, Ra.same u2, Rb.same u2, fA3, fB3, fun H4 s4 => va_1 ?_⟩⟩)))
  have u2 := u2.trans s4
  clear s4
  refine c_call (va_cons (val_var rfl) (va_cons (val_var rfl) va_nil)) ⟨one, two, x1, y1, x2, y2, rfl, (L1.same u2).1, (L2.same u2).1, f1, f2, y10, y20, ?_⟩
  refine ⟨_, _, rfl, true, by rw [lw, decide_eq_true rfl], iteF (or_in ?_)⟩
  refine tb_in (call_1 (c_call (va_cons (val_var rfl) va_nil) ⟨va, true, rfl, (Ra.same u2).yes, fun H5 s5 => va_1 (val_c _ ⟨true, true, rfl, true, by rw [decide_eq_true rfl], iteF (tt_in (op_in (cb_one (l_tup (va_cons (val_var rfl) (va_cons (val_var rfl) va_nil)) (by show 2 ≤ 100000; decide) fun q8 hq8 => ?_))))⟩)⟩))
  have u2 := u2.trans s5
  have u8 := u2.trans (Same.new' (o := .tup [va, vb]) hq8)
  refine show_two upd_same (Dd.same u8 _ _ hda) (Dd.same u8 _ _ hdb) na nb ((val_var rfl) _ (ne_same ⟨false, rfl, iteF ?_⟩))
  revert u8
  generalize upd H5 q8 (.tup [va, vb]) = HG
  intro u8
  refine t_unlessN1 (c_call (va_cons (val_var rfl) (va_cons (val_var rfl) va_nil)) ⟨p, c, _, va, _, _, rfl, PZ.same u8, by omega, Ra.same u8, fA3, Tabs.same TA u8, fun H6 P6 T6 => ⟨true, rfl, iteF ⟨⟨_, _, _, _, _, _, _, rfl⟩, P6.le (by omega), T6⟩⟩⟩)
end
end LW

/-! The law's end where one def of the text makes lambdas, and nothing is being shown. -/
namespace GL
open PySem PySem.Spec PyProof.Rows L2
section
variable {P : Program} {w : World} {K : PySem.W.Frag} {mg mb : Str → Option Value} {k : Nat} {fa a cC cP : Addr} {fd : FuncData} {x : Str} {sp : Sp} {s₁ : Shared} {vs : List Value} {ns : List Int}
/-- from one abstract heap that knows the table, and the script at most -/
theorem law_fromT (KX : K.In s₁.heap) (hns : s₁.heap.Ns mainGlobals mg) (hb : s₁.heap.Ns builtinsNs mb) (hbb : ∀ x : Str, x ≠ "__name__" → mb x = bootBuiltins x) (hlim : s₁.heap.NoLimit) (hg : s₁.gens = #[])
    (hTab : s₁.heap.get? cP = some { cls := .none, data := .fields #[] }) (nTab : K.lookup cP = none) (hCd : PySem.W.codeHdIn K cC cP = true)
    (hbm : ∃ (bm : Addr) (ob : Obj), mg "__builtins__" = some (.ref bm) ∧ bm ≠ builtinsNs ∧ s₁.heap.get? bm = some ob ∧ ob.cls = .type "module" ∧ ob.dict = some builtinsNs ∧ ob.data = .plain)
    (ha : s₁.heap.get? a = some { cls := .type "list", data := .seq vs.toArray }) (hr : Room k callerA)
    (F : ∀ base : Heap, K.In base → base.Ns mainGlobals mg → LamX.TabB base mg cC cP → OkG P w K mg base CX0 k fa fd [x] sp) (hbind : ∀ (s : Shared) (u : Value), BindsTo s fd ⟨[u], []⟩ [(x, u)])
    {H : Hp} (hH : H cP = some (.tbl #[])) (hO : ∀ b, b ≠ cP → H b = none ∨ ∃ o xs, H b = some (.frz o (.lst xs))) (hsp : sp [.ref a] H (fun v _ => v = .bl true) fun _ _ _ => False) (hok : HOk P w H s₁.heap) (hA : ∀ b, b ≠ cP → H b ≠ none → b = a)
    (hK : H a ≠ none → K.lookup a = none) : Law P w fa a s₁ := by
  have free : ∀ {b : Addr} {o : Obj}, s₁.heap.get? b = some o → (∀ xs m, o.data ≠ .seq xs m) → o.data ≠ .fields #[] → H b = none := fun {b o} e d1 d2 => by
    by_cases q : b = cP
    · rw [q, hTab] at e
      cases e
      exact (d2 rfl).elim
    · refine Decidable.byContradiction fun z => ?_
      have q2 := hA b q z
      rw [q2, ha] at e
      cases e
      exact d1 _ _ rfl
  have kFree : ∀ {b : Addr} {o : Obj}, K.lookup b = some o → H b = none := fun {b o} e => Decidable.byContradiction fun z => by
    by_cases q : b = cP
    · rw [q, nTab] at e
      cases e
    · have q2 := hA b q z
      subst q2
      rw [hK z] at e
      cases e
  have dict : ∀ {b : Addr} {o : Obj} {es : Array DictEntry} {ep : Nat}, s₁.heap.get? b = some o → o.data = .dict es ep → H b = none := fun {b o es ep} e d =>
    free e (fun xs m z => by rw [d] at z; cases z) (fun z => by rw [d] at z; cases z)
  have names : ∀ {b : Addr} {m : Str → Option Value}, s₁.heap.Ns b m → (hidT s₁.heap H).Ns b m := fun {b m} z => by
    obtain ⟨o, es, ep, e, d, r⟩ := z
    exact ⟨o, es, ep, hidT_get e (dict e d), d, r⟩
  have kIn' : K.In (hidT s₁.heap H) := fun b o e => hidT_get (KX b o e) (kFree e)
  have gP : mainGlobals ≠ cP := fun z => by
    obtain ⟨o, es, ep, e, d, _⟩ := hns
    rw [z, hTab] at e
    cases e
    cases d
  have TB : LamX.TabB (hidT s₁.heap H) mg cC cP := by
    refine ⟨PySem.W.codeHd_of_K kIn' hCd, ?_, gP⟩
    obtain ⟨bm, ob, q1, q2, q3, q4, q5, q6⟩ := hbm
    have nG : bm ≠ mainGlobals := fun z => by
      obtain ⟨o, es, ep, e, d, _⟩ := hns
      rw [z, e] at q3
      cases q3
      rw [d] at q6
      cases q6
    have nP : bm ≠ cP := fun z => by
      rw [z, hTab] at q3
      cases q3
      cases q6
    exact ⟨bm, ob, q1, q2, nG, nP, hidT_get q3 (free q3 (fun xs m z => by rw [q6] at z; cases z) (fun z => by rw [q6] at z; cases z)), q4, q5, q6⟩
  obtain ⟨mc, l1, l2⟩ := hlim
  have e0 : Env0 P w K mg (hidT s₁.heap H) callerA [] s₁ H := ⟨rfl, ⟨kIn', names hns, ⟨mb, names hb, hbb⟩, ⟨mc, names l1, l2⟩⟩, fun b o e => of_hidT e, Nat.le_of_eq (hidT_size _ _), trivial, (fun b z => nomatch z), hok, .of_eq hg⟩
  have run := (F _ kIn' (names hns) TB).run callerA [] s₁ H ⟨[.ref a], []⟩ [.ref a] [.ref a] _ _ hr rfl e0 (hbind s₁ (.ref a)) (.cons rfl .nil) hsp
  refine codeAny_mono run fun r s' z => ?_
  cases r with
  | error e => exact z.elim
  | ok fl => cases fl with
    | next => exact z.elim
    | brk => exact z.elim
    | cont => exact z.elim
    | ret u =>
      obtain ⟨v, H', os, bare, un, hok', rv, ev⟩ := z
      have ev' : v = .bl true := ev
      subst ev'
      cases (show u = Value.bool true from rv)
      have stay : ∀ b o, b ≠ cP → s₁.heap.get? b = some o → s'.heap.get? b = some o := fun b o n e => by
        rcases hO b n with q | ⟨ob, xs, q⟩
        · exact un.keep b o e q (fun z => nomatch z) (fun z => nomatch z)
        · obtain ⟨e1, _⟩ := hok b _ q
          obtain ⟨e2, _⟩ := hok' b _ (un.frzs b ob _ q)
          rw [e] at e1
          cases e1
          exact e2
      obtain ⟨more, hm⟩ := un.tbls cP #[] hH
      have now := hok' cP _ hm
      refine ⟨rfl, ⟨fun b o e => ?_, fun b o e => ?_⟩, os, bare⟩
      · by_cases n : b = cP
        · subst n
          rw [hTab] at e
          cases e
          exact .inr (.inl ⟨((PySem.W.codeHd_of_K KX hCd).tab hTab).isCodeTable, rfl, #[], more, rfl, now⟩)
        · exact .inl (stay b o n e)
      · by_cases n : b = cP
        · subst n
          exact ⟨_, now⟩
        · exact ⟨o, stay b o n e⟩
theorem law_callGT (KX : K.In s₁.heap) (hns : s₁.heap.Ns mainGlobals mg) (hb : s₁.heap.Ns builtinsNs mb) (hbb : ∀ x : Str, x ≠ "__name__" → mb x = bootBuiltins x) (hlim : s₁.heap.NoLimit) (hg : s₁.gens = #[])
    (hTab : s₁.heap.get? cP = some { cls := .none, data := .fields #[] }) (nTab : K.lookup cP = none) (hCd : PySem.W.codeHdIn K cC cP = true)
    (hbm : ∃ (bm : Addr) (ob : Obj), mg "__builtins__" = some (.ref bm) ∧ bm ≠ builtinsNs ∧ s₁.heap.get? bm = some ob ∧ ob.cls = .type "module" ∧ ob.dict = some builtinsNs ∧ ob.data = .plain)
    (ha : s₁.heap.get? a = some { cls := .type "list", data := .seq vs.toArray }) (hi : IntsAre vs ns) (hl : ns.length ≤ sizeLine) (hr : Room k callerA)
    (F : ∀ base : Heap, K.In base → base.Ns mainGlobals mg → LamX.TabB base mg cC cP → OkG P w K mg base CX0 k fa fd [x] sp) (hbind : ∀ (s : Shared) (u : Value), BindsTo s fd ⟨[u], []⟩ [(x, u)])
    (hsp : ∀ H : Hp, H cP = some (.tbl #[]) → SqL K H a (ns.map V.int) → sp [.ref a] H (fun v _ => v = .bl true) fun _ _ _ => False) : Law P w fa a s₁ := by
  have rv := vals_ints hi
  have na : a ≠ cP := fun z => by
    rw [z, hTab] at ha
    cases ha
  let H0 : Hp := upd (fun _ => none) cP (.tbl #[])
  have t0 : H0 cP = some (.tbl #[]) := upd_same
  have o0 : ∀ b, b ≠ cP → H0 b = none := fun b z => upd_ne z
  cases hk : K.lookup a with
  | some o =>
    have e := KX a o hk
    rw [ha] at e
    cases e
    have hS : SqL K H0 a (ns.map V.int) := .inr ⟨_, vs.toArray, _, hk, rfl, rfl, rfl, by rw [List.size_toArray, hi.length]; exact hl, by simpa using rv⟩
    refine law_fromT KX hns hb hbb hlim hg hTab nTab hCd hbm ha hr F hbind t0 (fun b n => .inl (o0 b n)) (hsp H0 t0 hS) (fun b u z => ?_) (fun b n z => (z (o0 b n)).elim) (fun z => (z (o0 a na)).elim)
    by_cases q : b = cP
    · subst q
      rw [t0] at z
      cases z
      exact hTab
    · rw [o0 b q] at z
      cases z
  | none =>
    let H1 : Hp := upd H0 a (.frz { cls := .type "list", data := .seq vs.toArray } (.lst (ns.map V.int)))
    have a1 : H1 a = some (.frz { cls := .type "list", data := .seq vs.toArray } (.lst (ns.map V.int))) := upd_same
    have t1 : H1 cP = some (.tbl #[]) := (upd_ne (Ne.symm na)).trans t0
    have o1 : ∀ b, b ≠ cP → b ≠ a → H1 b = none := fun b z y => (upd_ne y).trans (o0 b z)
    refine law_fromT KX hns hb hbb hlim hg hTab nTab hCd hbm ha hr F hbind t1 (fun b n => ?_) (hsp H1 t1 (.inl (.inr ⟨_, a1⟩))) (fun b u z => ?_) (fun b n z => Decidable.byContradiction fun q => z (o1 b n q)) (fun _ => hk)
    · by_cases q : b = a
      · rw [q]
        exact .inr ⟨_, _, a1⟩
      · exact .inl (o1 b n q)
    · by_cases q : b = a
      · subst q
        rw [a1] at z
        cases z
        exact ⟨ha, by rw [List.length_map]; exact hl, vs, _, rv, ha⟩
      · by_cases q2 : b = cP
        · subst q2
          rw [t1] at z
          cases z
          exact hTab
        · rw [o1 b q2 q] at z
          cases z
end
/-- what is known of the law's def -/
def LawT (P : Program) (w : World) (K : PySem.W.Frag) (k n : Nat) (x : Str) (mg : Str → Option Value) (fa : Addr) (h : Heap) : Prop :=
  ∃ (fd : FuncData) (cC cP : Addr) (sp : Sp), h.get? cP = some { cls := .none, data := .fields #[] } ∧ K.lookup cP = none ∧ PySem.W.codeHdIn K cC cP = true ∧ (∀ (s : Shared) (u : Value), BindsTo s fd ⟨[u], []⟩ [(x, u)]) ∧
    (∀ (H : Hp) (a : Addr) (ns : List Int), ns.length ≤ n → H cP = some (.tbl #[]) → SqL K H a (ns.map V.int) → sp [.ref a] H (fun v _ => v = .bl true) fun _ _ _ => False) ∧
    ∀ base : Heap, K.In base → base.Ns mainGlobals mg → LamX.TabB base mg cC cP → OkG P w K mg base CX0 k fa fd [x] sp
theorem walk_GT {l : PySem.W.OpenLaw} {n k : Nat} {q : Program} {loose : List Str} {XP : (Str → Option Value) → Heap → Prop} {YP : World → Heap → Prop} {d : DefRec} {K : Params → PySem.W.Frag} {x : Str}
    (hn : l.most = some n) (hn2 : n ≤ sizeLine) (hdf : d.params.defaults = []) (hr : Room k callerA) (hY : ∀ (w : World) (h : Heap), YP w h → (K w.params).In h)
    (F : ∀ (w : World) (mg : Str → Option Value) (fa : Addr) (h : Heap), YP w h → (K w.params).In h → h.Ns mainGlobals mg → mg d.name = some (.ref fa) → LawT l.prog w (K w.params) k n x mg fa h) :
    PySem.W.WalkO q loose XP YP l.row.toRowW d [] (fun f vs => PySem.call f vs) := by
  refine Att.attach_call hn hdf fun w s₀ s₁ mg mb fa o pm cd doc a vs ns G Y ho hd hcd hmg hobj hints hlen hg => ?_
  have KX := hY w _ Y
  obtain ⟨fd, cC, cP, sp, hT, nT, hC, hbi, hsp, hF⟩ := F w mg fa _ Y KX G.T.g hmg
  exact law_callGT KX G.T.g G.T.b G.T.builtins G.T.nolimit hg hT nT hC G.T.bmain hobj hints (Nat.le_trans hlen hn2) hr hF hbi fun H hH hS => hsp H a ns hlen hH hS
end GL

namespace LW
open PySem PySem.Spec PyProof.Rows L2 GL
theorem facts {K : PySem.W.Frag} {h : Heap} {mg : Str → Option Value} {Z : Prop} (X : K.In h) (G : h.Ns mainGlobals mg)
    {f_is_ratio : Addr} {od_is_ratio an_is_ratio : Option Addr} {sl_is_ratio : Array (Option Value)} {oc_is_ratio kV_is_ratio dc_is_ratio pm_is_ratio cd_is_ratio ct_is_ratio : Value} {f_told : Addr} {od_told an_told : Option Addr} {sl_told : Array (Option Value)} {oc_told kV_told dc_told pm_told cd_told ct_told : Value} {f_plus : Addr} {od_plus an_plus : Option Addr} {sl_plus : Array (Option Value)} {oc_plus kV_plus dc_plus pm_plus cd_plus ct_plus : Value} {f_minus : Addr} {od_minus an_minus : Option Addr} {sl_minus : Array (Option Value)} {oc_minus kV_minus dc_minus pm_minus cd_minus ct_minus : Value} {f_times : Addr} {od_times an_times : Option Addr} {sl_times : Array (Option Value)} {oc_times kV_times dc_times pm_times cd_times ct_times : Value} {f_share : Addr} {od_share an_share : Option Addr} {sl_share : Array (Option Value)} {oc_share kV_share dc_share pm_share cd_share ct_share : Value} {f_lower : Addr} {od_lower an_lower : Option Addr} {sl_lower : Array (Option Value)} {oc_lower kV_lower dc_lower pm_lower cd_lower ct_lower : Value} {f_floor_of : Addr} {od_floor_of an_floor_of : Option Addr} {sl_floor_of : Array (Option Value)} {oc_floor_of kV_floor_of dc_floor_of pm_floor_of cd_floor_of ct_floor_of : Value} {f_ratio_text : Addr} {od_ratio_text an_ratio_text : Option Addr} {sl_ratio_text : Array (Option Value)} {oc_ratio_text kV_ratio_text dc_ratio_text pm_ratio_text cd_ratio_text ct_ratio_text : Value} {f_is_integer : Addr} {od_is_integer an_is_integer : Option Addr} {sl_is_integer : Array (Option Value)} {oc_is_integer kV_is_integer dc_is_integer pm_is_integer cd_is_integer ct_is_integer : Value} {f_parts : Addr} {od_parts an_parts : Option Addr} {sl_parts : Array (Option Value)} {oc_parts kV_parts dc_parts pm_parts cd_parts ct_parts : Value} {f_lowest : Addr} {od_lowest an_lowest : Option Addr} {sl_lowest : Array (Option Value)} {oc_lowest kV_lowest dc_lowest pm_lowest cd_lowest ct_lowest : Value} {f_digits : Addr} {od_digits an_digits : Option Addr} {sl_digits : Array (Option Value)} {oc_digits kV_digits dc_digits pm_digits cd_digits ct_digits : Value} {f_law_pen : Addr} {od_law_pen an_law_pen : Option Addr} {sl_law_pen : Array (Option Value)} {oc_law_pen kV_law_pen dc_law_pen pm_law_pen cd_law_pen ct_law_pen : Value} {f_law_draw : Addr} {od_law_draw an_law_draw : Option Addr} {sl_law_draw : Array (Option Value)} {oc_law_draw kV_law_draw dc_law_draw pm_law_draw cd_law_draw ct_law_draw : Value} {f_law_pick : Addr} {od_law_pick an_law_pick : Option Addr} {sl_law_pick : Array (Option Value)} {oc_law_pick kV_law_pick dc_law_pick pm_law_pick cd_law_pick ct_law_pick : Value} {f_law_is_whole : Addr} {od_law_is_whole an_law_is_whole : Option Addr} {sl_law_is_whole : Array (Option Value)} {oc_law_is_whole kV_law_is_whole dc_law_is_whole pm_law_is_whole cd_law_is_whole ct_law_is_whole : Value} {f_law_gcd : Addr} {od_law_gcd an_law_gcd : Option Addr} {sl_law_gcd : Array (Option Value)} {oc_law_gcd kV_law_gcd dc_law_gcd pm_law_gcd cd_law_gcd ct_law_gcd : Value} {f_law_q : Addr} {od_law_q an_law_q : Option Addr} {sl_law_q : Array (Option Value)} {oc_law_q kV_law_q dc_law_q pm_law_q cd_law_q ct_law_q : Value} {f_law_plus : Addr} {od_law_plus an_law_plus : Option Addr} {sl_law_plus : Array (Option Value)} {oc_law_plus kV_law_plus dc_law_plus pm_law_plus cd_law_plus ct_law_plus : Value} {f_law_minus : Addr} {od_law_minus an_law_minus : Option Addr} {sl_law_minus : Array (Option Value)} {oc_law_minus kV_law_minus dc_law_minus pm_law_minus cd_law_minus ct_law_minus : Value} {f_law_times : Addr} {od_law_times an_law_times : Option Addr} {sl_law_times : Array (Option Value)} {oc_law_times kV_law_times dc_law_times pm_law_times cd_law_times ct_law_times : Value} {f_law_share : Addr} {od_law_share an_law_share : Option Addr} {sl_law_share : Array (Option Value)} {oc_law_share kV_law_share dc_law_share pm_law_share cd_law_share ct_law_share : Value} {f_law_less : Addr} {od_law_less an_law_less : Option Addr} {sl_law_less : Array (Option Value)} {oc_law_less kV_law_less dc_law_less pm_law_less cd_law_less ct_law_less : Value} {f_law_passed : Addr} {od_law_passed an_law_passed : Option Addr} {sl_law_passed : Array (Option Value)} {oc_law_passed kV_law_passed dc_law_passed pm_law_passed cd_law_passed ct_law_passed : Value} {f_law_why : Addr} {od_law_why an_law_why : Option Addr} {sl_law_why : Array (Option Value)} {oc_law_why kV_law_why dc_law_why pm_law_why cd_law_why ct_law_why : Value} {f_law_is : Addr} {od_law_is an_law_is : Option Addr} {sl_law_is : Array (Option Value)} {oc_law_is kV_law_is dc_law_is pm_law_is cd_law_is ct_law_is : Value} {f_law_any : Addr} {od_law_any an_law_any : Option Addr} {sl_law_any : Array (Option Value)} {oc_law_any kV_law_any dc_law_any pm_law_any cd_law_any ct_law_any : Value} {f_law_far : Addr} {od_law_far an_law_far : Option Addr} {sl_law_far : Array (Option Value)} {oc_law_far kV_law_far dc_law_far pm_law_far cd_law_far ct_law_far : Value} {f_law_some_ratio : Addr} {od_law_some_ratio an_law_some_ratio : Option Addr} {sl_law_some_ratio : Array (Option Value)} {oc_law_some_ratio kV_law_some_ratio dc_law_some_ratio pm_law_some_ratio cd_law_some_ratio ct_law_some_ratio : Value} {f_law_refused_right : Addr} {od_law_refused_right an_law_refused_right : Option Addr} {sl_law_refused_right : Array (Option Value)} {oc_law_refused_right kV_law_refused_right dc_law_refused_right pm_law_refused_right ct_law_refused_right : Value} {cC : Addr} {f_law : Addr} {od_law an_law : Option Addr} {sl_law : Array (Option Value)} {oc_law kV_law dc_law pm_law cd_law ct_law : Value} {C_BadText : Addr} {fI_BadText : Addr} {odI_BadText anI_BadText : Option Addr} {slI_BadText : Array (Option Value)} {ocI_BadText kVI_BadText dcI_BadText pmI_BadText cdI_BadText ctI_BadText : Value} {nmI_BadText qI_BadText : Str} {NI_BadText : Addr} {bsI_BadText bmI_BadText : List Value} {snI_BadText : List Str} {subI_BadText : List Value} {abI_BadText : Bool} {colI_BadText : Option Bool} {ddI_BadText : Option Addr} {m0I_BadText m1I_BadText m2I_BadText m3I_BadText m5I_BadText : Option Value} {C_BadNumber : Addr} {fI_BadNumber : Addr} {odI_BadNumber anI_BadNumber : Option Addr} {slI_BadNumber : Array (Option Value)} {ocI_BadNumber kVI_BadNumber dcI_BadNumber pmI_BadNumber cdI_BadNumber ctI_BadNumber : Value} {nmI_BadNumber qI_BadNumber : Str} {NI_BadNumber : Addr} {bsI_BadNumber bmI_BadNumber : List Value} {snI_BadNumber : List Str} {subI_BadNumber : List Value} {abI_BadNumber : Bool} {colI_BadNumber : Option Bool} {ddI_BadNumber : Option Addr} {m0I_BadNumber m1I_BadNumber m2I_BadNumber m3I_BadNumber m5I_BadNumber : Option Value} {C_BadRow : Addr} {fI_BadRow : Addr} {odI_BadRow anI_BadRow : Option Addr} {slI_BadRow : Array (Option Value)} {ocI_BadRow kVI_BadRow dcI_BadRow pmI_BadRow cdI_BadRow ctI_BadRow : Value} {nmI_BadRow qI_BadRow : Str} {NI_BadRow : Addr} {bsI_BadRow bmI_BadRow : List Value} {snI_BadRow : List Str} {subI_BadRow : List Value} {abI_BadRow : Bool} {colI_BadRow : Option Bool} {ddI_BadRow : Option Addr} {m0I_BadRow m1I_BadRow m2I_BadRow m3I_BadRow m5I_BadRow : Option Value}
    (z_int : PySem.W.nsIn K mainGlobals "int" = some none)
    (z_bool : PySem.W.nsIn K mainGlobals "bool" = some none)
    (z_list : PySem.W.nsIn K mainGlobals "list" = some none)
    (z_tuple : PySem.W.nsIn K mainGlobals "tuple" = some none)
    (z_len : PySem.W.nsIn K mainGlobals "len" = some none)
    (z_range : PySem.W.nsIn K mainGlobals "range" = some none)
    (z_str : PySem.W.nsIn K mainGlobals "str" = some none)
    (z_isinstance : PySem.W.nsIn K mainGlobals "isinstance" = some none)
    (z_repr : PySem.W.nsIn K mainGlobals "repr" = some none)
    (z_abs : PySem.W.nsIn K mainGlobals "abs" = some none)
    (z_divmod : PySem.W.nsIn K mainGlobals "divmod" = some none)
    (g_gcd : PySem.W.nsIn K mainGlobals "gcd" = some (some (.builtin "math.gcd")))
    (a_is_ratio : PySem.W.nsIn K mainGlobals "is_ratio" = some (some (.ref f_is_ratio)))
    (l_is_ratio : K.lookup f_is_ratio = some ⟨oc_is_ratio, od_is_ratio, .func (PySem.W.fnOf "is_ratio" "is_ratio" (defArgs sis_ratio) (defBody sis_ratio) (defScope sis_ratio) .none kV_is_ratio dc_is_ratio pm_is_ratio an_is_ratio cd_is_ratio ct_is_ratio), sl_is_ratio⟩)
    (c_is_ratio : PySem.W.codeIn K cd_is_ratio "is_ratio" = true)
    (k_is_ratio : PySem.W.keepIn K (.ref f_is_ratio) = true)
    (a_told : PySem.W.nsIn K mainGlobals "told" = some (some (.ref f_told)))
    (l_told : K.lookup f_told = some ⟨oc_told, od_told, .func (PySem.W.fnOf "told" "told" (defArgs stold) (defBody stold) (defScope stold) .none kV_told dc_told pm_told an_told cd_told ct_told), sl_told⟩)
    (c_told : PySem.W.codeIn K cd_told "told" = true)
    (k_told : PySem.W.keepIn K (.ref f_told) = true)
    (a_plus : PySem.W.nsIn K mainGlobals "plus" = some (some (.ref f_plus)))
    (l_plus : K.lookup f_plus = some ⟨oc_plus, od_plus, .func (PySem.W.fnOf "plus" "plus" (defArgs splus) (defBody splus) (defScope splus) .none kV_plus dc_plus pm_plus an_plus cd_plus ct_plus), sl_plus⟩)
    (c_plus : PySem.W.codeIn K cd_plus "plus" = true)
    (k_plus : PySem.W.keepIn K (.ref f_plus) = true)
    (a_minus : PySem.W.nsIn K mainGlobals "minus" = some (some (.ref f_minus)))
    (l_minus : K.lookup f_minus = some ⟨oc_minus, od_minus, .func (PySem.W.fnOf "minus" "minus" (defArgs sminus) (defBody sminus) (defScope sminus) .none kV_minus dc_minus pm_minus an_minus cd_minus ct_minus), sl_minus⟩)
    (c_minus : PySem.W.codeIn K cd_minus "minus" = true)
    (k_minus : PySem.W.keepIn K (.ref f_minus) = true)
    (a_times : PySem.W.nsIn K mainGlobals "times" = some (some (.ref f_times)))
    (l_times : K.lookup f_times = some ⟨oc_times, od_times, .func (PySem.W.fnOf "times" "times" (defArgs stimes) (defBody stimes) (defScope stimes) .none kV_times dc_times pm_times an_times cd_times ct_times), sl_times⟩)
    (c_times : PySem.W.codeIn K cd_times "times" = true)
    (k_times : PySem.W.keepIn K (.ref f_times) = true)
    (a_share : PySem.W.nsIn K mainGlobals "share" = some (some (.ref f_share)))
    (l_share : K.lookup f_share = some ⟨oc_share, od_share, .func (PySem.W.fnOf "share" "share" (defArgs sshare) (defBody sshare) (defScope sshare) .none kV_share dc_share pm_share an_share cd_share ct_share), sl_share⟩)
    (c_share : PySem.W.codeIn K cd_share "share" = true)
    (k_share : PySem.W.keepIn K (.ref f_share) = true)
    (a_lower : PySem.W.nsIn K mainGlobals "lower" = some (some (.ref f_lower)))
    (l_lower : K.lookup f_lower = some ⟨oc_lower, od_lower, .func (PySem.W.fnOf "lower" "lower" (defArgs slower) (defBody slower) (defScope slower) .none kV_lower dc_lower pm_lower an_lower cd_lower ct_lower), sl_lower⟩)
    (c_lower : PySem.W.codeIn K cd_lower "lower" = true)
    (k_lower : PySem.W.keepIn K (.ref f_lower) = true)
    (a_floor_of : PySem.W.nsIn K mainGlobals "floor_of" = some (some (.ref f_floor_of)))
    (l_floor_of : K.lookup f_floor_of = some ⟨oc_floor_of, od_floor_of, .func (PySem.W.fnOf "floor_of" "floor_of" (defArgs sfloor_of) (defBody sfloor_of) (defScope sfloor_of) .none kV_floor_of dc_floor_of pm_floor_of an_floor_of cd_floor_of ct_floor_of), sl_floor_of⟩)
    (c_floor_of : PySem.W.codeIn K cd_floor_of "floor_of" = true)
    (k_floor_of : PySem.W.keepIn K (.ref f_floor_of) = true)
    (a_ratio_text : PySem.W.nsIn K mainGlobals "ratio_text" = some (some (.ref f_ratio_text)))
    (l_ratio_text : K.lookup f_ratio_text = some ⟨oc_ratio_text, od_ratio_text, .func (PySem.W.fnOf "ratio_text" "ratio_text" (defArgs sratio_text) (defBody sratio_text) (defScope sratio_text) .none kV_ratio_text dc_ratio_text pm_ratio_text an_ratio_text cd_ratio_text ct_ratio_text), sl_ratio_text⟩)
    (c_ratio_text : PySem.W.codeIn K cd_ratio_text "ratio_text" = true)
    (k_ratio_text : PySem.W.keepIn K (.ref f_ratio_text) = true)
    (a_is_integer : PySem.W.nsIn K mainGlobals "is_integer" = some (some (.ref f_is_integer)))
    (l_is_integer : K.lookup f_is_integer = some ⟨oc_is_integer, od_is_integer, .func (PySem.W.fnOf "is_integer" "is_integer" (defArgs sis_integer) (defBody sis_integer) (defScope sis_integer) .none kV_is_integer dc_is_integer pm_is_integer an_is_integer cd_is_integer ct_is_integer), sl_is_integer⟩)
    (c_is_integer : PySem.W.codeIn K cd_is_integer "is_integer" = true)
    (k_is_integer : PySem.W.keepIn K (.ref f_is_integer) = true)
    (a_parts : PySem.W.nsIn K mainGlobals "_parts" = some (some (.ref f_parts)))
    (l_parts : K.lookup f_parts = some ⟨oc_parts, od_parts, .func (PySem.W.fnOf "_parts" "_parts" (defArgs s_parts) (defBody s_parts) (defScope s_parts) .none kV_parts dc_parts pm_parts an_parts cd_parts ct_parts), sl_parts⟩)
    (c_parts : PySem.W.codeIn K cd_parts "_parts" = true)
    (k_parts : PySem.W.keepIn K (.ref f_parts) = true)
    (a_lowest : PySem.W.nsIn K mainGlobals "_lowest" = some (some (.ref f_lowest)))
    (l_lowest : K.lookup f_lowest = some ⟨oc_lowest, od_lowest, .func (PySem.W.fnOf "_lowest" "_lowest" (defArgs s_lowest) (defBody s_lowest) (defScope s_lowest) .none kV_lowest dc_lowest pm_lowest an_lowest cd_lowest ct_lowest), sl_lowest⟩)
    (c_lowest : PySem.W.codeIn K cd_lowest "_lowest" = true)
    (k_lowest : PySem.W.keepIn K (.ref f_lowest) = true)
    (a_digits : PySem.W.nsIn K mainGlobals "_digits" = some (some (.ref f_digits)))
    (l_digits : K.lookup f_digits = some ⟨oc_digits, od_digits, .func (PySem.W.fnOf "_digits" "_digits" (defArgs s_digits) (defBody s_digits) (defScope s_digits) .none kV_digits dc_digits pm_digits an_digits cd_digits ct_digits), sl_digits⟩)
    (c_digits : PySem.W.codeIn K cd_digits "_digits" = true)
    (k_digits : PySem.W.keepIn K (.ref f_digits) = true)
    (a_law_pen : PySem.W.nsIn K mainGlobals "_law_pen" = some (some (.ref f_law_pen)))
    (l_law_pen : K.lookup f_law_pen = some ⟨oc_law_pen, od_law_pen, .func (PySem.W.fnOf "_law_pen" "_law_pen" (defArgs s_law_pen) (defBody s_law_pen) (defScope s_law_pen) .none kV_law_pen dc_law_pen pm_law_pen an_law_pen cd_law_pen ct_law_pen), sl_law_pen⟩)
    (c_law_pen : PySem.W.codeIn K cd_law_pen "_law_pen" = true)
    (k_law_pen : PySem.W.keepIn K (.ref f_law_pen) = true)
    (a_law_draw : PySem.W.nsIn K mainGlobals "_law_draw" = some (some (.ref f_law_draw)))
    (l_law_draw : K.lookup f_law_draw = some ⟨oc_law_draw, od_law_draw, .func (PySem.W.fnOf "_law_draw" "_law_draw" (defArgs s_law_draw) (defBody s_law_draw) (defScope s_law_draw) .none kV_law_draw dc_law_draw pm_law_draw an_law_draw cd_law_draw ct_law_draw), sl_law_draw⟩)
    (c_law_draw : PySem.W.codeIn K cd_law_draw "_law_draw" = true)
    (k_law_draw : PySem.W.keepIn K (.ref f_law_draw) = true)
    (a_law_pick : PySem.W.nsIn K mainGlobals "_law_pick" = some (some (.ref f_law_pick)))
    (l_law_pick : K.lookup f_law_pick = some ⟨oc_law_pick, od_law_pick, .func (PySem.W.fnOf "_law_pick" "_law_pick" (defArgs s_law_pick) (defBody s_law_pick) (defScope s_law_pick) .none kV_law_pick dc_law_pick pm_law_pick an_law_pick cd_law_pick ct_law_pick), sl_law_pick⟩)
    (c_law_pick : PySem.W.codeIn K cd_law_pick "_law_pick" = true)
    (k_law_pick : PySem.W.keepIn K (.ref f_law_pick) = true)
    (a_law_is_whole : PySem.W.nsIn K mainGlobals "_law_is_whole" = some (some (.ref f_law_is_whole)))
    (l_law_is_whole : K.lookup f_law_is_whole = some ⟨oc_law_is_whole, od_law_is_whole, .func (PySem.W.fnOf "_law_is_whole" "_law_is_whole" (defArgs s_law_is_whole) (defBody s_law_is_whole) (defScope s_law_is_whole) .none kV_law_is_whole dc_law_is_whole pm_law_is_whole an_law_is_whole cd_law_is_whole ct_law_is_whole), sl_law_is_whole⟩)
    (c_law_is_whole : PySem.W.codeIn K cd_law_is_whole "_law_is_whole" = true)
    (k_law_is_whole : PySem.W.keepIn K (.ref f_law_is_whole) = true)
    (a_law_gcd : PySem.W.nsIn K mainGlobals "_law_gcd" = some (some (.ref f_law_gcd)))
    (l_law_gcd : K.lookup f_law_gcd = some ⟨oc_law_gcd, od_law_gcd, .func (PySem.W.fnOf "_law_gcd" "_law_gcd" (defArgs s_law_gcd) (defBody s_law_gcd) (defScope s_law_gcd) .none kV_law_gcd dc_law_gcd pm_law_gcd an_law_gcd cd_law_gcd ct_law_gcd), sl_law_gcd⟩)
    (c_law_gcd : PySem.W.codeIn K cd_law_gcd "_law_gcd" = true)
    (k_law_gcd : PySem.W.keepIn K (.ref f_law_gcd) = true)
    (a_law_q : PySem.W.nsIn K mainGlobals "_law_q" = some (some (.ref f_law_q)))
    (l_law_q : K.lookup f_law_q = some ⟨oc_law_q, od_law_q, .func (PySem.W.fnOf "_law_q" "_law_q" (defArgs s_law_q) (defBody s_law_q) (defScope s_law_q) .none kV_law_q dc_law_q pm_law_q an_law_q cd_law_q ct_law_q), sl_law_q⟩)
    (c_law_q : PySem.W.codeIn K cd_law_q "_law_q" = true)
    (k_law_q : PySem.W.keepIn K (.ref f_law_q) = true)
    (a_law_plus : PySem.W.nsIn K mainGlobals "_law_plus" = some (some (.ref f_law_plus)))
    (l_law_plus : K.lookup f_law_plus = some ⟨oc_law_plus, od_law_plus, .func (PySem.W.fnOf "_law_plus" "_law_plus" (defArgs s_law_plus) (defBody s_law_plus) (defScope s_law_plus) .none kV_law_plus dc_law_plus pm_law_plus an_law_plus cd_law_plus ct_law_plus), sl_law_plus⟩)
    (c_law_plus : PySem.W.codeIn K cd_law_plus "_law_plus" = true)
    (k_law_plus : PySem.W.keepIn K (.ref f_law_plus) = true)
    (a_law_minus : PySem.W.nsIn K mainGlobals "_law_minus" = some (some (.ref f_law_minus)))
    (l_law_minus : K.lookup f_law_minus = some ⟨oc_law_minus, od_law_minus, .func (PySem.W.fnOf "_law_minus" "_law_minus" (defArgs s_law_minus) (defBody s_law_minus) (defScope s_law_minus) .none kV_law_minus dc_law_minus pm_law_minus an_law_minus cd_law_minus ct_law_minus), sl_law_minus⟩)
    (c_law_minus : PySem.W.codeIn K cd_law_minus "_law_minus" = true)
    (k_law_minus : PySem.W.keepIn K (.ref f_law_minus) = true)
    (a_law_times : PySem.W.nsIn K mainGlobals "_law_times" = some (some (.ref f_law_times)))
    (l_law_times : K.lookup f_law_times = some ⟨oc_law_times, od_law_times, .func (PySem.W.fnOf "_law_times" "_law_times" (defArgs s_law_times) (defBody s_law_times) (defScope s_law_times) .none kV_law_times dc_law_times pm_law_times an_law_times cd_law_times ct_law_times), sl_law_times⟩)
    (c_law_times : PySem.W.codeIn K cd_law_times "_law_times" = true)
    (k_law_times : PySem.W.keepIn K (.ref f_law_times) = true)
    (a_law_share : PySem.W.nsIn K mainGlobals "_law_share" = some (some (.ref f_law_share)))
    (l_law_share : K.lookup f_law_share = some ⟨oc_law_share, od_law_share, .func (PySem.W.fnOf "_law_share" "_law_share" (defArgs s_law_share) (defBody s_law_share) (defScope s_law_share) .none kV_law_share dc_law_share pm_law_share an_law_share cd_law_share ct_law_share), sl_law_share⟩)
    (c_law_share : PySem.W.codeIn K cd_law_share "_law_share" = true)
    (k_law_share : PySem.W.keepIn K (.ref f_law_share) = true)
    (a_law_less : PySem.W.nsIn K mainGlobals "_law_less" = some (some (.ref f_law_less)))
    (l_law_less : K.lookup f_law_less = some ⟨oc_law_less, od_law_less, .func (PySem.W.fnOf "_law_less" "_law_less" (defArgs s_law_less) (defBody s_law_less) (defScope s_law_less) .none kV_law_less dc_law_less pm_law_less an_law_less cd_law_less ct_law_less), sl_law_less⟩)
    (c_law_less : PySem.W.codeIn K cd_law_less "_law_less" = true)
    (k_law_less : PySem.W.keepIn K (.ref f_law_less) = true)
    (a_law_passed : PySem.W.nsIn K mainGlobals "_law_passed" = some (some (.ref f_law_passed)))
    (l_law_passed : K.lookup f_law_passed = some ⟨oc_law_passed, od_law_passed, .func (PySem.W.fnOf "_law_passed" "_law_passed" (defArgs s_law_passed) (defBody s_law_passed) (defScope s_law_passed) .none kV_law_passed dc_law_passed pm_law_passed an_law_passed cd_law_passed ct_law_passed), sl_law_passed⟩)
    (c_law_passed : PySem.W.codeIn K cd_law_passed "_law_passed" = true)
    (k_law_passed : PySem.W.keepIn K (.ref f_law_passed) = true)
    (a_law_why : PySem.W.nsIn K mainGlobals "_law_why" = some (some (.ref f_law_why)))
    (l_law_why : K.lookup f_law_why = some ⟨oc_law_why, od_law_why, .func (PySem.W.fnOf "_law_why" "_law_why" (defArgs s_law_why) (defBody s_law_why) (defScope s_law_why) .none kV_law_why dc_law_why pm_law_why an_law_why cd_law_why ct_law_why), sl_law_why⟩)
    (c_law_why : PySem.W.codeIn K cd_law_why "_law_why" = true)
    (k_law_why : PySem.W.keepIn K (.ref f_law_why) = true)
    (a_law_is : PySem.W.nsIn K mainGlobals "_law_is" = some (some (.ref f_law_is)))
    (l_law_is : K.lookup f_law_is = some ⟨oc_law_is, od_law_is, .func (PySem.W.fnOf "_law_is" "_law_is" (defArgs s_law_is) (defBody s_law_is) (defScope s_law_is) .none kV_law_is dc_law_is pm_law_is an_law_is cd_law_is ct_law_is), sl_law_is⟩)
    (c_law_is : PySem.W.codeIn K cd_law_is "_law_is" = true)
    (k_law_is : PySem.W.keepIn K (.ref f_law_is) = true)
    (a_law_any : PySem.W.nsIn K mainGlobals "_law_any" = some (some (.ref f_law_any)))
    (l_law_any : K.lookup f_law_any = some ⟨oc_law_any, od_law_any, .func (PySem.W.fnOf "_law_any" "_law_any" (defArgs s_law_any) (defBody s_law_any) (defScope s_law_any) .none kV_law_any dc_law_any pm_law_any an_law_any cd_law_any ct_law_any), sl_law_any⟩)
    (c_law_any : PySem.W.codeIn K cd_law_any "_law_any" = true)
    (k_law_any : PySem.W.keepIn K (.ref f_law_any) = true)
    (a_law_far : PySem.W.nsIn K mainGlobals "_law_far" = some (some (.ref f_law_far)))
    (l_law_far : K.lookup f_law_far = some ⟨oc_law_far, od_law_far, .func (PySem.W.fnOf "_law_far" "_law_far" (defArgs s_law_far) (defBody s_law_far) (defScope s_law_far) .none kV_law_far dc_law_far pm_law_far an_law_far cd_law_far ct_law_far), sl_law_far⟩)
    (c_law_far : PySem.W.codeIn K cd_law_far "_law_far" = true)
    (k_law_far : PySem.W.keepIn K (.ref f_law_far) = true)
    (a_law_some_ratio : PySem.W.nsIn K mainGlobals "_law_some_ratio" = some (some (.ref f_law_some_ratio)))
    (l_law_some_ratio : K.lookup f_law_some_ratio = some ⟨oc_law_some_ratio, od_law_some_ratio, .func (PySem.W.fnOf "_law_some_ratio" "_law_some_ratio" (defArgs s_law_some_ratio) (defBody s_law_some_ratio) (defScope s_law_some_ratio) .none kV_law_some_ratio dc_law_some_ratio pm_law_some_ratio an_law_some_ratio cd_law_some_ratio ct_law_some_ratio), sl_law_some_ratio⟩)
    (c_law_some_ratio : PySem.W.codeIn K cd_law_some_ratio "_law_some_ratio" = true)
    (k_law_some_ratio : PySem.W.keepIn K (.ref f_law_some_ratio) = true)
    (a_law_refused_right : PySem.W.nsIn K mainGlobals "_law_refused_right" = some (some (.ref f_law_refused_right)))
    (l_law_refused_right : K.lookup f_law_refused_right = some ⟨oc_law_refused_right, od_law_refused_right, .func (PySem.W.fnOf "_law_refused_right" "_law_refused_right" (defArgs s_law_refused_right) (defBody s_law_refused_right) (defScope s_law_refused_right) .none kV_law_refused_right dc_law_refused_right pm_law_refused_right an_law_refused_right (.ref cC) ct_law_refused_right), sl_law_refused_right⟩)
    (c_law_refused_right : PySem.W.codeIn K (.ref cC) "_law_refused_right" = true)
    (k_law_refused_right : PySem.W.keepIn K (.ref f_law_refused_right) = true)
    (a_law : PySem.W.nsIn K mainGlobals "law" = some (some (.ref f_law)))
    (l_law : K.lookup f_law = some ⟨oc_law, od_law, .func (PySem.W.fnOf "law" "law" (defArgs slaw) (defBody slaw) (defScope slaw) .none kV_law dc_law pm_law an_law cd_law ct_law), sl_law⟩)
    (c_law : PySem.W.codeIn K cd_law "law" = true)
    (k_law : PySem.W.keepIn K (.ref f_law) = true)
    (hn_ : PySem.W.specialIn K (.builtin "object.__class__") "__get__" = some (some (.builtin "getset_descriptor.__get__")))
    (ht_ : PySem.W.takesIn K (.builtin "object.__class__") = some true)
    (a_BadText : PySem.W.nsIn K mainGlobals "BadText" = some (some (.ref C_BadText)))
    (ga_BadText : PySem.W.findIn K (.ref C_BadText) "__getattribute__" = some (some (.builtin "BaseException.__getattribute__")))
    (gg_BadText : PySem.W.findIn K (.ref C_BadText) "__getattr__" = some none)
    (sb_BadText : PySem.W.subIn K (.ref C_BadText) (.type "BaseException") = some true)
    (hd_BadText : PySem.W.hasDictIn K C_BadText = true)
    (ca_BadText : PySem.W.findIn K (.ref C_BadText) "__class__" = some (some (.builtin "object.__class__")))
    (mo_BadText : PySem.W.mroIn K C_BadText (.type "object") = some true)
    (kp_BadText : PySem.W.keepIn K (.ref C_BadText) = true)
    (xL_BadText : K.lookup C_BadText = some (excClassObj nmI_BadText qI_BadText C_BadText NI_BadText bsI_BadText bmI_BadText true snI_BadText subI_BadText abI_BadText colI_BadText ddI_BadText m0I_BadText m1I_BadText m2I_BadText m3I_BadText m5I_BadText "ValueError.__new__"))
    (rb_BadText : PySem.HandSPX.refsVE bmI_BadText = true)
    (sa_BadText : PySem.W.findIn K (.ref C_BadText) "__setattr__" = some (some (.builtin "object.__setattr__")))
    (ty_BadText : PySem.W.typeIn K (.ref C_BadText) = some (.type "type"))
    (i_BadText : PySem.W.findIn K (.ref C_BadText) "__init__" = some (some (.ref fI_BadText)))
    (t_BadText : PySem.W.typeIn K (.ref fI_BadText) = some (.type "function"))
    (lI_BadText : K.lookup fI_BadText = some ⟨ocI_BadText, odI_BadText, .func (PySem.W.fnOf "__init__" "BadText.__init__" (defArgs (inClass (top 3) 0)) (defBody (inClass (top 3) 0)) (defScope (inClass (top 3) 0)) .none kVI_BadText dcI_BadText pmI_BadText anI_BadText cdI_BadText ctI_BadText), slI_BadText⟩)
    (cI_BadText : PySem.W.codeIn K cdI_BadText "BadText.__init__" = true)
    (kI_BadText : PySem.W.keepIn K (.ref fI_BadText) = true)
    (n_BadText_column : PySem.W.findIn K (.ref C_BadText) "column" = some none)
    (a_BadNumber : PySem.W.nsIn K mainGlobals "BadNumber" = some (some (.ref C_BadNumber)))
    (ga_BadNumber : PySem.W.findIn K (.ref C_BadNumber) "__getattribute__" = some (some (.builtin "BaseException.__getattribute__")))
    (gg_BadNumber : PySem.W.findIn K (.ref C_BadNumber) "__getattr__" = some none)
    (sb_BadNumber : PySem.W.subIn K (.ref C_BadNumber) (.type "BaseException") = some true)
    (hd_BadNumber : PySem.W.hasDictIn K C_BadNumber = true)
    (ca_BadNumber : PySem.W.findIn K (.ref C_BadNumber) "__class__" = some (some (.builtin "object.__class__")))
    (mo_BadNumber : PySem.W.mroIn K C_BadNumber (.type "object") = some true)
    (kp_BadNumber : PySem.W.keepIn K (.ref C_BadNumber) = true)
    (xL_BadNumber : K.lookup C_BadNumber = some (excClassObj nmI_BadNumber qI_BadNumber C_BadNumber NI_BadNumber bsI_BadNumber bmI_BadNumber true snI_BadNumber subI_BadNumber abI_BadNumber colI_BadNumber ddI_BadNumber m0I_BadNumber m1I_BadNumber m2I_BadNumber m3I_BadNumber m5I_BadNumber "ValueError.__new__"))
    (rb_BadNumber : PySem.HandSPX.refsVE bmI_BadNumber = true)
    (sa_BadNumber : PySem.W.findIn K (.ref C_BadNumber) "__setattr__" = some (some (.builtin "object.__setattr__")))
    (ty_BadNumber : PySem.W.typeIn K (.ref C_BadNumber) = some (.type "type"))
    (i_BadNumber : PySem.W.findIn K (.ref C_BadNumber) "__init__" = some (some (.ref fI_BadNumber)))
    (t_BadNumber : PySem.W.typeIn K (.ref fI_BadNumber) = some (.type "function"))
    (lI_BadNumber : K.lookup fI_BadNumber = some ⟨ocI_BadNumber, odI_BadNumber, .func (PySem.W.fnOf "__init__" "BadNumber.__init__" (defArgs (inClass (top 4) 0)) (defBody (inClass (top 4) 0)) (defScope (inClass (top 4) 0)) .none kVI_BadNumber dcI_BadNumber pmI_BadNumber anI_BadNumber cdI_BadNumber ctI_BadNumber), slI_BadNumber⟩)
    (cI_BadNumber : PySem.W.codeIn K cdI_BadNumber "BadNumber.__init__" = true)
    (kI_BadNumber : PySem.W.keepIn K (.ref fI_BadNumber) = true)
    (n_BadNumber_what : PySem.W.findIn K (.ref C_BadNumber) "what" = some none)
    (n_BadNumber_number : PySem.W.findIn K (.ref C_BadNumber) "number" = some none)
    (a_BadRow : PySem.W.nsIn K mainGlobals "BadRow" = some (some (.ref C_BadRow)))
    (ga_BadRow : PySem.W.findIn K (.ref C_BadRow) "__getattribute__" = some (some (.builtin "BaseException.__getattribute__")))
    (gg_BadRow : PySem.W.findIn K (.ref C_BadRow) "__getattr__" = some none)
    (sb_BadRow : PySem.W.subIn K (.ref C_BadRow) (.type "BaseException") = some true)
    (hd_BadRow : PySem.W.hasDictIn K C_BadRow = true)
    (ca_BadRow : PySem.W.findIn K (.ref C_BadRow) "__class__" = some (some (.builtin "object.__class__")))
    (mo_BadRow : PySem.W.mroIn K C_BadRow (.type "object") = some true)
    (kp_BadRow : PySem.W.keepIn K (.ref C_BadRow) = true)
    (xL_BadRow : K.lookup C_BadRow = some (excClassObj nmI_BadRow qI_BadRow C_BadRow NI_BadRow bsI_BadRow bmI_BadRow true snI_BadRow subI_BadRow abI_BadRow colI_BadRow ddI_BadRow m0I_BadRow m1I_BadRow m2I_BadRow m3I_BadRow m5I_BadRow "ValueError.__new__"))
    (rb_BadRow : PySem.HandSPX.refsVE bmI_BadRow = true)
    (sa_BadRow : PySem.W.findIn K (.ref C_BadRow) "__setattr__" = some (some (.builtin "object.__setattr__")))
    (ty_BadRow : PySem.W.typeIn K (.ref C_BadRow) = some (.type "type"))
    (i_BadRow : PySem.W.findIn K (.ref C_BadRow) "__init__" = some (some (.ref fI_BadRow)))
    (t_BadRow : PySem.W.typeIn K (.ref fI_BadRow) = some (.type "function"))
    (lI_BadRow : K.lookup fI_BadRow = some ⟨ocI_BadRow, odI_BadRow, .func (PySem.W.fnOf "__init__" "BadRow.__init__" (defArgs (inClass (top 5) 0)) (defBody (inClass (top 5) 0)) (defScope (inClass (top 5) 0)) .none kVI_BadRow dcI_BadRow pmI_BadRow anI_BadRow cdI_BadRow ctI_BadRow), slI_BadRow⟩)
    (cI_BadRow : PySem.W.codeIn K cdI_BadRow "BadRow.__init__" = true)
    (kI_BadRow : PySem.W.keepIn K (.ref fI_BadRow) = true)
    (n_BadRow_row : PySem.W.findIn K (.ref C_BadRow) "row" = some none)
    (e_xBadNumberBadText : PySem.W.exmOne K (.ref C_BadNumber) (.ref C_BadText) = some false)
    (e_xBadNumberBadNumber : PySem.W.exmOne K (.ref C_BadNumber) (.ref C_BadNumber) = some true)
    (fin : Txt K mg → (fDat K (fA mg "_law_refused_right")).code = .ref cC → Z) : Z := fin {
  int := PySem.W.mg_none_of X G z_int
  bool := PySem.W.mg_none_of X G z_bool
  list := PySem.W.mg_none_of X G z_list
  tuple := PySem.W.mg_none_of X G z_tuple
  len := PySem.W.mg_none_of X G z_len
  range := PySem.W.mg_none_of X G z_range
  str := PySem.W.mg_none_of X G z_str
  isinstance := PySem.W.mg_none_of X G z_isinstance
  repr := PySem.W.mg_none_of X G z_repr
  abs := PySem.W.mg_none_of X G z_abs
  divmod := PySem.W.mg_none_of X G z_divmod
  gcd := PySem.W.mg_of X G g_gcd
  is_ratio := Df.mk' X G a_is_ratio l_is_ratio c_is_ratio k_is_ratio fun _ _ _ _ _ _ us hl => match us, hl with | [_], _ => rfl
  told := Df.mk' X G a_told l_told c_told k_told fun _ _ _ _ _ _ us hl => match us, hl with | [_, _], _ => rfl
  plus := Df.mk' X G a_plus l_plus c_plus k_plus fun _ _ _ _ _ _ us hl => match us, hl with | [_, _], _ => rfl
  minus := Df.mk' X G a_minus l_minus c_minus k_minus fun _ _ _ _ _ _ us hl => match us, hl with | [_, _], _ => rfl
  times := Df.mk' X G a_times l_times c_times k_times fun _ _ _ _ _ _ us hl => match us, hl with | [_, _], _ => rfl
  share := Df.mk' X G a_share l_share c_share k_share fun _ _ _ _ _ _ us hl => match us, hl with | [_, _], _ => rfl
  lower := Df.mk' X G a_lower l_lower c_lower k_lower fun _ _ _ _ _ _ us hl => match us, hl with | [_, _], _ => rfl
  floor_of := Df.mk' X G a_floor_of l_floor_of c_floor_of k_floor_of fun _ _ _ _ _ _ us hl => match us, hl with | [_], _ => rfl
  ratio_text := Df.mk' X G a_ratio_text l_ratio_text c_ratio_text k_ratio_text fun _ _ _ _ _ _ us hl => match us, hl with | [_], _ => rfl
  is_integer := Df.mk' X G a_is_integer l_is_integer c_is_integer k_is_integer fun _ _ _ _ _ _ us hl => match us, hl with | [_], _ => rfl
  _parts := Df.mk' X G a_parts l_parts c_parts k_parts fun _ _ _ _ _ _ us hl => match us, hl with | [_, _], _ => rfl
  _lowest := Df.mk' X G a_lowest l_lowest c_lowest k_lowest fun _ _ _ _ _ _ us hl => match us, hl with | [_, _], _ => rfl
  _digits := Df.mk' X G a_digits l_digits c_digits k_digits fun _ _ _ _ _ _ us hl => match us, hl with | [_], _ => rfl
  _law_pen := Df.mk' X G a_law_pen l_law_pen c_law_pen k_law_pen fun _ _ _ _ _ _ us hl => match us, hl with | [_], _ => rfl
  _law_draw := Df.mk' X G a_law_draw l_law_draw c_law_draw k_law_draw fun _ _ _ _ _ _ us hl => match us, hl with | [_, _], _ => rfl
  _law_pick := Df.mk' X G a_law_pick l_law_pick c_law_pick k_law_pick fun _ _ _ _ _ _ us hl => match us, hl with | [_, _], _ => rfl
  _law_is_whole := Df.mk' X G a_law_is_whole l_law_is_whole c_law_is_whole k_law_is_whole fun _ _ _ _ _ _ us hl => match us, hl with | [_], _ => rfl
  _law_gcd := Df.mk' X G a_law_gcd l_law_gcd c_law_gcd k_law_gcd fun _ _ _ _ _ _ us hl => match us, hl with | [_, _], _ => rfl
  _law_q := Df.mk' X G a_law_q l_law_q c_law_q k_law_q fun _ _ _ _ _ _ us hl => match us, hl with | [_, _], _ => rfl
  _law_plus := Df.mk' X G a_law_plus l_law_plus c_law_plus k_law_plus fun _ _ _ _ _ _ us hl => match us, hl with | [_, _], _ => rfl
  _law_minus := Df.mk' X G a_law_minus l_law_minus c_law_minus k_law_minus fun _ _ _ _ _ _ us hl => match us, hl with | [_, _], _ => rfl
  _law_times := Df.mk' X G a_law_times l_law_times c_law_times k_law_times fun _ _ _ _ _ _ us hl => match us, hl with | [_, _], _ => rfl
  _law_share := Df.mk' X G a_law_share l_law_share c_law_share k_law_share fun _ _ _ _ _ _ us hl => match us, hl with | [_, _], _ => rfl
  _law_less := Df.mk' X G a_law_less l_law_less c_law_less k_law_less fun _ _ _ _ _ _ us hl => match us, hl with | [_, _], _ => rfl
  _law_passed := Df.mk' X G a_law_passed l_law_passed c_law_passed k_law_passed fun _ _ _ _ _ _ us hl => match us, hl with | [_, _], _ => rfl
  _law_why := Df.mk' X G a_law_why l_law_why c_law_why k_law_why fun _ _ _ _ _ _ us hl => match us, hl with | [_], _ => rfl
  _law_is := Df.mk' X G a_law_is l_law_is c_law_is k_law_is fun _ _ _ _ _ _ us hl => match us, hl with | [_, _], _ => rfl
  _law_any := Df.mk' X G a_law_any l_law_any c_law_any k_law_any fun _ _ _ _ _ _ us hl => match us, hl with | [_], _ => rfl
  _law_far := Df.mk' X G a_law_far l_law_far c_law_far k_law_far fun _ _ _ _ _ _ us hl => match us, hl with | [_], _ => rfl
  _law_some_ratio := Df.mk' X G a_law_some_ratio l_law_some_ratio c_law_some_ratio k_law_some_ratio fun _ _ _ _ _ _ us hl => match us, hl with | [_], _ => rfl
  _law_refused_right := Df.mk' X G a_law_refused_right l_law_refused_right c_law_refused_right k_law_refused_right fun _ _ _ _ _ _ us hl => match us, hl with | [_, _], _ => rfl
  law := Df.mk' X G a_law l_law c_law k_law fun _ _ _ _ _ _ us hl => match us, hl with | [_], _ => rfl
  BadText := ClI.mk' X G a_BadText ⟨ga_BadText, gg_BadText, sb_BadText, hd_BadText, ca_BadText, hn_, ht_, mo_BadText⟩ ⟨⟨_, _, _, _, _, _, _, _, _, _, _, _, _, _, _, xL_BadText, rb_BadText⟩, sa_BadText, sb_BadText, ty_BadText, kp_BadText⟩ i_BadText t_BadText lI_BadText cI_BadText kI_BadText (fun _ _ _ _ _ _ us hl => match us, hl with | [_, _], _ => rfl) (List.forall_mem_cons.mpr ⟨n_BadText_column, List.forall_mem_nil _⟩)
  BadNumber := ClI.mk' X G a_BadNumber ⟨ga_BadNumber, gg_BadNumber, sb_BadNumber, hd_BadNumber, ca_BadNumber, hn_, ht_, mo_BadNumber⟩ ⟨⟨_, _, _, _, _, _, _, _, _, _, _, _, _, _, _, xL_BadNumber, rb_BadNumber⟩, sa_BadNumber, sb_BadNumber, ty_BadNumber, kp_BadNumber⟩ i_BadNumber t_BadNumber lI_BadNumber cI_BadNumber kI_BadNumber (fun _ _ _ _ _ _ us hl => match us, hl with | [_, _, _], _ => rfl) (List.forall_mem_cons.mpr ⟨n_BadNumber_what, List.forall_mem_cons.mpr ⟨n_BadNumber_number, List.forall_mem_nil _⟩⟩)
  BadRow := ClI.mk' X G a_BadRow ⟨ga_BadRow, gg_BadRow, sb_BadRow, hd_BadRow, ca_BadRow, hn_, ht_, mo_BadRow⟩ ⟨⟨_, _, _, _, _, _, _, _, _, _, _, _, _, _, _, xL_BadRow, rb_BadRow⟩, sa_BadRow, sb_BadRow, ty_BadRow, kp_BadRow⟩ i_BadRow t_BadRow lI_BadRow cI_BadRow kI_BadRow (fun _ _ _ _ _ _ us hl => match us, hl with | [_, _], _ => rfl) (List.forall_mem_cons.mpr ⟨n_BadRow_row, List.forall_mem_nil _⟩)
  xBadNumberBadText := by rw [fA_of (PySem.W.mg_of X G a_BadNumber), fA_of (PySem.W.mg_of X G a_BadText)]; exact e_xBadNumberBadText
  xBadNumberBadNumber := by rw [fA_of (PySem.W.mg_of X G a_BadNumber)]; exact e_xBadNumberBadNumber
  lb := fun s u => by rw [fA_of (PySem.W.mg_of X G a_law), fDat_of l_law]; exact .of_eq rfl } (by rw [fA_of (PySem.W.mg_of X G a_law_refused_right), fDat_of l_law_refused_right])
end LW
open PySem PySem.W PyProof.Rows
set_option maxRecDepth 100000 in
set_option maxHeartbeats 0 in
theorem PySem.Challenge.cw_flowpapers_k01_whole_ratios_holds : PySem.Challenge.rw_flowpapers_k01_whole_ratios.Holds := by
  w_on; o_law; k_head; (case hw => w_witness2)
  k_fill
  refine GL.walk_GT (l := PySem.Challenge.rw_flowpapers_k01_whole_ratios) (n := 63) (k := 12) (x := "_law_script") rfl (by decide) rfl ⟨rfl, by decide, by decide⟩ (fun w h Y => PySem.W.km_in_of Y) ?F
  case F =>
    intro w mg fa h Y KX G hmg
    have hT8 := PySem.W.km_tabs_of Y
    have hT9 := hT8 _ (List.mem_singleton.mpr rfl)
    refine' LW.facts KX G ?z_int ?z_bool ?z_list ?z_tuple ?z_len ?z_range ?z_str ?z_isinstance ?z_repr ?z_abs ?z_divmod ?g_gcd ?a_is_ratio ?l_is_ratio ?c_is_ratio ?k_is_ratio ?a_told ?l_told ?c_told ?k_told ?a_plus ?l_plus ?c_plus ?k_plus ?a_minus ?l_minus ?c_minus ?k_minus ?a_times ?l_times ?c_times ?k_times ?a_share ?l_share ?c_share ?k_share ?a_lower ?l_lower ?c_lower ?k_lower ?a_floor_of ?l_floor_of ?c_floor_of ?k_floor_of ?a_ratio_text ?l_ratio_text ?c_ratio_text ?k_ratio_text ?a_is_integer ?l_is_integer ?c_is_integer ?k_is_integer ?a_parts ?l_parts ?c_parts ?k_parts ?a_lowest ?l_lowest ?c_lowest ?k_lowest ?a_digits ?l_digits ?c_digits ?k_digits ?a_law_pen ?l_law_pen ?c_law_pen ?k_law_pen ?a_law_draw ?l_law_draw ?c_law_draw ?k_law_draw ?a_law_pick ?l_law_pick ?c_law_pick ?k_law_pick ?a_law_is_whole ?l_law_is_whole ?c_law_is_whole ?k_law_is_whole ?a_law_gcd ?l_law_gcd ?c_law_gcd ?k_law_gcd ?a_law_q ?l_law_q ?c_law_q ?k_law_q ?a_law_plus ?l_law_plus ?c_law_plus ?k_law_plus ?a_law_minus ?l_law_minus ?c_law_minus ?k_law_minus ?a_law_times ?l_law_times ?c_law_times ?k_law_times ?a_law_share ?l_law_share ?c_law_share ?k_law_share ?a_law_less ?l_law_less ?c_law_less ?k_law_less ?a_law_passed ?l_law_passed ?c_law_passed ?k_law_passed ?a_law_why ?l_law_why ?c_law_why ?k_law_why ?a_law_is ?l_law_is ?c_law_is ?k_law_is ?a_law_any ?l_law_any ?c_law_any ?k_law_any ?a_law_far ?l_law_far ?c_law_far ?k_law_far ?a_law_some_ratio ?l_law_some_ratio ?c_law_some_ratio ?k_law_some_ratio ?a_law_refused_right ?l_law_refused_right ?c_law_refused_right ?k_law_refused_right ?a_law ?l_law ?c_law ?k_law ?hn_ ?ht_ ?a_BadText ?ga_BadText ?gg_BadText ?sb_BadText ?hd_BadText ?ca_BadText ?mo_BadText ?kp_BadText ?xL_BadText ?rb_BadText ?sa_BadText ?ty_BadText ?i_BadText ?t_BadText ?lI_BadText ?cI_BadText ?kI_BadText ?n_BadText_column ?a_BadNumber ?ga_BadNumber ?gg_BadNumber ?sb_BadNumber ?hd_BadNumber ?ca_BadNumber ?mo_BadNumber ?kp_BadNumber ?xL_BadNumber ?rb_BadNumber ?sa_BadNumber ?ty_BadNumber ?i_BadNumber ?t_BadNumber ?lI_BadNumber ?cI_BadNumber ?kI_BadNumber ?n_BadNumber_what ?n_BadNumber_number ?a_BadRow ?ga_BadRow ?gg_BadRow ?sb_BadRow ?hd_BadRow ?ca_BadRow ?mo_BadRow ?kp_BadRow ?xL_BadRow ?rb_BadRow ?sa_BadRow ?ty_BadRow ?i_BadRow ?t_BadRow ?lI_BadRow ?cI_BadRow ?kI_BadRow ?n_BadRow_row ?e_xBadNumberBadText ?e_xBadNumberBadNumber ?fin
    (case z_int => k_is); (case z_bool => k_is); (case z_list => k_is); (case z_tuple => k_is); (case z_len => k_is); (case z_range => k_is); (case z_str => k_is); (case z_isinstance => k_is); (case z_repr => k_is); (case z_abs => k_is); (case z_divmod => k_is); (case g_gcd => k_is); (case a_is_ratio => k_is); (case l_is_ratio => k_is); (case c_is_ratio => k_is); (case k_is_ratio => k_is); (case a_told => k_is); (case l_told => k_is); (case c_told => k_is); (case k_told => k_is); (case a_plus => k_is); (case l_plus => k_is); (case c_plus => k_is); (case k_plus => k_is); (case a_minus => k_is); (case l_minus => k_is); (case c_minus => k_is); (case k_minus => k_is); (case a_times => k_is); (case l_times => k_is); (case c_times => k_is); (case k_times => k_is); (case a_share => k_is); (case l_share => k_is); (case c_share => k_is); (case k_share => k_is); (case a_lower => k_is); (case l_lower => k_is); (case c_lower => k_is); (case k_lower => k_is); (case a_floor_of => k_is); (case l_floor_of => k_is); (case c_floor_of => k_is); (case k_floor_of => k_is); (case a_ratio_text => k_is); (case l_ratio_text => k_is); (case c_ratio_text => k_is); (case k_ratio_text => k_is); (case a_is_integer => k_is); (case l_is_integer => k_is); (case c_is_integer => k_is); (case k_is_integer => k_is); (case a_parts => k_is); (case l_parts => k_is); (case c_parts => k_is); (case k_parts => k_is); (case a_lowest => k_is); (case l_lowest => k_is); (case c_lowest => k_is); (case k_lowest => k_is); (case a_digits => k_is); (case l_digits => k_is); (case c_digits => k_is); (case k_digits => k_is); (case a_law_pen => k_is); (case l_law_pen => k_is); (case c_law_pen => k_is); (case k_law_pen => k_is); (case a_law_draw => k_is); (case l_law_draw => k_is); (case c_law_draw => k_is); (case k_law_draw => k_is); (case a_law_pick => k_is); (case l_law_pick => k_is); (case c_law_pick => k_is); (case k_law_pick => k_is); (case a_law_is_whole => k_is); (case l_law_is_whole => k_is); (case c_law_is_whole => k_is); (case k_law_is_whole => k_is); (case a_law_gcd => k_is); (case l_law_gcd => k_is); (case c_law_gcd => k_is); (case k_law_gcd => k_is); (case a_law_q => k_is); (case l_law_q => k_is); (case c_law_q => k_is); (case k_law_q => k_is); (case a_law_plus => k_is); (case l_law_plus => k_is); (case c_law_plus => k_is); (case k_law_plus => k_is); (case a_law_minus => k_is); (case l_law_minus => k_is); (case c_law_minus => k_is); (case k_law_minus => k_is); (case a_law_times => k_is); (case l_law_times => k_is); (case c_law_times => k_is); (case k_law_times => k_is); (case a_law_share => k_is); (case l_law_share => k_is); (case c_law_share => k_is); (case k_law_share => k_is); (case a_law_less => k_is); (case l_law_less => k_is); (case c_law_less => k_is); (case k_law_less => k_is); (case a_law_passed => k_is); (case l_law_passed => k_is); (case c_law_passed => k_is); (case k_law_passed => k_is); (case a_law_why => k_is); (case l_law_why => k_is); (case c_law_why => k_is); (case k_law_why => k_is); (case a_law_is => k_is); (case l_law_is => k_is); (case c_law_is => k_is); (case k_law_is => k_is); (case a_law_any => k_is); (case l_law_any => k_is); (case c_law_any => k_is); (case k_law_any => k_is); (case a_law_far => k_is); (case l_law_far => k_is); (case c_law_far => k_is); (case k_law_far => k_is); (case a_law_some_ratio => k_is); (case l_law_some_ratio => k_is); (case c_law_some_ratio => k_is); (case k_law_some_ratio => k_is); (case a_law_refused_right => k_is); (case l_law_refused_right => k_is); (case c_law_refused_right => k_is); (case k_law_refused_right => k_is); (case a_law => k_is); (case l_law => k_is); (case c_law => k_is); (case k_law => k_is); (case hn_ => k_is); (case ht_ => k_is); (case a_BadText => k_is); (case ga_BadText => k_is); (case gg_BadText => k_is); (case sb_BadText => k_is); (case hd_BadText => k_is); (case ca_BadText => k_is); (case mo_BadText => k_is); (case kp_BadText => k_is); (case xL_BadText => k_is); (case rb_BadText => decide +kernel); (case sa_BadText => k_is); (case ty_BadText => k_is); (case i_BadText => k_is); (case t_BadText => k_is); (case lI_BadText => k_is); (case cI_BadText => k_is); (case kI_BadText => k_is); (case n_BadText_column => k_is); (case a_BadNumber => k_is); (case ga_BadNumber => k_is); (case gg_BadNumber => k_is); (case sb_BadNumber => k_is); (case hd_BadNumber => k_is); (case ca_BadNumber => k_is); (case mo_BadNumber => k_is); (case kp_BadNumber => k_is); (case xL_BadNumber => k_is); (case rb_BadNumber => decide +kernel); (case sa_BadNumber => k_is); (case ty_BadNumber => k_is); (case i_BadNumber => k_is); (case t_BadNumber => k_is); (case lI_BadNumber => k_is); (case cI_BadNumber => k_is); (case kI_BadNumber => k_is); (case n_BadNumber_what => k_is); (case n_BadNumber_number => k_is); (case a_BadRow => k_is); (case ga_BadRow => k_is); (case gg_BadRow => k_is); (case sb_BadRow => k_is); (case hd_BadRow => k_is); (case ca_BadRow => k_is); (case mo_BadRow => k_is); (case kp_BadRow => k_is); (case xL_BadRow => k_is); (case rb_BadRow => decide +kernel); (case sa_BadRow => k_is); (case ty_BadRow => k_is); (case i_BadRow => k_is); (case t_BadRow => k_is); (case lI_BadRow => k_is); (case cI_BadRow => k_is); (case kI_BadRow => k_is); (case n_BadRow_row => k_is); (case e_xBadNumberBadText => kernel_rfl); (case e_xBadNumberBadNumber => kernel_rfl)
    case fin =>
      intro T hcd
      have e : fa = GL.fA mg "law" := by
        have q := hmg.symm.trans T.law.g
        exact Value.ref.inj (Option.some.inj q)
      subst e
      refine ⟨_, _, _, _, hT9, Option.isNone_iff_eq_none.mp (by kernel_rfl), by kernel_rfl, T.lb, fun H a ns hl hH hS => ⟨a, ns, rfl, hS, hl, fun p hp => ?_, fun _ => rfl⟩, fun base _ _ TB => LW.ok_law T TB hcd⟩
      rw [List.mem_singleton.mp hp]
      exact LamX.TabS.nil hH
